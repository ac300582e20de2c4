import PyProof.Rows.All
import Wide.All
import OpenK.AllK
import Wide.FinOn
import Lean
import PyProof.EqAt
import PyProof.EqKinds
import PyProof.TupleCall
import PyProof.Rows.StrCountLaw
import PyProof.Rows.StrFirst
import PyProof.Rows.StrLast
import PyProof.Rows.StrNews2
import PyProof.Rows.StrSplitCount
import PyProof.StrBlockI
import PyProof.StrLawsIn
import PyProof.StrLawsLast
import PyProof.EnumMake
import PyProof.FString
import PyProof.ReprStr
import PyProof.StrLawsRepr
import PyProof.ListStr
import PyProof.ListRange
import PySem.Challenge.RW_grooveway_k41_look
set_option genSizeOf false
set_option compiler.extract_closed false
set_option Elab.async false
set_option linter.all false
set_option maxRecDepth 100000
set_option maxHeartbeats 4000000
set_option hygiene false
local macro_rules|`('a')=>`(by omega)|`('b')=>`(by decide)|`('c')=>`(by simp)|`('d')=>`(eC (.int 1))|`('e')=>`(model X.prog X.w)|`('f')=>`(List Pr)|`('g')=>`(Addr×Obj)|`('h')=>`(model prog w)|`('i')=>`(some (nD k))|`('j')=>`(some (nD (base.getD i 0)))|`('k')=>`(.dT kvs)|`('l')=>`(λ_ z=>by cases z)|`('m')=>`(eC (.int 0))|`('n')=>`(Zb (Za 0) eNil)|`('o')=>`(eC (.int 2))|`('p')=>`(.lst [])|`('q')=>`(Same.refl H)|`('r')=>`(Zb (Za 2) eNil)|`('s')=>`(.inl rfl)|`('t')=>`(eC (.int 3))
open PySem.W(Frag)
def ja:=@List.length_map
def jb:=@PySem.wpAny_bind
def jc:=@List.length_append
def jd:=@List.getElem?_eq_getElem
def je:=@if_pos
def jf:=@PySem.wpAny_pure
def jg:=@if_neg
def jh:=@PySem.Heap.get?_push_of_some
def ji:=@List.getElem?_map
def jj:=@List.mem_cons_self
def jk:=@Nat.le_refl
def jl:=@List.getElem?_set_ne
def jm:=@List.map_append
def jo:=@Option.some.inj
def jp:=@List.map_cons
def jq:=@List.mem_cons_of_mem
def jr:=@PySem.Heap.get?_push_size
def jt:=@List.getElem?_eq_some_iff
def ju:=@List.mem_singleton
def jv:=@List.getD_eq_getElem?_getD
def jw:=@List.mem_append_right
def jx:=@List.length_cons
def jy:=@Bool.false_ne_true
def jz:=@PySem.Heap.lt_size
def jA:=@List.mem_cons
def jB:=@List.getElem?_set_self
def jC:=@List.length_range
def jD:=@List.getElem?_append_left
def jE:=@List.mem_map
def jF:=@decide_eq_false
def jG:=@List.getElem?_append_right
def jH:=@List.length_replicate
def jI:=@List.mem_of_getElem?
def jJ:=@Nat.lt_of_lt_of_le
def jK:=@List.mem_append
def jL:=@Nat.le_trans
def jM:=@List.size_toArray
def jN:=@decide_eq_true
def jO:=@Ne.symm
def jP:=@Array.length_toList
def jQ:=@Nat.ne_of_lt
def jR:=@Nat.zero_le
def jS:=@List.lookup_cons
def jT:=@List.all_eq_true
def jU:=@List.length_set
def jV:=@Bool.and_eq_true
def jW:=@Nat.zero_add
def jX:=@List.mem_range
def jY:=@List.length_take
def jZ:=@List.map_map
def j0:=@Int.toNat_natCast
def j1:=@List.getElem?_range
def j2:=@List.mem_append_left
def j3:=@PySem.wpAny_callSpecial?_slot
def j4:=@PySem.wpAny_newObj_type
def j5:=@List.getElem?_replicate
def j6:=@PySem.mem_of_lookup
def j7:=@PySem.sizeLine_eq
def j8:=@List.nodup_cons
def j9:=@PySem.Heap.SameBut.update
def qc:=@PySem.wpAny_call_entry
def qd:=@List.length_singleton
def qe:=@List.flatMap_append
def qf:=@Option.map_eq_some_iff
def qg:=@PySem.wpAny_dictEntries
def qh:=@List.mem_filter
def qj:=@List.append_nil
def qm:=@PySem.wpAny_setField_rec
def qo:=@List.take_length
def qp:=@PyProof.Rows.callWith_type1
def qq:=@List.take_succ_eq_append_getElem
def qr:=@List.append_assoc
def qt:=@List.nodup_nil
def qu:=@PySem.W.kia_one
def qv:=@Nat.div_div_eq_div_mul
def qw:=@PySem.wpAny_pyIter_tuple
def qx:=@PySem.wpAny_field
def qy:=@List.replicate_succ
def qz:=@of_decide_eq_true
def qA:=@PySem.Calls.callWith_builtin
def qB:=@List.range_succ
def qC:=@Nat.le_add_right
def qD:=@List.cons_append
def qE:=@PySem.sizeLine_eq
def qF:=@List.nodup_append
def qG:=@Int.fmod_eq_emod_of_nonneg
def qH:=@Int.toNat_of_nonneg
def qI:=@PySem.Paired.length
def qJ:=@PySem.wpAny_mono
def qK:=@List.length_filter_le
def qL:=@List.mem_flatMap
def qM:=@Bool.false_eq_true
def qN:=@Nat.mul_comm
def qO:=@Nat.lt_irrefl
def qP:=@if_false
def qQ:=@PySem.Calls.spliced_cons
def qR:=@PySem.F.plainAttrs_dict
def qS:=@List.flatten_cons
def qT:=@PySem.F.slot_dict_valueiterator_next
def qU:=@List.mem_map_of_mem
def qV:=@List.map_congr_left
def qW:=@List.length_pos_of_mem
def qX:=@PySem.F.slot_dict_itemiterator_next
def qY:=@PySem.wpAny_dictEpoch
def qZ:=@Nat.div_eq_of_lt
def q5:=@List.getElem_mem
def q9:=@PySem.F.slot_dict_keyiterator_next
def ya:=@Classical.byContradiction
def yb:=@Array.getElem?_eq_getElem
def yc:=@List.find?_cons
def ye:=@PySem.wpAny_seqItems
def yf:=@Nat.ne_of_gt
def yg:=@PySem.Heap.size_push
def yh:=@PySem.Heap.get?_update_self
def yi:=@beq_eq_false_iff_ne
def yj:=@PySem.wpAny_holding
def yk:=@PySem.W.mg_none_of
def yl:=@Nat.succ_mul
def ym:=@Nat.lt_of_le_of_lt
def yn:=@List.mem_filterMap
def yo:=@PySem.wpAny_typeNameOfWhole_itemiter
def yp:=@PySem.F.slot_dict_setdefault
def yq:=@List.getElem?_eq_none
def yr:=@PySem.wpAny_typeNameOfWhole_valiter
def yt:=@PySem.wpAny_typeNameOfWhole_keyiter
def yu:=@List.flatMap_cons
def yv:=@PySem.wpAny_Call_Name_kw
def yw:=@PySem.Obj.data_mapFields
def yx:=@PySem.wpAny_passesOwn
def yy:=@Nat.mul_le_mul_right
def yz:=@Array.getElem_toList
def yA:=@PySem.wpAny_attempt
def yB:=@PySem.wpAny_notOrdered_dict
def yC:=@List.all_map
def yD:=@PySem.wpAny_pyIter_list
def yE:=@PySem.wpAny_Call_method
def yF:=@List.filterMap_cons
def yG:=@PySem.wpAny_setField
def yH:=@List.any_cons
def yI:=@List.all_cons
def yJ:=@PySem.F.slot_tuple_iterator_next
def yK:=@Bool.eq_iff_iff
def yL:=@PySem.wpAny_isInstance
def yM:=@List.zip_cons_cons
def yN:=@PySem.F.slot_dict_items
def yO:=@PySem.F.plainAttrs_list
def yP:=@decide_eq_true_eq
def yQ:=@Nat.sub_self
def yR:=@Nat.mul_le_mul
def yS:=@List.take_succ
def yT:=@PySem.tupleKind_room_in1
def yU:=@List.filter_cons
def yV:=@List.sum_cons
def yW:=@PySem.wpAny_truthy_bool
def yX:=@PySem.wpAny_fieldsOf
def yY:=@PySem.call_meetsIn
def yZ:=@PySem.SeqAt.canLay_of_shaped
def ua:=@PySem.Calls.spliced_nil
def ub:=@Nat.mul_add_div
def uc:=@Nat.min_eq_left
def ud:=@List.of_mem_zip
def ue:=@List.nil_append
def uf:=@List.foldl_cons
def ug:=@Int.natCast_mul
def uh:=@Int.natCast_add
def ui:=@Function.comp_apply
def uj:=@Nat.pow_succ
def uk:=@Nat.le_of_lt
def ul:=@or_congr_right
def um:=@PySem.Obj.data_mapDictKeys
def uo:=@List.filter_append
def uq:=@PySem.Calls.evalArgs_plain
def ur:=@PySem.wpAny_loadPart'
def ut:=@List.pairwise_iff_getElem
def uu:=@List.drop_eq_getElem_cons
def uv:=@Option.isSome_map
def uw:=@List.getElem?_take_of_lt
def ux:=@PySem.wpAny_rule
def uy:=@or_assoc
def uz:=@Option.bind_eq_some_iff
def uA:=@Nat.succ_le_succ
def uB:=@Nat.lt_succ_self
def uC:=@PySem.W.cellsFrom_some
def uD:=@Nat.add_zero
def uE:=@List.map_nil
def uF:=@Array.getElem?_eq_none
def uG:=@PySem.atKey_none_of_get
def uH:=@Option.map_some
def uI:=@Nat.div_add_mod
def uJ:=@List.length_zip
def uK:=@PySem.wpAny_onRaise
def uL:=@PySem.F.slot_dict_get
def uM:=@Nat.div_lt_iff_lt_mul
def uN:=@List.take_append_drop
open PySem.W (keepIn nsIn mg_of fnOf findIn codeIn kitOne mroIn mg_none_of isFn instObj emptyDict)
namespace L2
open PySem PySem.Spec PyProof.Rows
abbrev Key:=Sum Int Str
def X0:Key->Value->Bool
 | .inl k,v=>Value.isInt k v
 | .inr x,v=>Value.isStrOf x v
def ZmX(w:World):Key->Int
 | .inl k=>hashInt k
 | .inr x=>hashStr w x
theorem YV:∀{k:Key}{v:Value},X0 k v=true->(∃i t,k=Sum.inl i/\v=Value.int i t)\/(∃x t,k=Sum.inr x/\v=Value.str x t)
 | .inl i,v,h=>by
  obtain⟨t,e⟩:=Value.isInt_shape (k:=i) (v:=v) h;exact .inl ⟨i,t,rfl,e⟩
 | .inr x,v,h=>by
  obtain⟨t,e⟩:=Value.isStrOf_shape (x:=x) (v:=v) h;exact .inr ⟨x,t,rfl,e⟩
theorem ZdB(i:Int)(t:Tok):X0 (.inl i) (.int i t)=true:=by simp [X0,Value.isInt]
theorem ZdC(x:Str)(t:Tok):X0 (.inr x) (.str x t)=true:=by simp [X0,Value.isStrOf]
theorem ZiW(a b:Int):decide ((Sum.inl a:Key)=Sum.inl b)=(a == b):=by
 by_cases e:a=b
 . subst e;simp
 . have h:¬(Sum.inl a:Key)=Sum.inl b:=λq=>e (Sum.inl.inj q)
   rw [jF h];exact(yi.mpr e).symm
theorem ZiX(a b:Str):decide ((Sum.inr a:Key)=Sum.inr b)=decide (a=b):=by
 by_cases e:a=b
 . subst e;simp
 . have h:¬(Sum.inr a:Key)=Sum.inr b:=λq=>e (Sum.inr.inj q)
   rw [jF h,jF e]
theorem ZiY(a:Int)(b:Str):decide ((Sum.inl a:Key)=Sum.inr b)=false:=jF (λq=>nomatch q)
theorem ZiZ(a:Str)(b:Int):decide ((Sum.inr a:Key)=Sum.inl b)=false:=jF (λq=>nomatch q)
def ZT(prog:Program)(w:World):PySem.KeyKind prog w Key where
 is:=X0
 hash:=ZmX w
 inj:=λv a b ha hb=>by
  rcases YV ha with⟨i,t,rfl,rfl⟩|⟨x,t,rfl,rfl⟩
  . rcases YV hb with⟨j,u,rfl,e⟩|⟨y,u,rfl,e⟩
    . injection e with e1 _;rw [e1]
    . exact nomatch e
  . rcases YV hb with⟨j,u,rfl,e⟩|⟨y,u,rfl,e⟩
    . exact nomatch e
    . injection e with e1 _;rw [e1]
 byValue:=λk v h=>by
  rcases YV h with⟨i,t,rfl,rfl⟩|⟨x,t,rfl,rfl⟩<;>rfl
 pyHash:=λhv h=>by
  rcases YV hv with⟨i,t,rfl,rfl⟩|⟨x,t,rfl,rfl⟩
  . exact wpAny_pyHash_int h
  . exact wpAny_pyHash_str h
 eqBool:=λhu hv h=>by
  rcases YV hu with⟨i,t,rfl,rfl⟩|⟨x,t,rfl,rfl⟩
  . rcases YV hv with⟨j,u,rfl,rfl⟩|⟨y,u,rfl,rfl⟩
    . rw [ZiW]at h;exact wpAny_eqBool_int h
    . rw [ZiY]at h;exact SeqAt.EqAt.int_str i t y u _ _ _ _ h
  . rcases YV hv with⟨j,u,rfl,rfl⟩|⟨y,u,rfl,rfl⟩
    . rw [ZiZ]at h;exact SeqAt.EqAt.str_int x t j u _ _ _ _ h
    . rw [ZiX]at h;exact wpAny_eqBool_str h
 «strs» := λk x t v h=>by
  rcases YV h with⟨i,u,rfl,e⟩|⟨y,u,rfl,e⟩
  . exact nomatch e
  . injection e with e1 _
    subst e1;cases v<;>rfl
theorem Zbp(prog:Program)(w:World)(i:Int)(t:Tok):(ZT prog w).is (.inl i) (.int i t)=true:=ZdB i t
theorem Zbq(prog:Program)(w:World)(x:Str)(t:Tok):(ZT prog w).is (.inr x) (.str x t)=true:=ZdC x t
inductive V where
 |non|bl (b:Bool)|int (i:Int)|str (x:Str)|byt (b:Array UInt8)|flt (b:UInt64)|ref (a:Addr)|ty (n:String)
 deriving DecidableEq
def RelV:V->Value->Prop
 | .non,u=>u=Value.none
 | .bl b,u=>u=Value.bool b
 | .int i,u=>∃t,u=Value.int i t
 | .str x,u=>∃t,u=Value.str x t
 | .byt b,u=>∃t,u=Value.bytes b t
 | .flt b,u=>∃t,u=Value.float b t
 | .ref a,u=>u=Value.ref a
 | .ty n,u=>u=Value.type n
abbrev Vals:List V->List Value->Prop:=Paired RelV
theorem Vals.length{xs:List V}{us:List Value}(r:Vals xs us):xs.length=us.length:=qI r
theorem Vals.get:∀{xs:List V}{us:List Value}{i:Nat}{x:V},Vals xs us->xs[i]? = some x->∃u,us[i]? = some u/\RelV x u
 |_,_,_,_,.nil,e=>by simp at e
 |_,_,0,_,.cons r _,e=>by simp at e;subst e;exact⟨_,rfl,r⟩
 |_,_,i+1,x,.cons _ t,e=>by
  obtain⟨u,h1,h2⟩:=Vals.get (i:=i) (x:=x) t (by simpa using e);exact⟨u,by simpa using h1,h2⟩
theorem Vals.set{x:V}{u:Value}(r:RelV x u):∀{xs:List V}{us:List Value}(i:Nat),Vals xs us->Vals (xs.set i x) (us.set i u)
 |_,_,_,.nil => .nil
 |_,_,0,.cons _ t => .cons r t
 |_,_,i+1,.cons q t => .cons q (Vals.set r i t)
theorem Vals.append:∀{xs ys:List V}{us ws:List Value},Vals xs us->Vals ys ws->Vals (xs++ys) (us++ws)
 |_,_,_,_,.nil,s=>s
 |_,_,_,_,.cons r t,s => .cons r (Vals.append t s)
def RelO:Option V->Option Value->Prop
 |some v,some u=>RelV v u
 |none,none=>True
 |_,_=>False
def KV{κ:Type}:List (κ×V)->List (κ×Value)->Prop:=Paired λ(p:κ×V) (q:κ×Value)=>p.1=q.1/\RelV p.2 q.2
def kV:Key->V
 | .inl i => .int i
 | .inr x => .str x
inductive HO where
 |lst (xs:List V)
 |tup (xs:List V)
 |dK (kvs:List (Key×V))|dT (kvs:List (List Key×V))
 |set (S:Int->Bool) (n:Nat)
 |ins (C dx:Addr) (fs:List (Str×V))
 |own (x:Addr)
 |xd (fs:List (Str×V))
 |met (f x:Addr)
 |rng (lo hi:Int)
 |frz (o:Obj) (u:HO)
 |tbl (ps:Array Value)
 |cod (q:Str)
 |ext (φ:Heap->Prop)
abbrev Hp:=Addr->Option HO
def upd(H:Hp)(a:Addr)(o:HO):Hp:=λb=>if b=a then some o else H b
theorem Zi{o:HO}:upd H a o a=some o:=by unfold upd;rw [je rfl]
theorem Zc{H:Hp}{a b:Addr}(h:b≠a):upd H a o b=H b:=by unfold upd;rw [jg h]
theorem J0{H:Hp}{a b:Addr}{o u:HO}(h:H a=some o)(h':H b=some u)(d:o≠u):a≠b:=by
 intro e;subst e;rw [h]at h';exact d (jo h')
theorem Zx{H:Hp}{a b:Addr}{o:HO}(h:H a=some o)(h':H b=none):a≠b:=by
 intro e;subst e;rw [h]at h';cases h'
def TupN(h:Heap)(a:Addr)(its:Array Value):Prop:=∃o,h.get? a=some o/\o.cls = .type "tuple" /\ (∃n,o.data = .seq its n)/\o.dict=none
theorem TupN.tup{h:Heap}{a:Addr}{its:Array Value}(x:TupN h a its):IsTup h a its:=let⟨o,e,c,d,_⟩:=x;⟨o,e,c,d⟩
theorem TupN.new(h:Heap)(its:Array Value):TupN (h.push { cls := .type "tuple",data := .seq its }) h.objs.size its:=⟨_,jr _ rfl,rfl,⟨_,rfl⟩,rfl⟩
section
variable(P:Program)(w:World)
def ObjOk(H:Hp)(h:Heap)(a:Addr):HO->Prop
 | .lst xs=>xs.length<=sizeLine/\∃(its:List Value) (n:Nat),Vals xs its/\h.get? a=some { cls := .type "list",data := .seq its.toArray n }
 | .tup xs=>xs.length<=sizeLine/\∃its:List Value,Vals xs its/\TupN h a its.toArray
 | .dK kvs=>kvs.length<=sizeLine/\(a == sysModules)=false/\∃vs,KV kvs vs/\h.DictOf (ZT P w) a vs
 | .dT kvs=>kvs.length<=sizeLine/\(a == sysModules)=false/\∃xs:List (List Key×Addr×Value),
  Paired (λ(p:List Key×V) (q:List Key×Addr×Value)=>p.1=q.1/\H q.2.1=some (.tup (p.1.map kV))/\RelV p.2 q.2.2) kvs xs /\
  ∃o es ep,h.get? a=some o/\o.ExactDict/\o.data = .dict es ep/\es.toList=xs.map (entryOfKey (tupleKind (ZT P w)))/\(xs.map (·.1)).Nodup
 | .set S n=>h.SetOf (intKind P w) a S n
 | .ins C dx fs=>H dx=some (.own a)/\fs.length<=1000/\dx≠a/\h.get? a=some (instObj C dx) /\
  ∃mA,h.Ns1 dx mA/\(∀f,RelO (fs.lookup f) (mA f))/\PySem.Within mA (fs.map (·.1))
 | .own _=>∃o,h.get? a=some o
 | .xd fs=>∃mA,h.Ns1 a mA/\∀f,RelO (fs.lookup f) (mA f)
 | .rng lo hi=>∃t u v,h.get? a=some { cls := .type "range",data := .fields #[.int lo t,.int hi u,.int 1 v] }
 | .frz o u=>h.get? a=some o/\ObjOk H h a u
 | .tbl ps=>∃qs:Array Value,h.get? a=some (PySem.W.tabObj qs)/\TriplesOk qs.toList/\∀pos cv,codeAmong pos qs.toList=some cv->∃c oc q u,cv = .ref c/\H c=some (.frz oc (.cod q))/\ps[0]? = some (.str q u)
 | .cod q=>h.CodeRec (.ref a) q
 | .met f x=>h.get? a=some (PySem.W.methodObj (.ref f) (.ref x))
 | .ext φ=>φ h/\(∃o,h.get? a=some o)/\∀h1 h2:Heap,φ h1->(∀o,h1.get? a=some o->h2.get? a=some o)->φ h2
def HOk(H:Hp)(h:Heap):Prop:=∀a o,H a=some o->ObjOk P w H h a o
end
section
variable{P:Program}{w:World}{H H':Hp}{h h':Heap}{a:Addr}{o:HO}
theorem ObjOk.lt(x:ObjOk P w H h a o):a<h.objs.size:=by
 cases o with
 |lst xs=>obtain⟨_,_,_,_,e⟩:=x;exact jz e
 |tup xs=>obtain⟨_,_,_,p⟩:=x;exact p.tup.lt
 |dK kvs=>obtain⟨_,_,_,_,o,_,_,e,_⟩:=x;exact jz e
 |dT kvs=>obtain⟨_,_,_,_,o,_,_,e,_⟩:=x;exact jz e
 |set S n=>obtain⟨o,_,_,_,e,_⟩:=x;exact jz e
 |ins C dx fs=>obtain⟨_,_,_,e,_⟩:=x;exact jz e
 |own y=>obtain⟨_,e⟩:=x;exact jz e
 |xd fs=>obtain⟨_,⟨_,_,_,e,_⟩,_⟩:=x;exact jz e
 |rng lo hi=>obtain⟨_,_,_,e⟩:=x;exact jz e
 |frz ob u=>obtain⟨e,_⟩:=x;exact jz e
 |tbl ps=>obtain⟨_,e,_⟩:=x;exact jz e
 |cod q=>obtain⟨_,_,_,_,e,g,_⟩:=x;cases e;exact jz g
 |met f y=>exact jz (show h.get? a=some _ from x)
 |ext φ=>obtain⟨_,⟨_,e⟩,_⟩:=x;exact jz e
theorem Paired.mapP{α β:Type}{F G:α->β->Prop}:∀{l₁:List α}{l₂:List β},Paired F l₁ l₂->(∀a b,F a b->G a b)->Paired G l₁ l₂
 |_,_,.nil,_ => .nil
 |_,_,.cons r t,f => .cons (f _ _ r) (Paired.mapP t f)
theorem ObjOk.stay (x:ObjOk P w H h a o) (k:∀b u,(b=a\/H b=some (.own a))->h.get? b=some u->h'.get? b=some u)
 (ho:∀b,H b=some (.own a)->H' b=some (.own a)) (ht:∀b xs,H b=some (.tup xs)->H' b=some (.tup xs))
 (hc:∀b ob q,H b=some (.frz ob (.cod q))->H' b=some (.frz ob (.cod q)):=by intro b' ob' q' e';first|exact e'|(rw [Zc (Zx e' (by assumption))];exact e')):ObjOk P w H' h' a o:=by
 induction o with
 |lst xs=>obtain⟨z,its,n,r,e⟩:=x;exact⟨z,its,n,r,k _ _ 's' e⟩
 |tup xs=>obtain⟨z,its,r,ob,e,c⟩:=x;exact⟨z,its,r,ob,k _ _ 's' e,c⟩
 |dK kvs=>obtain⟨z,y,vs,r,ob,es,ep,e,c⟩:=x;exact⟨z,y,vs,r,ob,es,ep,k _ _ 's' e,c⟩
 |dT kvs=>
  obtain⟨z,y,xs,r,ob,es,ep,e,c⟩:=x;exact⟨z,y,xs,Paired.mapP r λp q z=>⟨z.1,ht _ _ z.2.1,z.2.2⟩,ob,es,ep,k _ _ 's' e,c⟩
 |set S n=>obtain⟨ob,es,ep,t,e,c⟩:=x;exact⟨ob,es,ep,t,k _ _ 's' e,c⟩
 |ins C dx fs=>
  obtain⟨d,z,ne,e,mA,⟨od,es,ep,e2,c⟩,r⟩:=x;exact⟨ho _ d,z,ne,k _ _ 's' e,mA,⟨od,es,ep,k _ _ (.inr d) e2,c⟩,r⟩
 |own y=>obtain⟨ob,e⟩:=x;exact⟨ob,k _ _ 's' e⟩
 |xd fs=>obtain⟨mA,⟨od,es,ep,e,c⟩,r⟩:=x;exact⟨mA,⟨od,es,ep,k _ _ 's' e,c⟩,r⟩
 |rng lo hi=>obtain⟨t,u,v,e⟩:=x;exact⟨t,u,v,k _ _ 's' e⟩
 |frz ob u ih=>obtain⟨e,q⟩:=x;exact⟨k _ _ 's' e,ih q⟩
 |tbl ps=>
  obtain⟨qs,e,t,c⟩:=x;refine⟨qs,k _ _ 's' e,t,λpos cv z => ?_⟩;obtain⟨c',oc,q,u,z1,z2,z3⟩:=c pos cv z;exact⟨c',oc,q,u,z1,hc _ _ _ z2,z3⟩
 |cod q=>
  obtain⟨c,o,vs,t,e,g,r⟩:=x;cases e;exact⟨_,o,vs,t,rfl,k _ _ 's' g,r⟩
 |met f y=>
  have e:h.get? a=some (PySem.W.methodObj (.ref f) (.ref y)):=x;show h'.get? a=some (PySem.W.methodObj (.ref f) (.ref y));exact k a _ 's' e
 |ext φ=>obtain⟨p,⟨o,e⟩,st⟩:=x;exact⟨st _ _ p λo q=>k _ _ 's' q,⟨o,k _ _ 's' e⟩,st⟩
theorem HOk.lt(x:HOk P w H h)(e:H a=some o):a<h.objs.size:=(x a o e).lt
theorem HOk.fresh(x:HOk P w H h)(e:h.objs.size<=a):H a=none:=by
 cases q:H a with
 |none=>rfl
 |some u=>exact absurd (jJ (x.lt q) e) (qO _)
theorem HOk.kept(x:HOk P w H h)(k:∀b u,h.get? b=some u->h'.get? b=some u):HOk P w H h':=λa o e=>
 (x a o e).stay (λb u _ q=>k b u q) (λ_ q=>q) λ_ _ q=>q
theorem HOk.laid(x:HOk P w H h)(k:∀b u,h.get? b=some u->h'.get? b=some u)(hp:h.objs.size<=a)(new:ObjOk P w (upd H a o) h' a o):HOk P w (upd H a o) h':=λb u e=>by
 have hn:=x.fresh hp
 by_cases hb:b=a
 . subst hb;rw [Zi]at e;cases e;exact new
 . rw [Zc hb]at e
   exact(x b u e).stay (λc v _ q=>k c v q) (λc q=>by rw [Zc (Zx q hn)];exact q) λc xs q=>by rw [Zc (Zx q hn)];exact q
end
def Rd(H:Hp)(a:Addr)(u:HO):Prop:=H a=some u\/∃o,H a=some (.frz o u)
theorem Rd.ok{P:Program}{w:World}{H:Hp}{h:Heap}{a:Addr}{u:HO}(r:Rd H a u)(x:HOk P w H h):ObjOk P w H h a u:=by
 rcases r with r|⟨o,r⟩
 . exact x a u r
 . obtain⟨_,q⟩:=x a _ r
   exact q
def Mut:Option HO->Prop
 |some (.lst _)=>True
 |some (.dK _)=>True
 |some (.dT _)=>True
 |some (.set _ _)=>True
 |some (.ins _ _ _)=>True
 |some (.ext _)=>True
 |_=>False
section
variable{P:Program}{w:World}{H:Hp}{h h':Heap}{x e:Addr}{o':HO}
theorem HOk.write (ok:HOk P w H h) (mu:Mut (H x)) (he:e=x\/H e=some (.own x)) (k:∀b u,b≠e->h.get? b=some u->h'.get? b=some u) (heo:∃u,h'.get? e=some u)
 (new:ObjOk P w (upd H x o') h' x o'):HOk P w (upd H x o') h':=λb u q=>by
 have nown:∀c y,H c=some (.own y)->c≠x:=λc y r z=>by subst z;rw [r]at mu;exact mu
 have ntup:∀c xs,H c=some (.tup xs)->c≠x:=λc xs r z=>by subst z;rw [r]at mu;exact mu
 by_cases hb:b=x
 . subst hb;rw [Zi]at q;cases q;exact new
 . rw [Zc hb]at q
   by_cases hbe:b=e
   . have q' : H b = some (.own x) := by
      rcases he with z|z
      . exact absurd (hbe.trans z) hb
      . rw [hbe];exact z
     rw [q]at q';cases q';obtain⟨v,hv⟩:=heo;exact⟨v,by rw [hbe];exact hv⟩
   . refine(ok b u q).stay (λc v hc r=>k c v ?_ r) (λc r=>by rw [Zc (nown c b r)];exact r) (λc xs r=>by rw [Zc (ntup c xs r)];exact r) (λc ob y r=>by rw [Zc (λz=>by subst z;rw [r]at mu;exact mu)];exact r)
     rcases hc with rfl|hc
     . exact hbe
     . rintro rfl
       rcases he with z|z
       . exact nown c b hc z
       . rw [hc]at z;cases z;exact hb rfl
end
structure Un(fs ex:List Addr)(H H':Hp)(h h':Heap):Prop where
 keep:∀b o,h.get? b=some o->H b=none->b∉fs->b∉ex->h'.get? b=some o
 slot:∀b o,h.get? b=some o->H b=none->b∈fs->b∉ex->∃sl,h'.get? b=some { o with slots:=sl }
 free:∀b o,h.get? b=some o->H b=none->b∉ex->H' b=none
 there:∀b o,h.get? b=some o->b∉ex->∃o',h'.get? b=some o'
 tups:∀b xs,H b=some (.tup xs)->H' b=some (.tup xs)
 frzs:∀b o u,H b=some (.frz o u)->H' b=some (.frz o u)
 tbls:∀b ps,H b=some (.tbl ps)->∃more,H' b=some (.tbl (ps++more))
section
variable{fs fs' ex ex':List Addr}{H H1 H2:Hp}{h h1 h2 h':Heap}{a x e:Addr}{o:HO}
theorem Un.any(u:Un fs ex H H1 h h1){b:Addr}{ob:Obj}(q:h.get? b=some ob)(n:H b=none)(hx:b∉ex):∃sl,h1.get? b=some { ob with slots:=sl }:=by
 by_cases hb:b∈fs
 . exact u.slot b ob q n hb hx
 . exact⟨ob.slots,u.keep b ob q n hb hx⟩
theorem Un.kept(k:∀b u,h.get? b=some u->h'.get? b=some u):Un fs ex H H h h':=
 ⟨λb ob q _ _ _=>k b ob q,λb ob q _ _ _=>⟨ob.slots,k b ob q⟩,λ_ _ _ n _=>n,λb ob q _=>⟨ob,k b ob q⟩,λ_ _ q=>q,λ_ _ _ q=>q,λ_ ps q=>⟨#[],by rw [q];simp⟩⟩
theorem Un.refl:Un fs ex H H h h:=Un.kept λ_ _ q=>q
theorem Un.laid(k:∀b u,h.get? b=some u->h'.get? b=some u)(hp:h.objs.size<=a)(hn:H a=none):Un fs ex H (upd H a o) h h' where
 keep:=λb u q _ _ _=>k b u q
 slot:=λb u q _ _ _=>⟨u.slots,k b u q⟩
 free:=λb u q n _=>by rw [Zc (jQ (jJ (jz q) hp))];exact n
 there:=λb u q _=>⟨u,k b u q⟩
 tups:=λb xs q=>by rw [Zc (Zx q hn)];exact q
 frzs:=λb u xs q=>by rw [Zc (Zx q hn)];exact q
 tbls:=λb ps q=>⟨#[],by rw [Zc (Zx q hn),q];simp⟩
theorem Un.write(mu:Mut (H x))(he:e=x\/H e=some (.own x))(k:∀b u,b≠e->h.get? b=some u->h'.get? b=some u)(heo:∃u,h'.get? e=some u):Un fs ex H (upd H x o) h h':=by
 have hx:∀b,H b=none->b≠x:=λb n z=>by subst z;rw [n]at mu;exact mu
 have hb:∀b,H b=none->b≠e:=λb n z=>by
  subst z;rcases he with r|r
  . exact hx b n r
  . rw [n]at r;cases r
 have hm:∀b u,H b=some u->¬Mut (some u)->b≠x:=λb u q nm z=>by subst z;rw [q]at mu;exact nm mu
 refine⟨λb u q n _ _=>k b u (hb b n) q,λb u q n _ _=>⟨u.slots,k b u (hb b n) q⟩,λb u q n _=>by rw [Zc (hx b n)];exact n,λb u q _ => ?_,
  λb xs q=>by rw [Zc (hm b _ q λz=>z)];exact q,λb u xs q=>by rw [Zc (hm b _ q λz=>z)];exact q,λb ps q=>⟨#[],by rw [Zc (hm b _ q λz=>z),q];simp⟩⟩
 by_cases hbe:b=e
 . subst hbe;exact heo
 . exact⟨u,k b u hbe q⟩
end
def trk(h:Heap)(H:Hp):List Addr:=(List.range h.objs.size).filter λa=>(H a).isSome
def Xa(h:Heap)(H:Hp):Heap:=PySem.W.hideAll h (trk h H)
theorem ZdD(h:Heap)(H:Hp):(Xa h H).objs.size=h.objs.size:=PySem.W.hideAll_size _ _
theorem Zev{h:Heap}{H:Hp}{o:Obj}(e:h.get? b=some o)(n:H b=none):(Xa h H).get? b=some o:=
 PySem.W.hideAll_get _ e λhm=>by
  have q:(H b).isSome=true:=(qh.mp hm).2;rw [n]at q;simp at q
theorem ZgH{h:Heap}{H:Hp}{o:Obj}(e:(Xa h H).get? b=some o):h.get? b=some o/\H b=none:=by
 have e':h.get? b=some o:=PySem.W.of_hideAll (trk h H) e;refine⟨e',?_⟩;cases q:H b with
 |none=>rfl
 |some x=>
  have hm:b∈trk h H:=qh.mpr ⟨jX.mpr (jz e'),by simp [q]⟩;have z:(Xa h H).get? b=none:=PySem.W.hideAll_none (trk h H) hm;rw [z]at e;cases e
structure Mod(K:Frag)(mg:Str->Option Value)(base:Heap):Prop where
 kin:K.In base
 glob:base.Ns mainGlobals mg
 blt:∃mb,base.Ns builtinsNs mb/\∀x:Str,x ≠ "__name__" -> mb x=bootBuiltins x
 nolimit:base.NoLimit
structure Cx where
 prog:Program
 w:World
 K:Frag
 mg:Str->Option Value
 base:Heap
 A:Around
 N:List Str
 s₀:Shared
 H₀:Hp
 env:Env
 outer:List Env
 stack:List Env
 ex:List Addr
 fn:Str->Bool
 calm:Bool
 pn:List 'g'
 xe:Value->Shared->Prop
 fz:List (Addr×Obj×Str):=[]
def frs(l:List Env):List Addr:=l.filterMap (·.frame)
abbrev Cx.fs(X:Cx):List Addr:=frs X.outer
def Vis(sc:Scope)(x:Str):Prop:=sc.names.lookup x=some .local\/sc.names.lookup x=some .cell\/sc.names.lookup x=some .free
def Loc(sc:Scope)(x:Str):Prop:=sc.names.lookup x=some .local\/sc.names.lookup x=some .cell
def J5(env:Env)(h:Heap)(m:Str->Option Value)(x:Str)(u:Value):Prop:=
 (env.kindOf x=some .local/\m x=some u)\/((env.kindOf x=some .cell\/env.kindOf x=some .free)/\∃c,env.cells.lookup x=some c/\h.IsCell c (some u))
def Xo(K:Frag):List (Addr×Str):=K.filterMap λp=>match p.2.cls,p.2.dict with
 | .str q _,some P=>some (P,q)
 |_,_=>none
def QC(K:Frag)(H:Hp):Prop:=∀q∈Xo K,∃more,H q.1=some (.tbl (#[.str q.2 0]++more))
structure Cx.Ok(X:Cx):Prop where
 mod:Mod X.K X.mg X.base
 kind:X.env.scope.kind = .function
 glob:X.env.globals=mainGlobals
 blt:X.env.builtins=builtinsNs
 above:X.s₀.heap.objs.size<=X.env.locals
 inj:∀x y c,X.env.cells.lookup x=some c->X.env.cells.lookup y=some c->x=y
 has:∀x,(X.env.kindOf x=some .cell\/X.env.kindOf x=some .free)->∃c,X.env.cells.lookup x=some c
 cab:∀x c,X.fn x=true->X.env.cells.lookup x=some c->X.s₀.heap.objs.size<=c
 hd:X.calm=true->X.A.handled=none
 frames:X.A.frames=some X.stack
 stk:X.stack=X.outer\/(X.stack=X.env::X.outer/\X.env.frame=some X.env.locals)
 exf:∀b∈X.ex,b≠X.env.locals/\∀x c,X.env.cells.lookup x=some c->c≠b
 bs:∀b o,X.base.get? b=some o->X.s₀.heap.get? b=some o/\X.H₀ b=none
 bsz:X.base.objs.size<=X.s₀.heap.objs.size
 noex:∀b o,X.base.get? b=some o->b∉X.ex
 exfs:∀b∈X.ex,b∉X.fs
 funs:X.s₀.heap.FunFrames X.base X.outer
 frf:∀b∈X.fs,X.H₀ b=none
 tb:QC X.K X.H₀
structure Inv(X:Cx)(pins:List (Addr×Obj))(σ:List (Option V))(H:Hp)(s:Shared):Prop where
 ok:X.Ok
 os:s.os=X.s₀.os
 bare:AllBare s.gens
 base:Un X.fs X.ex X.H₀ H X.s₀.heap s.heap
 loc:∃m,s.heap.Ns X.env.locals m/\∀(i:Nat)(x:Str)(v:V),X.N[i]? = some x->σ[i]? = some (some v)->Vis X.env.scope x->∃u,RelV v u/\J5 X.env s.heap m x u
 cell:∀x c,X.env.cells.lookup x=some c->∃v,s.heap.IsCell c v
 free:H X.env.locals=none
 freeC:∀x c,X.env.cells.lookup x=some c->H c=none
 pin:∀p∈X.pn++pins,s.heap.get? p.1=some p.2/\H p.1=none/\p.1≠X.env.locals/\p.1∉X.fs/\∀v,p.2.data ≠ .cell v
 hok:HOk X.prog X.w H s.heap
 len:σ.length=X.N.length
 fzs:∀q∈X.fz,H q.1=some (.frz q.2.1 (.cod q.2.2))
section
variable{X:Cx}{pins:List 'g'}{σ:List (Option V)}{H H':Hp}{s:Shared}{h':Heap}
theorem Cx.Ok.nofr(ok:X.Ok){b:Addr}{o:Obj}(e:X.base.get? b=some o):b∉X.fs:=λhb=>by
 have:=(ok.funs.mem hb).1;rw [e]at this;cases this
theorem Inv.bs(I:Inv X pins σ H s):∀b o,X.base.get? b=some o->s.heap.get? b=some o/\H b=none:=λb o e=>
 ⟨I.base.keep b o (I.ok.bs b o e).1 (I.ok.bs b o e).2 (I.ok.nofr e) (I.ok.noex b o e),I.base.free b o (I.ok.bs b o e).1 (I.ok.bs b o e).2 (I.ok.noex b o e)⟩
theorem Inv.bk(I:Inv X pins σ H s):∀b o,X.base.get? b=some o->s.heap.get? b=some o:=λb o e=>(I.bs b o e).1
theorem Inv.mod(I:Inv X pins σ H s):Mod X.K X.mg X.base:=I.ok.mod
theorem Inv.kIn(I:Inv X pins σ H s):X.K.In s.heap:=I.ok.mod.kin.keeps I.bk
theorem Inv.lt(I:Inv X pins σ H s):X.env.locals<s.heap.objs.size:=let⟨_,hn,_⟩:=I.loc;hn.lt
theorem Inv.sz(I:Inv X pins σ H s):X.s₀.heap.objs.size<=s.heap.objs.size:=jL I.ok.above (uk I.lt)
theorem Inv.nofs(I:Inv X pins σ H s){a:Addr}(h:s.heap.objs.size<=a):a∉X.fs:=λhb=>by
 obtain⟨_,o,ho,_⟩:=I.ok.funs.mem hb;exact absurd (jJ (jz ho) (jL I.sz h)) (qO _)
theorem Inv.cne(I:Inv X pins σ H s):∀x c,X.env.cells.lookup x=some c->c≠X.env.locals:=λx c e z=>by
 obtain⟨v,o,ho,hd⟩:=I.cell x c e;obtain⟨m,⟨o',es,ep,ho',hd',_⟩,_⟩:=I.loc;rw [z,ho']at ho;cases ho;rw [hd']at hd;cases hd
theorem Inv.funs(I:Inv X pins σ H s):s.heap.FunFrames X.base X.outer:=by
 have all:∀(l:List Env),(∀b∈frs l,b∈X.fs)->X.s₀.heap.FunFrames X.base l->s.heap.FunFrames X.base l:=by
  intro l
  induction l with
  |nil=>intro _ _;trivial
  |cons env r ih=>
   intro hs hl;obtain⟨hk,⟨L,o,hf,hn,ho,hd⟩,hr⟩:=hl;have hL:L∈X.fs:=hs L (by unfold frs;rw [yF,hf];exact jj);obtain⟨sl,e⟩:=I.base.slot L o ho (I.ok.frf L hL) hL λz=>I.ok.exfs L z hL
   exact⟨hk,⟨L,_,hf,hn,e,hd⟩,ih (λb hb=>hs b (by unfold frs;rw [yF,hf];exact jq _ hb)) hr⟩
 exact all X.outer (λ_ hb=>hb) I.ok.funs
theorem Inv.stack(I:Inv X pins σ H s):s.heap.FunFrames X.base X.stack:=by
 rcases I.ok.stk with e|⟨e,hf⟩
 . rw [e];exact I.funs
 . rw [e]
   obtain⟨m,hn,_⟩:=I.loc;refine .cons (by rw [I.ok.kind];decide) hf hn ?_ I.funs;exact Heap.get?_none_of_le (jL I.ok.bsz I.ok.above)
theorem Inv.stkSub(I:Inv X pins σ H s):∀b∈frs X.stack,b∈X.env.locals::X.fs:=λb hb=>by
 rcases I.ok.stk with e|⟨e,hf⟩
 . rw [e]at hb;exact jq _ hb
 . rw [e]at hb
   unfold frs at hb;rw [yF,hf]at hb;exact hb
theorem Inv.stkFree(I:Inv X pins σ H s):∀b∈frs X.stack,H b=none:=λb hb=>by
 rcases jA.mp (I.stkSub b hb)with e|hb
 . rw [e];exact I.free
 . obtain⟨_,o,ho,_⟩:=I.ok.funs.mem hb
   exact I.base.free b o ho (I.ok.frf b hb) λz=>I.ok.exfs b z hb
theorem Inv.step {g':Array GenState} {t':Nat} {d':Drawn} {ch:List Addr} (I:Inv X pins σ H s)
 (hch:∀b∈ch,(b∈X.ex\/X.s₀.heap.objs.size<=b)/\b≠X.env.locals/\(∀x c,X.env.cells.lookup x=some c->c≠b)/\∀p∈X.pn++pins,p.1≠b)
 (keep:∀b o,b≠X.env.locals->b∉X.fs->b∉ch->s.heap.get? b=some o->H b=none->h'.get? b=some o)
 (slot:∀b o,b≠X.env.locals->b∈X.fs->b∉ch->s.heap.get? b=some o->H b=none->∃sl,h'.get? b=some { o with slots:=sl }) (free:∀b o,b∉ch->s.heap.get? b=some o->H b=none->H' b=none)
 (there:∀b o,b∉ch->s.heap.get? b=some o->∃o',h'.get? b=some o')
 (tups:∀b xs,H b=some (.tup xs)->H' b=some (.tup xs)) (frzs:∀b o u,H b=some (.frz o u)->H' b=some (.frz o u)) (tbls:∀b ps,H b=some (.tbl ps)->∃more,H' b=some (.tbl (ps++more)))
 (ns:∀m,s.heap.Ns X.env.locals m->h'.Ns X.env.locals m) (hok:HOk X.prog X.w H' h') (hg:AllBare g') :
 Inv X pins σ H' { s with heap:=h',gens:=g',drawn:=d',toks:=t' }:=by
 have neL:∀b o,X.s₀.heap.get? b=some o->b≠X.env.locals:=λb o e=>jQ (jJ (jz e) I.ok.above)
 have neC:∀b o,X.s₀.heap.get? b=some o->b∉X.ex->b∉ch:=λb o e hx hb=>by
  rcases(hch b hb).1 with z|z
  . exact hx z
  . exact absurd (jJ (jz e) z) (qO _)
 have cellK:∀x c,X.env.cells.lookup x=some c->∀v,s.heap.IsCell c v->h'.IsCell c v:=λx c e v ⟨o,ho,hd⟩=>by
  have nch:c∉ch:=λz=>(hch c z).2.2.1 x c e rfl
  by_cases hc:c∈X.fs
  . obtain⟨sl,q⟩:=slot c o (I.cne x c e) hc nch ho (I.freeC x c e)
    exact⟨_,q,hd⟩
  . exact⟨o,keep c o (I.cne x c e) hc nch ho (I.freeC x c e),hd⟩
 refine⟨I.ok,I.os,hg,⟨λb o e n hb hx => ?_,λb o e n hb hx => ?_,λb o e n hx => ?_,λb o e hx => ?_,λb xs e=>tups b xs (I.base.tups b xs e),λb o xs e=>frzs b o xs (I.base.frzs b o xs e),λb ps e => ?_⟩,?_,λx c e => ?_,?_,λx c e => ?_,λp hp => ?_,hok,I.len,λq hq=>frzs _ _ _ (I.fzs q hq)⟩
 . exact keep b o (neL b o e) hb (neC b o e hx) (I.base.keep b o e n hb hx) (I.base.free b o e n hx)
 . obtain⟨sl,e1⟩:=I.base.slot b o e n hb hx
   obtain⟨sl',e2⟩:=slot b _ (neL b o e) hb (neC b o e hx) e1 (I.base.free b o e n hx);exact⟨sl',e2⟩
 . obtain⟨o',e1⟩:=I.base.there b o e hx
   exact free b o' (neC b o e hx) e1 (I.base.free b o e n hx)
 . obtain⟨o',e1⟩:=I.base.there b o e hx
   exact there b o' (neC b o e hx) e1
 . obtain⟨m1,e1⟩:=I.base.tbls b ps e
   obtain⟨m2,e2⟩:=tbls b _ e1;exact⟨m1++m2,by rw [e2,Array.append_assoc]⟩
 . obtain⟨m,hn,hl⟩:=I.loc
   refine⟨m,ns m hn,λi x v e1 e2 e3 => ?_⟩;obtain⟨u,r,l⟩:=hl i x v e1 e2 e3;refine⟨u,r,?_⟩;rcases l with l|⟨k,c,e,z⟩
   . exact .inl l
   . exact .inr ⟨k,c,e,cellK x c e _ z⟩
 . obtain⟨v,z⟩:=I.cell x c e
   exact⟨v,cellK x c e v z⟩
 . obtain⟨m,⟨o,_,_,ho,_⟩,_⟩:=I.loc
   exact free _ o (λz=>(hch _ z).2.1 rfl) ho I.free
 . obtain⟨v,o,ho,hd⟩:=I.cell x c e
   exact free c o (λz=>(hch c z).2.2.1 x c e rfl) ho (I.freeC x c e)
 . obtain⟨e,n,ne,nf,d⟩:=I.pin p hp
   have nch:p.1∉ch:=λz=>(hch p.1 z).2.2.2 p hp rfl
   exact⟨keep p.1 p.2 ne nf nch e n,free p.1 p.2 nch e n,ne,nf,d⟩
theorem Inv.un{t':Nat}(I:Inv X pins σ H s)(u:Un X.fs [] H H' s.heap h')(hok:HOk X.prog X.w H' h'):Inv X pins σ H' { s with heap:=h',toks:=t' }:=by
 obtain⟨m,⟨o,es,ep,ho,r⟩,_⟩:=id I.loc;obtain⟨sl,hL⟩:=u.any ho I.free 'c'
 exact I.step (g':=s.gens) (d':=s.drawn) (ch:=[]) (λ_ z=>nomatch z) (λb o _ hb _ e n=>u.keep b o e n hb 'c') (λb o _ hb _ e n=>u.slot b o e n hb 'c') (λb o _ e n=>u.free b o e n 'c') (λb o _ e=>u.there b o e 'c') u.tups u.frzs u.tbls (λm' hm=>by
  obtain⟨o',es',ep',ho',r'⟩:=hm;rw [ho]at ho';cases ho';exact⟨_,es',ep',hL,r'⟩) hok I.bare
theorem Inv.call {g':Array GenState} {t':Nat} {d':Drawn} {ch:List Addr} (I:Inv X pins σ H s) (u:Un (frs X.stack) ch H H' s.heap h') (hok:HOk X.prog X.w H' h') (hg:AllBare g')
 (hch:∀b∈ch,(b∈X.ex\/X.s₀.heap.objs.size<=b)/\b≠X.env.locals/\(∀x c,X.env.cells.lookup x=some c->c≠b)/\∀p∈X.pn++pins,p.1≠b) :
 Inv X pins σ H' { s with heap:=h',gens:=g',drawn:=d',toks:=t' }:=by
 obtain⟨m,⟨o,es,ep,ho,r⟩,_⟩:=id I.loc;obtain⟨sl,hL⟩:=u.any ho I.free λz=>(hch _ z).2.1 rfl
 exact I.step (ch:=ch) hch (λb o hL hb hc e n=>u.keep b o e n (λz=>(jA.mp (I.stkSub b z)).elim hL hb) hc) (λb o _ _ hc e n=>u.any e n hc) (λb o hc e n=>u.free b o e n hc) (λb o hc e=>u.there b o e hc) u.tups u.frzs u.tbls (λm' hm=>by
  obtain⟨o',es',ep',ho',r'⟩:=hm;rw [ho]at ho';cases ho';exact⟨_,es',ep',hL,r'⟩) hok hg
theorem Inv.turned {t':Nat} {it:Addr} (I:Inv X pins σ H s) (k:∀b o,b≠it->s.heap.get? b=some o->h'.get? b=some o) (hn:H it=none) (hL:it≠X.env.locals)
 (h1:it∈X.ex\/X.s₀.heap.objs.size<=it) (h2:∀x c,X.env.cells.lookup x=some c->c≠it) (h3:∀p∈X.pn++pins,p.1≠it):Inv X pins σ H { s with heap:=h',toks:=t' }:=by
 have nit:∀b u,H b=some u->b≠it:=λb u e z=>by rw [z,hn]at e;cases e
 refine I.step (g':=s.gens) (d':=s.drawn) (ch:=[it]) (λb hb => ?_) (λb o _ _ hc e _=>k b o (λz=>hc (by simp [z])) e) (λb o _ _ hc e _=>⟨o.slots,k b o (λz=>hc (by simp [z])) e⟩) (λ_ _ _ _ n=>n)
  (λb o hc e=>⟨o,k b o (λz=>hc (by simp [z])) e⟩) (λ_ _ e=>e) (λ_ _ _ e=>e) (λb ps e=>⟨#[],by rw [e];simp⟩) (λm hm => ?_) (λb u e => ?_) I.bare
 . have e:b=it:=by simpa using hb
   subst e;exact⟨h1,hL,h2,h3⟩
 . obtain⟨o,es,ep,ho,r⟩:=hm
   exact⟨o,es,ep,k _ o (jO hL) ho,r⟩
 . refine(I.hok b u e).stay (λc v hc q=>k c v ?_ q) (λ_ q=>q) λ_ _ q=>q
   rcases hc with z|z
   . rw [z];exact nit b u e
   . exact nit c _ z
theorem Inv.tok(I:Inv X pins σ H s)(t:Nat):Inv X pins σ H { s with toks:=t }:=I.un (h':=s.heap) (t':=t) Un.refl I.hok
theorem Inv.kept{t':Nat}(I:Inv X pins σ H s)(k:∀b u,s.heap.get? b=some u->h'.get? b=some u):Inv X pins σ H { s with heap:=h',toks:=t' }:=I.un (Un.kept k) (I.hok.kept k)
theorem Inv.laid{a:Addr}{o:HO}{t':Nat}(I:Inv X pins σ H s)(k:∀b u,s.heap.get? b=some u->h'.get? b=some u)(hp:s.heap.objs.size<=a)(new:ObjOk X.prog X.w (upd H a o) h' a o) :
 Inv X pins σ (upd H a o) { s with heap:=h',toks:=t' }:=I.un (Un.laid k hp (I.hok.fresh hp)) (I.hok.laid k hp new)
theorem Inv.write {x e:Addr} {o:HO} {t':Nat} (I:Inv X pins σ H s) (mu:Mut (H x)) (he:e=x\/H e=some (.own x)) (k:∀b u,b≠e->s.heap.get? b=some u->h'.get? b=some u) (heo:∃u,h'.get? e=some u)
 (new:ObjOk X.prog X.w (upd H x o) h' x o):Inv X pins σ (upd H x o) { s with heap:=h',toks:=t' }:=I.un (Un.write mu he k heo) (I.hok.write mu he k heo new)
theorem Inv.pins_of{pins':List 'g'}(I:Inv X pins σ H s)(h:∀p∈pins',s.heap.get? p.1=some p.2/\H p.1=none/\p.1≠X.env.locals/\p.1∉X.fs/\∀v,p.2.data ≠ .cell v):Inv X pins' σ H s:=
 ⟨I.ok,I.os,I.bare,I.base,I.loc,I.cell,I.free,I.freeC,λp hp=>(jK.mp hp).elim (λz=>I.pin p (j2 _ z)) (h p),I.hok,I.len,I.fzs⟩
theorem J6{N:List Str}(hN:N.Nodup){i j:Nat}{x:Str}(a:N[i]? = some x)(b:N[j]? = some x):i=j:=by
 obtain⟨h1,e1⟩:=jt.mp a;obtain⟨h2,e2⟩:=jt.mp b;exact(List.getElem_inj hN).mp (e1.trans e2.symm)
theorem J7 {M:Model} {E:Value->Shared->Prop} {i:Nat} {x:Str} {v:V} {Q:Unit->Shared->Prop} (I:Inv X pins σ H s) (hN:X.N.Nodup) (hi:X.N[i]? = some x) (hx:Loc X.env.scope x) (r:RelV v u)
 (h:∀s',Inv X pins (σ.set i (some v)) H s'->(∃a,Heap.SameBut a s.heap s'.heap/\(a=X.env.locals\/X.env.cells.lookup x=some a))->Q () s') (hf:X.fn x=true\/X.env.scope.names.lookup x=some .local:=by first|exact .inl rfl|exact .inr rfl|assumption):wpAny M A (storeName X.env x u) Q E s:=by
 obtain⟨m,hn,hl⟩:=id I.loc;have hcls:(X.env.scope.kind == .class||(X.env.scope.kind == .module&&X.env.locals != X.env.globals))=false:=by rw [I.ok.kind];rfl
 have hiσ:i<σ.length:=by rw [I.len];exact(jt.mp hi).1
 have cne:=I.cne
 have tracked:∀{a:Addr}{h':Heap},(∃o,s.heap.get? a=some o/\H a=none)->Heap.SameBut a s.heap h'->HOk X.prog X.w H h':=λ{a h'} ha hs b ob e=>by
  obtain⟨_,_,hfree⟩:=ha;refine(I.hok b ob e).stay (λc w' hc q=>(hs.2 c ?_).trans q) (λ_ q=>q) λ_ _ q=>q
  rintro rfl
  rcases hc with rfl|hc
  . rw [hfree]at e;cases e
  . rw [hfree]at hc;cases hc
 rcases hx with hk|hk
 . refine wpAny_storeName_local hk hn (λh' hn' hs => ?_) hcls
   obtain⟨oL,_,_,hoL,_⟩:=id hn;refine h _ ⟨I.ok,I.os,I.bare,⟨λb o e n hb hx => ?_,λb o e n hb hx => ?_,I.base.free,λb o e hx => ?_,I.base.tups,I.base.frzs,I.base.tbls⟩,⟨_,hn',λj y v' e1 e2 e3 => ?_⟩,λy c e => ?_,I.free,I.freeC,λp hp => ?_,tracked ⟨oL,hoL,I.free⟩ hs,by simpa using I.len,I.fzs⟩ ⟨_,hs,.inl rfl⟩
   . exact(hs.2 b (jQ (jJ (jz e) I.ok.above))).trans (I.base.keep b o e n hb hx)
   . obtain⟨sl,e1⟩:=I.base.slot b o e n hb hx
     exact⟨sl,(hs.2 b (jQ (jJ (jz e) I.ok.above))).trans e1⟩
   . obtain⟨o',e1⟩:=I.base.there b o e hx
     exact⟨o',(hs.2 b (jQ (jJ (jz e) I.ok.above))).trans e1⟩
   . by_cases hj:j=i
     . subst hj
       rw [hi]at e1;cases e1;rw [jB hiσ]at e2;cases e2;exact⟨u,r,.inl ⟨hk,by simp⟩⟩
     . rw [jl (jO hj)]at e2
       obtain⟨u',r',q⟩:=hl j y v' e1 e2 e3;refine⟨u',r',?_⟩;rcases q with⟨k,e⟩|⟨k,c,e,z⟩
       . refine .inl ⟨k,?_⟩
         have:y≠x:=λe=>hj (J6 hN e1 (e▸hi))
         simp [this,e]
       . exact .inr ⟨k,c,e,z.sameBut hs (cne y c e)⟩
   . obtain⟨w',z⟩:=I.cell y c e
     exact⟨w',z.sameBut hs (cne y c e)⟩
   . obtain⟨e,n,ne,nf,d⟩:=I.pin p hp
     exact⟨(hs.2 p.1 ne).trans e,n,ne,nf,d⟩
 . have hfn : X.fn x = true := by
    rcases hf with z|z
    . exact z
    . rw [z]at hk;cases hk
   obtain⟨c,hc⟩:=I.ok.has x (.inl hk);obtain⟨w',z⟩:=I.cell x c hc;refine wpAny_storeName_cell I.ok.kind hk hc z (λh' hc' hs => ?_);obtain⟨oc,hoc,hocd⟩:=id z;refine h { s with heap:=h' } ⟨I.ok,I.os,I.bare,⟨λb o e n hb hx => ?_,λb o e n hb hx => ?_,I.base.free,λb o e hx => ?_,I.base.tups,I.base.frzs,I.base.tbls⟩,⟨m,hn.sameBut hs (jO (cne x c hc)),λj y v' e1 e2 e3 => ?_⟩,λy c' e => ?_,I.free,I.freeC,λp hp => ?_,tracked ⟨oc,hoc,I.freeC x c hc⟩ hs,by simpa using I.len,I.fzs⟩ ⟨c,hs,.inr hc⟩
   . exact(hs.2 b (jQ (jJ (jz e) (I.ok.cab x c hfn hc)))).trans (I.base.keep b o e n hb hx)
   . obtain⟨sl,e1⟩:=I.base.slot b o e n hb hx
     exact⟨sl,(hs.2 b (jQ (jJ (jz e) (I.ok.cab x c hfn hc)))).trans e1⟩
   . obtain⟨o',e1⟩:=I.base.there b o e hx
     exact⟨o',(hs.2 b (jQ (jJ (jz e) (I.ok.cab x c hfn hc)))).trans e1⟩
   . by_cases hj:j=i
     . subst hj
       rw [hi]at e1;cases e1;rw [jB hiσ]at e2;cases e2;exact⟨u,r,.inr ⟨.inl hk,c,hc,hc'⟩⟩
     . rw [jl (jO hj)]at e2
       obtain⟨u',r',q⟩:=hl j y v' e1 e2 e3;refine⟨u',r',?_⟩;rcases q with q|⟨k,c',e,z'⟩
       . exact .inl q
       . refine .inr ⟨k,c',e,z'.sameBut hs ?_⟩
         rintro rfl
         exact hj (J6 hN e1 (I.ok.inj _ _ _ e hc▸hi))
   . by_cases hcc:c'=c
     . subst hcc;exact⟨_,hc'⟩
     . obtain⟨w2,z2⟩:=I.cell y c' e
       exact⟨w2,z2.sameBut hs hcc⟩
   . obtain⟨e,n,ne,nf,d⟩:=I.pin p hp
     refine⟨(hs.2 p.1 ?_).trans e,n,ne,nf,d⟩;intro q;rw [q,hoc]at e;have q':oc=p.2:=jo e;exact d w' (by rw [<-q'];exact hocd)
theorem QD {M:Model} {E:Value->Shared->Prop} {i:Nat} {x:Str} {v:V} {Q:Unit->Shared->Prop} (I:Inv X pins σ H s) (hN:X.N.Nodup) (hi:X.N[i]? = some x) (hx:Loc X.env.scope x) (r:RelV v u)
 (h:∀s',Inv X pins (σ.set i (some v)) H s'->Q () s') (hf:X.fn x=true\/X.env.scope.names.lookup x=some .local:=by first|exact .inl rfl|exact .inr rfl|assumption):wpAny M A (storeName X.env x u) Q E s:=
 J7 I hN hi hx r (λs' I' _=>h s' I') hf
theorem Inv.call' {s':Shared} {ch:List Addr} (I:Inv X pins σ H s) (ho:s'.os=s.os) (u:Un (frs X.stack) ch H H' s.heap s'.heap) (hok:HOk X.prog X.w H' s'.heap) (hg:AllBare s'.gens)
 (hch:∀b∈ch,(b∈X.ex\/X.s₀.heap.objs.size<=b)/\b≠X.env.locals/\(∀x c,X.env.cells.lookup x=some c->c≠b)/\∀p∈X.pn++pins,p.1≠b):Inv X pins σ H' s':=by
 obtain⟨h',g',d',t',o'⟩:=s';have e:o'=s.os:=ho;subst e;exact I.call (g':=g') (t':=t') (d':=d') u hok hg hch
end
abbrev XK:=Value->Option Addr->Hp->Prop
abbrev St:=List (Option V)
abbrev VK:=V->Hp->Prop
abbrev TE:=St->Hp->VK->Prop
abbrev TT:=St->Hp->(Bool->Hp->Prop)->Prop
abbrev TA:=St->Hp->(List V->Hp->Prop)->Prop
structure Ends where
 nx:St->Hp->Prop
 rt:VK
 bk:St->Hp->Prop:=λ_ _=>False
 ct:St->Hp->Prop:=λ_ _=>False
abbrev TS:=Ends->St->Hp->Prop
def EP(X:Cx)(pins:List 'g')(σ:St)(Q:VK)(u:Value)(s':Shared):Prop:=∃v H',Inv X pins σ H' s'/\RelV v u/\Q v H'
def TP(X:Cx)(pins:List 'g')(σ:St)(Q:Bool->Hp->Prop)(b:Bool)(s':Shared):Prop:=∃H',Inv X pins σ H' s'/\Q b H'
def AP(X:Cx)(pins:List 'g')(σ:St)(Q:List V->Hp->Prop)(us:List Value)(s':Shared):Prop:=∃vs H',Inv X pins σ H' s'/\Vals vs us/\Q vs H'
def SP(X:Cx)(pins:List 'g')(D:Ends)(f:Flow)(s':Shared):Prop:=
 match f with
 | .next=>∃σ' H',Inv X pins σ' H' s'/\D.nx σ' H'
 | .brk=>∃σ' H',Inv X pins σ' H' s'/\D.bk σ' H'
 | .cont=>∃σ' H',Inv X pins σ' H' s'/\D.ct σ' H'
 | .ret u=>∃v σ' H',Inv X pins σ' H' s'/\RelV v u/\D.rt v H'
def PE(X:Cx)(e:Expr)(t:TE):Prop:=
 ∀(pins:List 'g')(s:Shared)(σ:St)(H:Hp)(Q:VK),Inv X pins σ H s->t σ H Q->wpAny 'e' X.A (eval e X.env) (EP X pins σ Q) X.xe s
def PT(X:Cx)(e:Expr)(t:TT):Prop:=
 ∀(pins:List 'g')(s:Shared)(σ:St)(H:Hp)(Q:Bool->Hp->Prop),Inv X pins σ H s->t σ H Q->wpAny 'e' X.A (isTrue e X.env (eval e X.env)) (TP X pins σ Q) X.xe s
def PW(X:Cx)(e:Expr)(t:TT):Prop:=
 ∀(whole:Sem Value)(pins:List 'g')(s:Shared)(σ:St)(H:Hp)(Q:Bool->Hp->Prop),Inv X pins σ H s->t σ H Q->wpAny 'e' X.A (isTrue e X.env whole) (TP X pins σ Q) X.xe s
theorem PW.pt{X:Cx}{e:Expr}{t:TT}(h:PW X e t):PT X e t:=h _
def PA(X:Cx)(es:List Expr)(t:TA):Prop:=
 ∀(pos:Pos)(pins:List 'g')(s:Shared)(σ:St)(H:Hp)(Q:List V->Hp->Prop),Inv X pins σ H s->t σ H Q->wpAny 'e' X.A (spliced (backTo pos (starEach es X.env))) (AP X pins σ Q) X.xe s
def PS(X:Cx)(st:Stmt)(t:TS):Prop:=
 ∀(pins:List 'g')(s:Shared)(σ:St)(H:Hp)(D:Ends),Inv X pins σ H s->t D σ H->wpAny 'e' X.A (exec st X.env) (SP X pins D) X.xe s
def PSs(X:Cx)(st:List Stmt)(t:TS):Prop:=
 ∀(pins:List 'g')(s:Shared)(σ:St)(H:Hp)(D:Ends),Inv X pins σ H s->t D σ H->wpAny 'e' X.A (execs st X.env) (SP X pins D) X.xe s
theorem thn{α:Type}{t:Sem α}{Q Q':α->Shared->Prop}{M:Model}{E:Value->Shared->Prop}(h:wpAny M A t Q E s)(hQ:∀a s,Q a s->Q' a s):wpAny M A t Q' E s:=qJ h hQ λ_ _ x=>x
section
variable{X:Cx}
def Zl(i:Nat):TE:=λσ H Q=>∃v,σ[i]? = some (some v)/\Q v H
def tC(v:V):TE:=λ_ H Q=>Q v H
theorem J8 {i:Nat} {x:Str} (hN:X.N[i]? = some x) (hv:Vis X.env.scope x) (hd:(x == ("__debug__" : Str))=false:=by decide) (hcd:(x == ("__classdict__" : Str))=false:=by decide):PE X (.Name x pos) (Zl i):=by
 intro pins s σ H Q I h;obtain⟨v,e,h⟩:=h;obtain⟨m,hn,hl⟩:=I.loc;obtain⟨u,r,l⟩:=hl i x v hN e hv;have fin:EP X pins σ Q u s:=⟨v,H,I,r,h⟩
 rcases l with⟨hk,hm⟩|⟨hk,c,hc,hcell⟩
 . exact wpAny_Name (wpAny_loadName_local I.ok.kind hk hn hm fin) hd
 . rcases hk with hk|hk
   . exact wpAny_Name (wpAny_loadName_cell I.ok.kind hk hc hcell fin) hd
   . exact wpAny_Name (wpAny_loadName_free I.ok.kind hk hc hcell fin hcd) hd
theorem Zi0{i j pos}:PE X (.Constant (.int i) j pos) (tC (.int i)):=λ_ _ _ H _ I h=>wpAny_Constant_int ⟨.int i,H,I.tok _,⟨_,rfl⟩,h⟩
theorem ZkG{b j pos}:PE X (.Constant (.bool b) j pos) (tC (.bl b)):=λ_ _ _ H _ I h=>Constant_bool ⟨.bl b,H,I,rfl,h⟩
theorem Zi1{j pos}:PE X (.Constant .none j pos) (tC .non):=λ_ _ _ H _ I h=>Constant_none ⟨.non,H,I,rfl,h⟩
theorem Zi2{x j pos}:PE X (.Constant (.str x) j pos) (tC (.str x)):=λ_ _ _ H _ I h=>Calls.Constant_str ⟨.str x,H,I.tok _,⟨_,rfl⟩,h⟩
def Gl(X:Cx)(x:Str):Prop:=X.env.kindOf x=some .globalImplicit
theorem J9 {E:Value->Shared->Prop} {x:Str} {u:Value} {Q:Value->Shared->Prop} (I:Inv X pins σ H s) (hg:Gl X x) (hm:X.mg x=some u) (h:Q u s)
 (hd:(x == ("__debug__" : Str))=false:=by decide):wpAny 'e' X.A (eval (.Name x pos) X.env) Q E s:=
 Calls.Name_function_global I.ok.kind hg (Calls.loadGlobal_global (by rw [I.ok.glob];exact I.mod.glob.keeps I.bk) hm h) hd
theorem Xb {E:Value->Shared->Prop} {x:Str} {u:Value} {Q:Value->Shared->Prop} (I:Inv X pins σ H s) (hg:Gl X x) (hm:X.mg x=none) (hv:bootBuiltins x=some u) (h:Q u s)
 (hn:x ≠ "__name__" := by decide) (hd:(x == ("__debug__" : Str))=false:=by decide):wpAny 'e' X.A (eval (.Name x pos) X.env) Q E s:=by
 obtain⟨mb,h1,h2⟩:=I.mod.blt;exact Calls.Name_function_global I.ok.kind hg (Calls.loadGlobal_builtin (by rw [I.ok.glob];exact I.mod.glob.keeps I.bk) hm (by rw [I.ok.blt];exact h1.keeps I.bk) ((h2 x hn).trans hv) h) hd
theorem ZcA {x:Str} {u:Value} (hg:Gl X x) (hm:X.mg x=none) (hv:bootBuiltins x=some u) (r:RelV v u) (hn:x ≠ "__name__" := by decide) (hd:(x == ("__debug__" : Str))=false:=by decide):PE X (.Name x pos) (tC v):=
 λ_ _ _ H _ I h=>Xb I hg hm hv ⟨v,H,I,r,h⟩ hn hd
variable{a b:Expr}{ta tb:TE}{pos:Pos}
def PC(X:Cx)(op:CmpOp)(a b:Expr)(t:TE):Prop:=
 ∀(pins:List 'g')(s:Shared)(σ:St)(H:Hp)(Q:VK),Inv X pins σ H s->t σ H Q ->
  wpAny 'e' X.A (eval a X.env) (λv s₁=>wpAny 'e' X.A (eval b X.env) (λu s₂=>wpAny 'e' X.A (compareOp op v u) (EP X pins σ Q) X.xe s₂) X.xe s₁) X.xe s
theorem ZbA(b:Expr){op:CmpOp}(h:op ≠ .In)(h2:op ≠ .NotIn):behindInMarks op b=false:=by
 have e1:(op == CmpOp.In)=false:=by cases op<;>first|rfl|exact absurd rfl h
 have e2:(op == CmpOp.NotIn)=false:=by cases op<;>first|rfl|exact absurd rfl h2
 cases b<;>simp [behindInMarks,e1,e2]
def Zmr(ta:TE):TE:=λσ H Q=>ta σ H λx H1=>Q (.bl (decide (x = .non))) H1
def Zih(ta:TE):TE:=λσ H Q=>ta σ H λx H1=>Q (.bl (!decide (x = .non))) H1
theorem RelV.none_iff{x:V}{v:Value}(r:RelV x v):(v == Value.none)=decide (x = .non):=by
 cases x with
 |non=>cases r;rfl
 |bl _=>cases r;rfl
 |int _=>obtain⟨t,rfl⟩:=r;rfl
 |str _=>obtain⟨t,rfl⟩:=r;rfl
 |byt _=>obtain⟨t,rfl⟩:=r;rfl
 |flt _=>obtain⟨t,rfl⟩:=r;rfl
 |ref _=>cases r;rfl
 |ty _=>cases r;rfl
theorem Zi3{j pos'}(ha:PE X a ta):PC X .Is a (.Constant .none j pos') (Zmr ta):=by
 intro pins s σ H Q I h;refine thn (ha pins s σ H _ I h) λv s1 ⟨x,H1,I1,r1,q1⟩ => ?_
 exact Constant_none (is_none_gen ⟨.bl _,H1,I1,by rw [r1.none_iff];rfl,q1⟩)
theorem ZgI{j pos'}(ha:PE X a ta):PC X .IsNot a (.Constant .none j pos') (Zih ta):=by
 intro pins s σ H Q I h;refine thn (ha pins s σ H _ I h) λv s1 ⟨x,H1,I1,r1,q1⟩ => ?_
 exact Constant_none (isnot_none_gen ⟨.bl _,H1,I1,by rw [r1.none_iff];rfl,q1⟩)
def tB(t:TE):TT:=λσ H Q=>t σ H λx H1=>∃c,x = .bl c/\Q c H1
theorem Zi4{op:CmpOp}(h:PC X op a b t)(h1:behindInMarks op b=false:=by first|exact ZbA _ 'b' 'b'|rfl):PE X (.Compare a [op] [b] pos) t:=λpins s σ H Q I hw=>wpAny_Compare1 (h pins s σ H Q I hw) h1
theorem Zi5{op:CmpOp}(h:PC X op a b t)(h1:behindInMarks op b=false:=by first|exact ZbA _ 'b' 'b'|rfl):PT X (.Compare a [op] [b] pos) (tB t):=by
 intro pins s σ H Q I hw;refine wpAny_isTrue_Compare1 (thn (h pins s σ H _ I hw) λv s1 h1=>thn h1 λu s2 h2=>thn h2 λc s3 ⟨x,H1,I1,r1,q1⟩ => ?_) h1;obtain⟨d,rfl,q⟩:=q1;cases r1;exact yW ⟨H1,I1,q⟩
theorem Zi6{e:Expr}(h:PE X e t)(he:∀whole,isTrue e X.env whole=(do let v <-whole;standAt e.pos;holding [v] (truthy v)):=by intro _;rfl):PT X e (tB t):=by
 intro pins s σ H Q I hw;refine isTrue_plain (thn (h pins s σ H _ I hw) λv s1 ⟨x,H1,I1,r1,q1⟩ => ?_) (he _);obtain⟨d,rfl,q⟩:=q1;cases r1;exact yW ⟨H1,I1,q⟩
variable{tA tB':TT}{rest:List Expr}
def Zms(t u:TT):TT:=λσ H Q=>t σ H λc H1=>if c=true then u σ H1 Q else Q false H1
def tOr(t u:TT):TT:=λσ H Q=>t σ H λc H1=>if c=true then Q true H1 else u σ H1 Q
def Zmt(t:TT):TT:=λσ H Q=>t σ H λc H1=>Q (!c) H1
theorem ZgJ(ha:PT X a tA):PW X (.BoolOp .And [a] pos) tA:=by
 intro wh pins s σ H Q I h;refine isTrue_and (thn (ha pins s σ H Q I h) λc s1 e => ?_);cases c with
 |true=>exact isTrue_and_nil e
 |false=>exact e
theorem Zi7(ha:PT X a tA):PW X (.BoolOp .Or [a] pos) tA:=by
 intro wh pins s σ H Q I h;refine isTrue_or (thn (ha pins s σ H Q I h) λc s1 e => ?_);cases c with
 |false=>exact isTrue_or_nil e
 |true=>exact e
theorem Zi8(ha:PT X a tA)(hb:PW X (.BoolOp .And (b::rest) pos) tB'):PW X (.BoolOp .And (a::b::rest) pos) (Zms tA tB'):=by
 intro wh pins s σ H Q I h;refine isTrue_and (thn (ha pins s σ H _ I h) λc s1 ⟨H1,I1,q1⟩ => ?_);cases c with
 |true=>exact hb wh pins s1 σ H1 Q I1 q1
 |false=>exact⟨H1,I1,q1⟩
theorem ZkH(ha:PT X a tA)(hb:PW X (.BoolOp .Or (b::rest) pos) tB'):PW X (.BoolOp .Or (a::b::rest) pos) (tOr tA tB'):=by
 intro wh pins s σ H Q I h;refine isTrue_or (thn (ha pins s σ H _ I h) λc s1 ⟨H1,I1,q1⟩ => ?_);cases c with
 |true=>exact⟨H1,I1,q1⟩
 |false=>exact hb wh pins s1 σ H1 Q I1 q1
theorem Zi9(ha:PT X a tA):PT X (.UnaryOp .Not a pos) (Zmt tA):=by
 intro pins s σ H Q I h;exact isTrue_not (ha pins s σ H (λc H1=>Q (!c) H1) I h)
def Zii(ta tb:TE):TE:=λσ H Q=>ta σ H λx H1=>∃c,x = .bl c/\if c=true then tb σ H1 Q else Q (.bl false) H1
def Zij(ta:TE):TE:=λσ H Q=>ta σ H λx H1=>∃c,x = .bl c/\Q (.bl (!c)) H1
theorem Zja{op}(h:PE X a t):PE X (.BoolOp op [a] pos) t:=λpins s σ H Q I hw=>BoolOp_one (h pins s σ H Q I hw)
theorem Zjb(ha:PE X a ta)(hb:PE X (.BoolOp .And (b::rest) pos) tb):PE X (.BoolOp .And (a::b::rest) pos) (Zii ta tb):=by
 intro pins s σ H Q I h;refine BoolOp_and (thn (ha pins s σ H _ I h) λv s1 ⟨x,H1,I1,r1,q1⟩ => ?_);obtain⟨c,rfl,q1⟩:=q1;cases r1;refine yW ?_;cases c with
 |true=>exact hb pins s1 σ H1 Q I1 q1
 |false=>exact⟨.bl false,H1,I1,rfl,q1⟩
theorem Zjc(ha:PE X a ta):PE X (.UnaryOp .Not a pos) (Zij ta):=by
 intro pins s σ H Q I h;refine UnaryOp_ (thn (ha pins s σ H _ I h) λv s1 ⟨x,H1,I1,r1,q1⟩ => ?_);obtain⟨c,rfl,q1⟩:=q1;cases r1;exact not_of (yW ⟨.bl (!c),H1,I1,rfl,q1⟩)
def tIf(t:TT)(ta tb:TE):TE:=λσ H Q=>t σ H λc H1=>if c=true then ta σ H1 Q else tb σ H1 Q
theorem Zew(hc:PT X c tA)(ha:PE X a ta)(hb:PE X b tb):PE X (.IfExp c a b pos) (tIf tA ta tb):=by
 intro pins s σ H Q I h;refine wpAny_IfExp (thn (hc pins s σ H _ I h) λd s1 ⟨H1,I1,q1⟩ => ?_);cases d with
 |true=>exact ha pins s1 σ H1 Q I1 q1
 |false=>exact hb pins s1 σ H1 Q I1 q1
end
def SqL(K:Frag)(H:Hp)(a:Addr)(xs:List V):Prop:=
 Rd H a (.lst xs) \/
  ∃(o:Obj) (its:Array Value) (n:Nat),K.lookup a=some o/\o.cls = .type "list" /\ o.dict=none/\o.data = .seq its n/\its.size<=sizeLine/\Vals xs its.toList
def SqT(K:Frag)(H:Hp)(a:Addr)(xs:List V):Prop:=
 Rd H a (.tup xs) \/
  ∃(o:Obj) (its:Array Value) (n:Nat),K.lookup a=some o/\o.cls = .type "tuple" /\ o.data = .seq its n/\its.size<=sizeLine/\Vals xs its.toList
def ZmY:Value->Option V
 | .none=>some .non
 | .bool b=>some (.bl b)
 | .int i _=>some (.int i)
 | .str x _=>some (.str x)
 | .bytes b _=>some (.byt b)
 | .float b _=>some (.flt b)
 | .ref a=>some (.ref a)
 | .type n=>some (.ty n)
 |_=>none
theorem RelV.abs{x:V}{u:Value}(r:RelV x u):ZmY u=some x:=by
 cases x with
 |non=>cases r;rfl
 |bl _=>cases r;rfl
 |int _=>obtain⟨t,rfl⟩:=r;rfl
 |str _=>obtain⟨t,rfl⟩:=r;rfl
 |byt _=>obtain⟨t,rfl⟩:=r;rfl
 |flt _=>obtain⟨t,rfl⟩:=r;rfl
 |ref _=>cases r;rfl
 |ty _=>cases r;rfl
theorem RelV.inj{x y:V}{u:Value}(r:RelV x u)(q:RelV y u):x=y:=jo (r.abs.symm.trans q.abs)
theorem Vals.inj:∀{xs ys:List V}{us:List Value},Vals xs us->Vals ys us->xs=ys
 |_,_,_,.nil,.nil=>rfl
 |_,_,_,.cons r t,.cons r' t'=>by rw [r.inj r',Vals.inj t t']
section
variable{X:Cx}{pins:List 'g'}{σ:St}{H:Hp}{s:Shared}{a:Addr}{xs ys:List V}
theorem SqL.of{K:Frag}(h:H a=some (.lst xs)):SqL K H a xs := .inl (.inl h)
theorem SqT.of{K:Frag}(h:H a=some (.tup xs)):SqT K H a xs := .inl (.inl h)
theorem Inv.list(I:Inv X pins σ H s)(h:SqL X.K H a xs):∃its:List Value,Vals xs its/\PlainL s.heap a its.toArray/\xs.length<=sizeLine:=by
 rcases h with h|⟨o,its,n,hk,hc,hd,hs,hz,r⟩
 . obtain⟨z,its,n,r,e⟩:=h.ok I.hok
   exact⟨its,r,⟨_,n,e,rfl,rfl,rfl⟩,z⟩
 . refine⟨its.toList,r,⟨o,n,I.kIn a o hk,hc,hd,by simpa using hs⟩,?_⟩
   have e:=r.length;simp only [jP]at e;omega
theorem Inv.tuple(I:Inv X pins σ H s)(h:SqT X.K H a xs):∃its:List Value,Vals xs its/\IsTup s.heap a its.toArray/\xs.length<=sizeLine:=by
 rcases h with h|⟨o,its,n,hk,hc,hs,hz,r⟩
 . obtain⟨z,its,r,p⟩:=h.ok I.hok
   exact⟨its,r,p.tup,z⟩
 . refine⟨its.toList,r,⟨o,I.kIn a o hk,hc,n,by simpa using hs⟩,?_⟩
   have e:=r.length;simp only [jP]at e;omega
theorem Inv.list_inj(I:Inv X pins σ H s)(h:SqL X.K H a xs)(h':SqL X.K H a ys):xs=ys:=by
 obtain⟨its,r,⟨o,n,e,_,_,d⟩,_⟩:=I.list h;obtain⟨its',r',⟨o',n',e',_,_,d'⟩,_⟩:=I.list h';rw [e]at e';cases e';rw [d]at d';injection d' with d1 _
 have:its=its':=by simpa using congrArg Array.toList d1
 subst this;exact r.inj r'
theorem Inv.tuple_inj(I:Inv X pins σ H s)(h:SqT X.K H a xs)(h':SqT X.K H a ys):xs=ys:=by
 obtain⟨its,r,⟨o,e,_,n,d⟩,_⟩:=I.tuple h;obtain⟨its',r',⟨o',e',_,n',d'⟩,_⟩:=I.tuple h';rw [e]at e';cases e';rw [d]at d';injection d' with d1 _
 have:its=its':=by simpa using congrArg Array.toList d1
 subst this;exact r.inj r'
end
abbrev Cx.wish(X:Cx)(E:Value->Shared->Prop):Cx:={ X with xe:=E }
abbrev Cx.nox(X:Cx):Cx:=X.wish λ_ _=>False
theorem Cx.Ok.wish{X:Cx}(ok:X.Ok)(E:Value->Shared->Prop):(X.wish E).Ok:=
 ⟨ok.mod,ok.kind,ok.glob,ok.blt,ok.above,ok.inj,ok.has,ok.cab,ok.hd,ok.frames,ok.stk,ok.exf,ok.bs,ok.bsz,ok.noex,ok.exfs,ok.funs,ok.frf,ok.tb⟩
theorem Cx.Ok.unwish{X:Cx}{E:Value->Shared->Prop}(ok:(X.wish E).Ok):X.Ok:=
 ⟨ok.mod,ok.kind,ok.glob,ok.blt,ok.above,ok.inj,ok.has,ok.cab,ok.hd,ok.frames,ok.stk,ok.exf,ok.bs,ok.bsz,ok.noex,ok.exfs,ok.funs,ok.frf,ok.tb⟩
section
variable{X:Cx}{pins:List 'g'}{σ:St}{H:Hp}{s:Shared}{E:Value->Shared->Prop}
theorem Inv.wish(I:Inv X pins σ H s)(E:Value->Shared->Prop):Inv (X.wish E) pins σ H s:=⟨I.ok.wish E,I.os,I.bare,I.base,I.loc,I.cell,I.free,I.freeC,I.pin,I.hok,I.len,I.fzs⟩
theorem Inv.unwish(I:Inv (X.wish E) pins σ H s):Inv X pins σ H s:=⟨I.ok.unwish,I.os,I.bare,I.base,I.loc,I.cell,I.free,I.freeC,I.pin,I.hok,I.len,I.fzs⟩
theorem SP.unwish{D:Ends}{f:Flow}{s':Shared}(h:SP (X.wish E) pins D f s'):SP X pins D f s':=by
 cases f with
 |next=>obtain⟨σ',H',I,q⟩:=h;exact⟨σ',H',I.unwish,q⟩
 |brk=>obtain⟨σ',H',I,q⟩:=h;exact⟨σ',H',I.unwish,q⟩
 |cont=>obtain⟨σ',H',I,q⟩:=h;exact⟨σ',H',I.unwish,q⟩
 |ret u=>obtain⟨v,σ',H',I,r,q⟩:=h;exact⟨v,σ',H',I.unwish,r,q⟩
theorem PSs.nox{st:List Stmt}{t:TS}(h:PSs X.nox st t):PSs X st t:=λpins s σ H D I hw=>
 qJ (h pins s σ H D (I.wish _) hw) (λ_ _ q=>q.unwish) λ_ _ z=>False.elim z
end
section
variable{X:Cx}{st:Stmt}{rest:List Stmt}{t u:TS}{e:Expr}{te:TE}{pos:Pos}
def tNext:TS:=λD σ H=>D.nx σ H
def ZB(t u:TS):TS:=λD σ H=>t { D with nx:=u D } σ H
theorem ZgK:PSs X [] tNext:=λ_ _ σ H _ I h=>wpAny_execs_nil ⟨σ,H,I,h⟩
theorem ZbB(h1:PS X st t)(h2:PSs X rest u):PSs X (st::rest) (ZB t u):=by
 intro pins s σ H D I h;refine wpAny_execs_cons (thn (h1 pins s σ H { D with nx:=u D } I h) λf s1 q => ?_);cases f with
 |next=>
  obtain⟨σ',H',I',q⟩:=q;exact h2 pins s1 σ' H' D I' q
 |ret v=>exact q
 |brk=>exact q
 |cont=>exact q
theorem ZcB(h1:PS X st t):PSs X [st] t:=by
 intro pins s σ H D I h;refine wpAny_execs_cons (thn (h1 pins s σ H D I h) λf s1 q => ?_);cases f with
 |next=>exact wpAny_execs_nil q
 |ret v=>exact q
 |brk=>exact q
 |cont=>exact q
theorem Inv.quiet{pins:List 'g'}{σ:St}{H:Hp}{s:Shared}(I:Inv X pins σ H s):interactive X.env=false:=by simp [interactive,I.ok.kind]
def XA(te:TE):TS:=λD σ H=>te σ H λ_ H1=>D.nx σ H1
theorem ZgL(he:PE X e te)(hs:swapsWith e none pos.line X.env=pure false:=by rfl):PS X (.Expr e pos) (XA te):=by
 intro pins s σ H D I h;exact wpAny_Expr_any (thn (he pins s σ H _ I h) λv s1 ⟨x,H1,I1,r1,q1⟩=>⟨σ,H1,I1,q1⟩) I.quiet hs
def Xp(te:TE):TS:=λD σ H=>te σ H D.rt
theorem ZfJ(he:PE X e te):PS X (.Return (some e) pos) (Xp te):=by
 intro pins s σ H D I h;exact wpAny_Return_some (thn (he pins s σ H _ I h) λv s1 ⟨x,H1,I1,r1,q1⟩=>⟨x,σ,H1,I1,r1,q1⟩)
def QE(c:TT)(t u:TS):TS:=λD σ H=>c σ H λb H1=>if b=true then t D σ H1 else u D σ H1
theorem ZkI(hc:PT X c tc)(ha:PSs X a t)(hb:PSs X b u):PS X (.If c a b pos) (QE tc t u):=by
 intro pins s σ H D I h;refine wpAny_If (thn (hc pins s σ H _ I h) λd s1 ⟨H1,I1,q1⟩ => ?_);cases d with
 |true=>exact ha pins s1 σ H1 D I1 q1
 |false=>exact hb pins s1 σ H1 D I1 q1
end
abbrev TG:=V->St->Hp->(St->Hp->Prop)->Prop
abbrev TGs:=List V->St->Hp->(St->Hp->Prop)->Prop
def PG(X:Cx)(target:Expr)(t:TG):Prop:=
 ∀(pins:List 'g')(s:Shared)(σ:St)(H:Hp)(v:V)(u:Value)(Q:St->Hp->Prop),Inv X pins σ H s->RelV v u->t v σ H Q ->
  wpAny 'e' X.A (assign target X.env u) (λ_ s'=>∃σ' H',Inv X pins σ' H' s'/\Q σ' H') X.xe s
def PGs(X:Cx)(ts:List Expr)(t:TGs):Prop:=
 ∀(pins:List 'g')(s:Shared)(σ:St)(H:Hp)(vs:List V)(us:List Value)(Q:St->Hp->Prop),Inv X pins σ H s->Vals vs us->t vs σ H Q ->
  wpAny 'e' X.A (assignInOrder ((assignEach ts X.env).map (·.2)) us) (λ_ s'=>∃σ' H',Inv X pins σ' H' s'/\Q σ' H') X.xe s
abbrev TSet:=V->V->V->Hp->(Hp->Prop)->Prop
def Zmu(X:Cx)(t:TSet):Prop:=
 ∀(pins:List 'g')(s:Shared)(σ:St)(H:Hp)(o i v:V)(ov iv u:Value)(Q:Hp->Prop),Inv X pins σ H s->RelV o ov->RelV i iv->RelV v u->t o i v H Q ->
  wpAny 'e' X.A (setItem ov iv u) (λ_ s'=>∃H',Inv X pins σ H' s'/\Q H') X.xe s
section
variable{X:Cx}{pos:Pos}
def Zs(i:Nat):TG:=λv σ H Q=>Q (σ.set i (some v)) H
theorem ZcC{i:Nat}{x:Str}(hN:X.N.Nodup)(hi:X.N[i]? = some x:=by rfl)(hx:Loc X.env.scope x:=by first|exact Or.inl rfl|exact Or.inr rfl)(hf:X.fn x=true\/X.env.scope.names.lookup x=some .local:=by first|exact .inl rfl|exact .inr rfl|assumption):PG X (.Name x pos) (Zs i):=by
 intro pins s σ H v u Q I r h;exact wpAny_assign_Name (QD I hN hi hx r (λs' I'=>⟨_,H,I',h⟩) hf)
def gNil:TGs:=λvs σ H Q=>vs=[]/\Q σ H
def YE(t:TG)(u:TGs):TGs:=λvs σ H Q=>∃v r,vs=v::r/\t v σ H λσ' H'=>u r σ' H' Q
theorem ZgM:PGs X [] gNil:=by
 intro pins s σ H vs us Q I r h;obtain⟨e,h⟩:=h;subst e;cases r;exact assignInOrder_nil ⟨σ,H,I,h⟩
theorem Zex {e:Expr} {es:List Expr} (h1:PG X e t) (h2:PGs X es u)
 (hs:(assignEach (e::es) X.env).map (·.2)=assign e X.env::(assignEach es X.env).map (·.2):=by rfl):PGs X (e::es) (YE t u):=by
 intro pins s σ H vs us Q I r h;obtain⟨v,vr,e1,h⟩:=h;subst e1;cases r with
 |cons r rr=>
  rw [hs];refine assignInOrder_cons (thn (h1 pins s σ H _ _ _ I r h) λ_ s1 ⟨σ1,H1,I1,q1⟩ => ?_);exact h2 pins s1 σ1 H1 _ _ Q I1 rr q1
def Xq(K:Frag)(n:Nat)(t:TGs):TG:=λv σ H Q=>∃a xs,v = .ref a/\SqT K H a xs/\xs.length=n/\t xs σ H Q
theorem Zjd {k:Nat} {n:Nat} (hc:X.calm=true) (h:PGs X es t)
 (hn:(assignEach es X.env).length=n:=by rfl) (hst:(assignEach es X.env).findIdx? (·.1)=none:=by rfl):PG X (.Tuple es k pos) (Xq X.K n t):=by
 intro pins s σ H v u Q I r hw;obtain⟨a,xs,e1,hq,hl,hw⟩:=hw;subst e1;cases r;obtain⟨its,rv,ht,hz⟩:=I.tuple hq;refine assign_Tuple_tuple (I.ok.hd hc) ht (by simp [hn,<-hl,rv.length]) hst λh' hx => ?_
 have I1:Inv X pins σ H { s with heap:=h' }:=I.kept (t':=s.toks) λb o e=>hx b o (jQ (jz e)) e
 exact h pins _ σ H xs _ Q I1 (by simpa using rv) hw
def Zmv(to ti:TE)(t:TSet):TG:=λv σ H Q=>to σ H λo H1=>ti σ H1 λi H2=>t o i v H2 λH3=>Q σ H3
theorem Zje {t:TSet} (ho:PE X o to) (hi:PE X i ti) (hs:Zmu X t)
 (ha:∀v,assign (.Subscript o i pos) X.env v=(do
   let ov <-holding [v] (eval o X.env)
   let iv <-holding [v,ov] (eval i X.env)
   standAt pos
   holding [v,ov,iv] (setItem ov iv v)
   release [v,ov,iv] []):=by intro _;rfl):PG X (.Subscript o i pos) (Zmv to ti t):=by
 intro pins s σ H v u Q I r h;rw [ha];refine jb (yj (thn (ho pins s σ H _ I h) λov s1 ⟨x,H1,I1,r1,q1⟩ => ?_));refine jb (yj (thn (hi pins s1 σ H1 _ I1 q1) λiv s2 ⟨y,H2,I2,r2,q2⟩ => ?_));refine jb (wpAny_standAt (jb (yj (thn (hs pins s2 σ H2 x y v ov iv u _ I2 r1 r2 r q2) λ_ s3 ⟨H3,I3,q3⟩ => ?_))));exact wpAny_release ⟨σ,H3,I3,q3⟩
def ZG(te:TE)(g:TG):TS:=λD σ H=>te σ H λx H1=>g x σ H1 D.nx
theorem Zjf {tg e:Expr} (he:PE X e te) (hg:PG X tg g) (hs:swapsWithSole [tg] e pos.line X.env=pure false:=by rfl) (hw:swappedStores [tg] e X.env=pure none:=by rfl)
 (h1:(assignEach [tg] X.env).map (·.2)=[assign tg X.env]:=by rfl):PS X (.Assign [tg] e pos) (ZG te g):=by
 intro pins s σ H D I h;refine wpAny_Assign_stores (thn (he pins s σ H _ I h) λv s1 ⟨x,H1,I1,r1,q1⟩ => ?_) hs hw;rw [h1];exact thn (hg pins s1 σ H1 x v _ I1 r1 q1) λ_ s2 q=>q
theorem ZfK{i:Nat}{x:Str}(hN:X.N.Nodup)(hi:X.N[i]? = some x)(hx:Loc X.env.scope x)(he:PE X e te)(hs:swapsWith e (some (.Name x pos')) pos.line X.env=pure false:=by rfl)(hf:X.fn x=true\/X.env.scope.names.lookup x=some .local:=by first|exact .inl rfl|exact .inr rfl|assumption) :
 PS X (.Assign [.Name x pos'] e pos) (ZG te (Zs i)):=by
 intro pins s σ H D I h;refine wpAny_Assign_Name (thn (he pins s σ H _ I h) λv s1 ⟨y,H1,I1,r1,q1⟩ => ?_) hs;exact QD I1 hN hi hx r1 (λs2 I2=>⟨_,H1,I2,q1⟩) hf
end
section
variable{X:Cx}{pos:Pos}
def QF(c:TT)(tb:TS):TS:=λD σ H=>∃W:Nat->St->Hp->Prop,(∃m,W m σ H)/\∀m σ H,W m σ H ->
 c σ H λb H1=>if b=true then ∃N:St->Hp->Prop,(∀σ' H',N σ' H'->∃m',m'<m/\W m' σ' H')/\tb { D with nx:=N,ct:=N,bk:=D.nx } σ H1 else D.nx σ H1
theorem Zey(hp:PassesOwn 'e' X.A X.env X.xe)(hc:PT X c tc)(hb:PSs X body tb):PS X (.While c body [] pos) (QF tc tb):=by
 intro pins s σ H D I h;obtain⟨W,⟨m0,w0⟩,turn⟩:=h;refine wpAny_While (codeAny_whileLoop (λn s'=>∃σ' H',Inv X pins σ' H' s'/\W n σ' H') ?_ m0 ⟨σ,H,I,w0⟩)
 rintro n s1 ⟨σ1,H1,I1,w1⟩
 refine yx hp (thn (hc pins s1 σ1 H1 _ I1 (turn n σ1 H1 w1)) λb s2 ⟨H2,I2,q2⟩ => ?_);cases b with
 |true=>
  obtain⟨N,hN,q2⟩:=q2;rw [je rfl];refine yx hp (thn (hb pins s2 σ1 H2 _ I2 q2) λf s3 q3 => ?_);cases f with
  |next=>
   obtain⟨σ3,H3,I3,n3⟩:=q3;obtain⟨m',hm,w3⟩:=hN σ3 H3 n3;exact⟨m',hm,σ3,H3,I3,w3⟩
  |cont=>
   obtain⟨σ3,H3,I3,n3⟩:=q3;obtain⟨m',hm,w3⟩:=hN σ3 H3 n3;exact⟨m',hm,σ3,H3,I3,w3⟩
  |brk=>exact q3
  |ret v=>exact q3
 |false=>
  rw [jg jy];exact wpAny_execs_nil ⟨σ1,H2,I2,q2⟩
end
structure It where
 go:Nat->Hp->Prop
 yld:Nat->Hp->V->Hp->Prop
 stop:Nat->Hp->Prop
def Ys(X:Cx)(pins:List 'g')(H:Hp)(b:Addr):Prop:=
 H b=none/\b≠X.env.locals/\b∉X.fs/\(b∈X.ex\/X.s₀.heap.objs.size<=b)/\(∀x c,X.env.cells.lookup x=some c->c≠b)/\∀p∈X.pn++pins,p.1≠b
theorem Inv.fpOk{X:Cx}{pins:List 'g'}{σ:St}{H H':Hp}{s:Shared}{b:Addr}(I:Inv X pins σ H s)(hb:s.heap.objs.size<=b)(hn:H' b=none):Ys X pins H' b:=by
 refine⟨hn,yf (jJ I.lt hb),I.nofs hb,.inr (jL I.sz hb),λx c e z => ?_,λp hp z => ?_⟩
 . obtain⟨v,q⟩:=I.cell x c e
   exact absurd (jJ q.lt (by rw [z];exact hb)) (qO _)
 . exact absurd (jJ (jz (I.pin p hp).1) (by rw [z];exact hb)) (qO _)
structure Turn(P:Program)(w:World)(K:Frag)(tg:Expr)(J:It)(fp:List Addr)(it:Addr)(tn:Nat->Heap->Prop):Prop where
 mem:it∈fp
 obj:∀i h,tn i h->∀b∈fp,∃o,h.get? b=some o/\∀v,o.data ≠ .cell v
 keep:∀i h h',tn i h->(∀b∈fp,∀o,h.get? b=some o->h'.get? b=some o)->tn i h'
 item:∀(X:Cx),X.prog=P->X.w=w->X.K=K->X.calm=true->∀(i:Nat)(pins:List 'g')(s:Shared)(σ:St)(H:Hp)(E:Value->Shared->Prop),Inv X pins σ H s->(∀b∈fp,Ys X pins H b)->tn i s.heap->J.go i H ->
  wpAny (model P w) X.A (pyNext (.ref it)) (λr s1=>∃u,r=some u /\
   wpAny (model P w) X.A (letOwnedTupleGo tg (.ref it) u) (λ_ s2=>∃x H',Inv X pins σ H' s2/\RelV x u/\J.yld i H x H'/\tn (i+1) s2.heap/\∀b∈fp,H' b=none) E s1) E s
 done:∀(X:Cx),X.prog=P->X.w=w->X.K=K->X.calm=true->∀(i:Nat)(pins:List 'g')(s:Shared)(σ:St)(H:Hp)(E:Value->Shared->Prop),Inv X pins σ H s->(∀b∈fp,Ys X pins H b)->tn i s.heap->J.stop i H ->
  wpAny (model P w) X.A (pyNext (.ref it)) (λr s1=>r=none/\Inv X pins σ H s1) E s
 self:∀(A:Around)(i:Nat)(s:Shared)(Q:Value->Shared->Prop)(E:Value->Shared->Prop),tn i s.heap->Q (.ref it) s->wpAny (model P w) A (pyIter (.ref it)) Q E s
abbrev TI:=St->Hp->(It->Hp->Prop)->Prop
def PIE(X:Cx)(pins:List 'g')(σ:St)(tg:Expr)(R:It->Hp->Prop)(itv:Value)(s2:Shared):Prop:=
 ∃(it:Addr) (fp:List Addr) (tn:Nat->Heap->Prop) (J:It) (H':Hp),itv = .ref it/\Inv X pins σ H' s2/\Turn X.prog X.w X.K tg J fp it tn/\tn 0 s2.heap/\(∀b∈fp,Ys X pins H' b)/\R J H'
def PI(X:Cx)(tg iter:Expr)(wi:TI):Prop:=
 ∀(pins:List 'g')(s:Shared)(σ:St)(H:Hp)(R:It->Hp->Prop),Inv X pins σ H s->wi σ H R ->
  wpAny 'e' X.A (eval iter X.env) (λv s1=>wpAny 'e' X.A (pyIter v) (PIE X pins σ tg R) X.xe s1) X.xe s
theorem Uj {M:Model} {E:Value->Shared->Prop} {s:Shared} {o:Obj} {n:String} {Q:Unit->Shared->Prop} (ho:s.heap.get? it=some o) (hc:o.cls = .type n) (hd:o.data = .fields vs)
 (hn:["enumerate", "zip", "dict_itemiterator", "dict_reverseitemiterator", "odict_iterator", "itertools.zip_longest", "itertools.pairwise"].contains n=false) (hQ:Q () s):wpAny M A (letOwnedTupleGo tg (.ref it) u) Q E s:=by
 unfold letOwnedTupleGo
 cases tg<;>first
  |exact jf hQ
  | (cases u <;> first
      |exact jf hQ
      | (refine jb (wpAny_load ho ?_)
         rw [hc,hd];show wpAny M A (if(["enumerate", "zip", "dict_itemiterator", "dict_reverseitemiterator", "odict_iterator", "itertools.zip_longest", "itertools.pairwise"].contains n&&vs[0]? == some (rawInt _))=true then _ else _) Q E s;rw [jg (by intro h;rw [hn,Bool.false_and]at h;cases h)];exact jf hQ))
def Itl(K:Frag)(a:Addr):It:=
 ⟨λi H=>∃xs x,SqL K H a xs/\xs[i]? = some x,λi H x H'=>H'=H/\∀xs,SqL K H a xs->xs[i]? = some x,λi H=>∃xs,SqL K H a xs/\xs.length<=i⟩
def Itt(K:Frag)(a:Addr):It:=
 ⟨λi H=>∃xs x,SqT K H a xs/\xs[i]? = some x,λi H x H'=>H'=H/\∀xs,SqT K H a xs->xs[i]? = some x,λi H=>∃xs,SqT K H a xs/\xs.length<=i⟩
def Itr(lo:Int)(n:Nat):It:=⟨λi _=>i<n,λi H x H'=>H'=H/\x = .int (lo+i),λi _=>n<=i⟩
theorem ZaM{K:Frag}(a it:Addr):Turn P w K tg (Itl K a) [it] it (λi h=>h.IsListIter it a i) where
 mem:=by simp
 obj:=λi h st b hb=>by
  have e:b=it:=by simpa using hb
  subst e;obtain⟨o,e,c,d⟩:=st;exact⟨o,e,λv z=>by rw [d]at z;cases z⟩
 keep:=λi h h' st k=>st.at λo e=>k it 'c' o e
 item:=by
  intro X hP hw hK hc i pins s σ H E I hf st hg;subst hP hw hK;obtain⟨xs,x,hq,hx⟩:=hg;obtain⟨its,rv,p,hz⟩:=I.list hq;obtain⟨u,hu,ru⟩:=rv.get hx;obtain⟨f0,f1,f2,f3,f4,f5⟩:=hf it 'c';refine wpAny_pyNext_list_item st p.isList (x:=u) (by simpa using hu) λh' st' sb => ?_
  have I1:Inv X pins σ H { s with heap:=h' }:=I.turned (t':=s.toks) (λb o hb e=>(sb.2 b hb).trans e) f0 f1 f3 f4 f5;obtain⟨o,e,c,d⟩:=id st';exact⟨u,rfl,Uj (s:={ s with heap:=h' }) e c d 'b' ⟨x,H,I1,ru,⟨rfl,λys hy=>by rw [I.list_inj hy hq];exact hx⟩,st',λb hb=>(hf b hb).1⟩⟩
 done:=by
  intro X hP hw hK hc i pins s σ H E I hf st hg;subst hP hw hK;obtain⟨xs,hq,hx⟩:=hg;obtain⟨its,rv,p,hz⟩:=I.list hq;obtain⟨f0,f1,f2,f3,f4,f5⟩:=hf it 'c';have hl:=rv.length;exact wpAny_pyNext_list_end (I.ok.hd hc) st p.isList (by simp;omega) λh' eb=>⟨rfl,I.turned (t':=s.toks) (λb o hb e=>eb b o hb e) f0 f1 f3 f4 f5⟩
 self:=λ_ _ _ _ _ st h=>wpAny_pyIter_listiter st h
theorem Zay{K:Frag}(a it:Addr):Turn P w K tg (Itt K a) [it] it (λi h=>h.IsTupleIter it a i) where
 mem:=by simp
 obj:=λi h st b hb=>by
  have e:b=it:=by simpa using hb
  subst e;obtain⟨o,e,c,d⟩:=st;exact⟨o,e,λv z=>by rw [d]at z;cases z⟩
 keep:=λi h h' st k=>st.at λo e=>k it 'c' o e
 item:=by
  intro X hP hw hK hc i pins s σ H E I hf st hg;subst hP hw hK;obtain⟨xs,x,hq,hx⟩:=hg;obtain⟨its,rv,p,hz⟩:=I.tuple hq;obtain⟨u,hu,ru⟩:=rv.get hx;obtain⟨f0,f1,f2,f3,f4,f5⟩:=hf it 'c';refine wpAny_pyNext_tuple_item st (show s.heap.IsTuple a its.toArray from p) (x:=u) (by simpa using hu) λh' st' sb => ?_
  have I1:Inv X pins σ H { s with heap:=h' }:=I.turned (t':=s.toks) (λb o hb e=>(sb.2 b hb).trans e) f0 f1 f3 f4 f5;obtain⟨o,e,c,d⟩:=id st';exact⟨u,rfl,Uj (s:={ s with heap:=h' }) e c d 'b' ⟨x,H,I1,ru,⟨rfl,λys hy=>by rw [I.tuple_inj hy hq];exact hx⟩,st',λb hb=>(hf b hb).1⟩⟩
 done:=by
  intro X hP hw hK hc i pins s σ H E I hf st hg;subst hP hw hK;obtain⟨xs,hq,hx⟩:=hg;obtain⟨its,rv,p,hz⟩:=I.tuple hq;obtain⟨f0,f1,f2,f3,f4,f5⟩:=hf it 'c';have hl:=rv.length;exact wpAny_pyNext_tuple_end (I.ok.hd hc) st (show s.heap.IsTuple a its.toArray from p) (by simp;omega) λh' eb=>⟨rfl,I.turned (t':=s.toks) (λb o hb e=>eb b o hb e) f0 f1 f3 f4 f5⟩
 self:=λ_ _ _ _ _ st h=>wpAny_pyIter_tupleiter st h
theorem Zcb{K:Frag}(it:Addr)(lo:Int)(n:Nat):Turn P w K tg (Itr lo n) [it] it (λi h=>IsRangeIter h it (lo+(i:Nat)*1) ((n:Int)-(i:Nat)) 1) where
 mem:=by simp
 obj:=λi h st b hb=>by
  have e:b=it:=by simpa using hb
  subst e
  exact⟨_,st,λv z=>by
   have z':Data.fields _=Data.cell v:=z;cases z'⟩
 keep:=λi h h' st k=>k it 'c' _ st
 item:=by
  intro X hP hw hK hc i pins s σ H E I hf st hg;subst hP hw hK;obtain⟨f0,f1,f2,f3,f4,f5⟩:=hf it 'c';have W:=Walks.range (prog:=X.prog) (w:=X.w) (I.ok.hd hc) it lo 1 n;refine W.item i s _ _ hg st λv h' tk hv st' kk => ?_
  obtain⟨t,rfl⟩:=hv;have I1:Inv X pins σ H { s with heap:=h',toks:=tk }:=I.turned (λb o hb e=>kk b o (by simpa using hb) e) f0 f1 f3 f4 f5;refine⟨_,rfl,Uj (s:={ s with heap:=h',toks:=tk }) (n:="range_iterator") st' rfl rfl 'b' ⟨.int (lo+i),H,I1,⟨t,?_⟩,⟨rfl,rfl⟩,st',λb hb=>(hf b hb).1⟩⟩;rw [Int.mul_one]
 done:=by
  intro X hP hw hK hc i pins s σ H E I hf st hg;subst hP hw hK;obtain⟨f0,f1,f2,f3,f4,f5⟩:=hf it 'c';exact wpAny_pyNext_range_end (I.ok.hd hc) st (by have:n<=i:=hg;omega) λh' eb=>⟨rfl,I.turned (t':=s.toks) (λb o hb e=>eb b o hb e) f0 f1 f3 f4 f5⟩
 self:=λ_ _ _ _ _ st h=>wpAny_pyIter_rangeiter st h
section
variable{X:Cx}{tg:Expr}
def Vy(K:Frag)(tl:TE):TI:=λσ H R=>tl σ H λx H1=>∃a,x = .ref a/\(∃xs,SqL K H1 a xs)/\R (Itl K a) H1
def QG(K:Frag)(tl:TE):TI:=λσ H R=>tl σ H λx H1=>∃a,x = .ref a/\(∃xs,SqT K H1 a xs)/\R (Itt K a) H1
theorem ZgN(hl:PE X l tl):PI X tg l (Vy X.K tl):=by
 intro pins s σ H R I h;refine thn (hl pins s σ H _ I h) λv s1 ⟨x,H1,I1,r1,q1⟩ => ?_
 obtain⟨a,e,⟨xs,hq⟩,q⟩:=q1;subst e;cases r1;obtain⟨its,rv,p,hz⟩:=I1.list hq;refine yD p.isList ?_;refine⟨s1.heap.objs.size,[s1.heap.objs.size],_,_,H1,rfl,I1.kept (t':=s1.toks) λb o e=>jh _ e,ZaM a _,⟨_,jr _ rfl,rfl,rfl⟩,λb hb => ?_,q⟩;have e:b=s1.heap.objs.size:=by simpa using hb
 subst e;exact I1.fpOk (jk _) (I1.hok.fresh (jk _))
theorem ZfL(hl:PE X l tl):PI X tg l (QG X.K tl):=by
 intro pins s σ H R I h;refine thn (hl pins s σ H _ I h) λv s1 ⟨x,H1,I1,r1,q1⟩ => ?_
 obtain⟨a,e,⟨xs,hq⟩,q⟩:=q1;subst e;cases r1;obtain⟨its,rv,p,hz⟩:=I1.tuple hq;refine qw (show s1.heap.IsTuple a its.toArray from p) ?_;refine⟨s1.heap.objs.size,[s1.heap.objs.size],_,_,H1,rfl,I1.kept (t':=s1.toks) λb o e=>jh _ e,Zay a _,⟨_,jr _ rfl,rfl,rfl⟩,λb hb => ?_,q⟩;have e:b=s1.heap.objs.size:=by simpa using hb
 subst e;exact I1.fpOk (jk _) (I1.hok.fresh (jk _))
theorem ZbC {s:Shared} {R:It->Hp->Prop} {E:Value->Shared->Prop} {lo hi:Int} {tk:Nat} (I:Inv X pins σ H s) (h1 : -(2 ^ 62)<=lo) (h2:lo<2 ^ 62) (h3 : -(2 ^ 62)<=hi) (h4:hi<2 ^ 62)
 (q:R (Itr lo (hi-lo).toNat) H):wpAny 'e' X.A (pyIter (.ref s.heap.objs.size)) (PIE X pins σ tg R) E { s with heap:=s.heap.push { cls := .type "range",data := .fields #[.int lo t,.int hi u,.int 1 v] },toks:=tk }:=by
 refine wpAny_pyIter_range (IsRange.new ..) (small_one h1 h2 h3 h4) ?_;have I1:Inv X pins σ H { s with heap:=s.heap.push { cls := .type "range",data := .fields #[.int lo t,.int hi u,.int 1 v] },toks:=tk }:=I.kept λb o e=>jh _ e
 refine⟨(s.heap.push { cls := .type "range",data := .fields #[.int lo t,.int hi u,.int 1 v] }).objs.size,[(s.heap.push { cls := .type "range",data := .fields #[.int lo t,.int hi u,.int 1 v] }).objs.size],_,_,H,rfl,
  I1.kept (t':=tk) λb o e=>jh _ e,Zcb _ lo (hi-lo).toNat,?_,λb hb => ?_,q⟩
 . have e1:lo+((0:Nat):Int)*1=lo:=by simp
   have e2:(((hi-lo).toNat:Nat):Int)-((0:Nat):Int)=Builtin.Range.rangeSize lo hi 1:=by rw [rangeSize_one];split<;>omega
   show IsRangeIter _ _ (lo+((0:Nat):Int)*1) ((((hi-lo).toNat:Nat):Int)-((0:Nat):Int)) 1;rw [e1,e2];exact jr _ rfl
 . have e:b=(s.heap.push { cls := .type "range",data := .fields #[.int lo t,.int hi u,.int 1 v] }).objs.size:=by simpa using hb
   subst e;exact I1.fpOk (jk _) (I1.hok.fresh (jk _))
def Zik(ta:TA):TI:=λσ H R=>ta σ H λvs H1=>∃j:Int,vs=[.int j] /\ -(2 ^ 62)<=j/\j<2 ^ 62/\R (Itr 0 j.toNat) H1
def Zil(ta:TA):TI:=λσ H R=>ta σ H λvs H1=>∃i j:Int,vs=[.int i,.int j]/\(-(2 ^ 62)<=i/\i<2 ^ 62 /\ -(2 ^ 62)<=j/\j<2 ^ 62)/\R (Itr i (j-i).toNat) H1
theorem ZdE {a:Expr} (hg:Gl X "range") (hm:X.mg "range" = none) (ha:PA X [a] ta) (hs:starEach [a] X.env=[(false,eval a X.env)]:=by rfl):PI X tg (.Call (.Name "range" p) [a] [] pos) (Zik ta):=by
 intro pins s σ H R I h;refine Call_ (Xb I hg hm boot_range (qp (thn (ha pos pins s σ H _ I h) λus s1 ⟨vs,H1,I1,r1,q1⟩ => ?_) hs rfl));obtain⟨j,e,q1,q2,q⟩:=q1;subst e;cases r1 with
 |cons r rr=>
  cases rr;obtain⟨t,rfl⟩:=r;exact call_range_1 (ZbC I1 'a' 'a' q1 q2 (by simpa using q))
theorem ZdF {a b:Expr} (hg:Gl X "range") (hm:X.mg "range" = none) (ha:PA X [a,b] ta) (hs:starEach [a,b] X.env=[(false,eval a X.env),(false,eval b X.env)]:=by rfl) (hs2:starEach [b] X.env=[(false,eval b X.env)]:=by rfl) :
 PI X tg (.Call (.Name "range" p) [a,b] [] pos) (Zil ta):=by
 intro pins s σ H R I h;refine Call_ (Xb I hg hm boot_range (qp (thn (ha pos pins s σ H _ I h) λus s1 ⟨vs,H1,I1,r1,q1⟩ => ?_) (by rw [hs,hs2]) (by rw [hs2];rfl)));obtain⟨i,j,e,⟨q1,q2,q3,q4⟩,q⟩:=q1;subst e;cases r1 with
 |cons r rr=>
  cases rr with
  |cons r' rr=>
   cases rr;obtain⟨t,rfl⟩:=r;obtain⟨t',rfl⟩:=r';exact call_range_2 (ZbC I1 q1 q2 q3 q4 q)
def Yt(wi:TI)(g:TG)(tb:TS):TS:=λD σ H=>wi σ H λJ H1=>∃W:Nat->Nat->St->Hp->Prop,(∃m,W 0 m σ H1)/\∀i m σ H,W i m σ H ->
 (J.stop i H/\D.nx σ H)\/(J.go i H/\∃N:St->Hp->Prop,(∀σ' H',N σ' H'->∃m',m'<m/\W (i+1) m' σ' H')/\∀x H',J.yld i H x H'->g x σ H' λσ2 H2=>tb { D with nx:=N,ct:=N,bk:=D.nx } σ2 H2)
def YW(fp:List Addr)(h:Heap):List 'g':=fp.filterMap λb=>(h.get? b).map λo=>(b,o)
theorem Uk{fp:List Addr}{h:Heap}{b:Addr}{o:Obj}(hb:b∈fp)(e:h.get? b=some o):(b,o)∈YW fp h:=yn.mpr ⟨b,hb,by rw [e];rfl⟩
theorem ZaN{fp:List Addr}{h:Heap}{p:Addr×Obj}(hp:p∈YW fp h):p.1∈fp/\h.get? p.1=some p.2:=by
 obtain⟨b,hb,e⟩:=yn.mp hp;cases q:h.get? b with
 |none=>rw [q]at e;cases e
 |some o=>
  rw [q]at e;have e':(b,o)=p:=jo e;subst e';exact⟨hb,q⟩
theorem Inv.pinned{pins:List 'g'}{σ:St}{H:Hp}{s:Shared}{fp:List Addr}(I:Inv X pins σ H s)(hf:∀b∈fp,Ys X pins H b)(ho:∀b∈fp,∃o,s.heap.get? b=some o/\∀v,o.data ≠ .cell v):Inv X (pins++YW fp s.heap) σ H s:=
 I.pins_of λp hp=>(jK.mp hp).elim (λz=>I.pin p (jw _ z)) λz=>by
  obtain⟨hb,e⟩:=ZaN z;obtain⟨f0,f1,f2,_⟩:=hf p.1 hb;obtain⟨o,e',d⟩:=ho p.1 hb;rw [e]at e';cases e';exact⟨e,f0,f1,f2,d⟩
theorem Inv.unpinned{pins pl:List 'g'}{σ:St}{H:Hp}{s:Shared}(I:Inv X (pins++pl) σ H s):Inv X pins σ H s:=I.pins_of λp hp=>I.pin p (jw _ (j2 _ hp))
theorem QH (hp:PassesOwn 'e' X.A X.env X.xe) (hc:X.calm=true) (hi:PI X tg iter wi) (hg:PG X tg g) (hb:PSs X body tb)
 (hs:∀x,foldedSetIterable iter X.env x=pure x:=by intro _;rfl):PS X (.For tg iter body [] pos) (Yt wi g tb):=by
 intro pins s σ H D I h;refine wpAny_For (thn (hi pins s σ H _ I h) λv s1 h1=>thn h1 λitv s2 h2 => ?_) hs;obtain⟨it,fp,tn,J,H2,e,I2,T,st2,f2,W,⟨m0,w0⟩,turn⟩:=h2;subst e;have stat:∀{H':Hp},(∀b∈fp,H' b=none)->∀b∈fp,Ys X pins H' b:=λhn b hb=>⟨hn b hb,(f2 b hb).2⟩
 refine codeAny_forLoop_any (λn s'=>∃i σ' H',Inv X pins σ' H' s'/\tn i s'.heap/\(∀b∈fp,H' b=none)/\W i n σ' H') ?_ m0 ⟨0,σ,H2,I2,st2,λb hb=>(f2 b hb).1,w0⟩
 rintro n s3 ⟨i,σ3,H3,I3,st3,fr3,w3⟩
 rcases turn i n σ3 H3 w3 with⟨stop,qn⟩|⟨go,N,hN,step⟩
 . refine yx hp (thn (T.done X rfl rfl rfl hc i pins s3 σ3 H3 X.xe I3 (stat fr3) st3 stop) λr s4 ⟨hr,I4⟩ => ?_)
   subst hr;exact wpAny_execs_nil ⟨σ3,H3,I4,qn⟩
 . refine yx hp (thn (T.item X rfl rfl rfl hc i pins s3 σ3 H3 X.xe I3 (stat fr3) st3 go) λr s4 ⟨u,hr,h4⟩ => ?_)
   subst hr;refine yx hp (thn h4 λ_ s5 ⟨x,H5,I5,r5,y5,st5,fr5⟩ => ?_);have I5':=I5.pinned (stat fr5) (T.obj _ _ st5);refine yx hp (thn (hg _ s5 σ3 H5 x u _ I5' r5 (step x H5 y5)) λ_ s6 ⟨σ6,H6,I6,q6⟩ => ?_);refine yx hp (thn (hb _ s6 σ6 H6 _ I6 q6) λf s7 q7 => ?_)
   have again:∀{σ7:St}{H7:Hp},Inv X (pins++YW fp s5.heap) σ7 H7 s7->N σ7 H7->∃m,m<n/\∃i σ' H',Inv X pins σ' H' s7/\tn i s7.heap/\(∀b∈fp,H' b=none)/\W i m σ' H':=λ{σ7 H7} I7 n7=>by
    obtain⟨m',hm,w7⟩:=hN σ7 H7 n7;refine⟨m',hm,i+1,σ7,H7,I7.unpinned,T.keep _ _ _ st5 λb hb o e=>(I7.pin (b,o) (jw _ (jw _ (Uk hb e)))).1,λb hb => ?_,w7⟩;obtain⟨o,e,d⟩:=T.obj _ _ st5 b hb;exact(I7.pin (b,o) (jw _ (jw _ (Uk hb e)))).2.1
   cases f with
   |next=>obtain⟨σ7,H7,I7,n7⟩:=q7;exact again I7 n7
   |cont=>obtain⟨σ7,H7,I7,n7⟩:=q7;exact again I7 n7
   |brk=>obtain⟨σ7,H7,I7,q7⟩:=q7;exact⟨σ7,H7,I7.unpinned,q7⟩
   |ret v=>obtain⟨x7,σ7,H7,I7,r7,q7⟩:=q7;exact⟨x7,σ7,H7,I7.unpinned,r7,q7⟩
end
abbrev R2:=V->V->Hp->VK->Prop
def OpR(X:Cx)(f:Value->Value->Sem Value)(r:R2):Prop:=
 ∀(pins:List 'g')(s:Shared)(σ:St)(H:Hp)(x y:V)(v u:Value)(Q:VK),Inv X pins σ H s->RelV x v->RelV y u->r x y H Q ->
  wpAny 'e' X.A (f v u) (EP X pins σ Q) X.xe s
def CallR(X:Cx)(f:Value)(r:List V->Hp->VK->Prop):Prop:=
 ∀(pins:List 'g')(s:Shared)(σ:St)(H:Hp)(xs:List V)(us:List Value)(Q:VK),Inv X pins σ H s->Vals xs us->r xs H Q ->
  wpAny 'e' X.A (call f us) (EP X pins σ Q) X.xe s
def tOp(r:R2)(ta tb:TE):TE:=λσ H Q=>ta σ H λx H1=>tb σ H1 λy H2=>r x y H2 Q
def rI(C:Int->Int->Prop)(g:Int->Int->V):R2:=λx y H Q=>∃i j,x = .int i/\y = .int j/\C i j/\Q (g i j) H
def rI0(g:Int->Int->V):R2:=λx y H Q=>∃i j,x = .int i/\y = .int j/\Q (g i j) H
section
variable{X:Cx}{a b c:Expr}{ta tb tc:TE}{pos:Pos}
theorem QI (ha:PE X a ta) (hb:PE X b tb) {R:V->V->Hp->Prop} (I:Inv X pins σ H s)
 (h:ta σ H λx H1=>tb σ H1 λy H2=>R x y H2) {Q:Value->Shared->Prop} {f:Value->Value->Sem Value}
 (hf:∀v u s2 x y H2,Inv X pins σ H2 s2->RelV x v->RelV y u->R x y H2->wpAny 'e' X.A (f v u) Q X.xe s2) :
 wpAny 'e' X.A (eval a X.env) (λv s₁=>wpAny 'e' X.A (eval b X.env) (λu s₂=>wpAny 'e' X.A (f v u) Q X.xe s₂) X.xe s₁) X.xe s:=by
 refine thn (ha pins s σ H _ I h) λv s1 ⟨x,H1,I1,r1,q1⟩ => ?_
 refine thn (hb pins s1 σ H1 _ I1 q1) λu s2 ⟨y,H2,I2,r2,q2⟩ => ?_
 exact hf v u s2 x y H2 I2 r1 r2 q2
theorem X1{op:Operator}{r:R2}(ho:OpR X (binaryOp op) r)(ha:PE X a ta)(hb:PE X b tb):PE X (.BinOp a op b pos) (tOp r ta tb):=by
 intro pins s σ H Q I h;exact wpAny_BinOp (QI ha hb I h λv u s2 x y H2 I2 rx ry q=>ho pins s2 σ H2 x y v u Q I2 rx ry q)
theorem opI {f:Value->Value->Sem Value} {C:Int->Int->Prop} {g:Int->Int->Int}
 (rule:∀(i j:Int)(t u:Tok)(s:Shared)(Q:Value->Shared->Prop)(E:Value->Shared->Prop),C i j->Q (.int (g i j) s.toks) { s with toks:=s.toks+1 }->wpAny 'e' X.A (f (.int i t) (.int j u)) Q E s) :
 OpR X f (rI C λi j => .int (g i j)):=by
 intro pins s σ H x y v u Q I rx ry h;obtain⟨i,j,rfl,rfl,hc,q⟩:=h;obtain⟨t,rfl⟩:=rx;obtain⟨t',rfl⟩:=ry;exact rule i j t t' s _ _ hc ⟨.int (g i j),H,I.tok _,⟨_,rfl⟩,q⟩
theorem Zmw {f:Value->Value->Sem Value} {g:Int->Int->Int}
 (rule:∀(i j:Int)(t u:Tok)(s:Shared)(Q:Value->Shared->Prop)(E:Value->Shared->Prop),Q (.int (g i j) s.toks) { s with toks:=s.toks+1 }->wpAny 'e' X.A (f (.int i t) (.int j u)) Q E s) :
 OpR X f (rI0 λi j => .int (g i j)):=by
 intro pins s σ H x y v u Q I rx ry h;obtain⟨i,j,rfl,rfl,q⟩:=h;obtain⟨t,rfl⟩:=rx;obtain⟨t',rfl⟩:=ry;exact rule i j t t' s _ _ ⟨.int (g i j),H,I.tok _,⟨_,rfl⟩,q⟩
theorem Zmx {f:Value->Value->Sem Value} {g:Int->Int->Bool}
 (rule:∀(i j:Int)(t u:Tok)(s:Shared)(Q:Value->Shared->Prop)(E:Value->Shared->Prop),Q (.bool (g i j)) s->wpAny 'e' X.A (f (.int i t) (.int j u)) Q E s) :
 OpR X f (rI0 λi j => .bl (g i j)):=by
 intro pins s σ H x y v u Q I rx ry h;obtain⟨i,j,rfl,rfl,q⟩:=h;obtain⟨t,rfl⟩:=rx;obtain⟨t',rfl⟩:=ry;exact rule i j t t' s _ _ ⟨.bl (g i j),H,I,rfl,q⟩
def Zmy(i j:Int):Prop:=0<j/\j<1073741824
def Zmz(i j:Int):Prop:=0<=j/\j<=1000000/\i.natAbs<2 ^ 64
def CMul(i j:Int):Prop:=(-(2 ^ 64)<i/\i<2 ^ 64)\/(-(2 ^ 64)<j/\j<2 ^ 64)
theorem CMul.ok{i j:Int}(h:CMul i j):IntMulOk i j:=by
 rcases h with⟨h1,h2⟩|⟨h1,h2⟩
 . exact .of_left (intBits_le_64 h1 h2)
 . exact .of_right (intBits_le_64 h1 h2)
theorem op_add:OpR X (binaryOp .Add) (rI0 λi j => .int (i+j)):=Zmw λ_ _ _ _ _ _ _ q=>add_int q
theorem Zjg:OpR X (binaryOp .Sub) (rI0 λi j => .int (i-j)):=Zmw λ_ _ _ _ _ _ _ q=>sub_int q
theorem ZgO:OpR X (binaryOp .Mod) (rI (λ_ j=>j≠0) λi j => .int (i.fmod j)):=opI λ_ _ _ _ _ _ _ hc q=>mod_int' hc q
end
def XB:V->V->Bool
 | .non,.non=>true | .non,.int _=>true | .int _,.non=>true | .non,.bl _=>true | .bl _,.non=>true | .non,.str _=>true | .str _,.non=>true
 | .int _,.int _=>true | .bl _,.bl _=>true | .str _,.str _=>true | .byt _,.byt _=>true
 | .int _,.str _=>true | .str _,.int _=>true | .bl _,.str _=>true | .str _,.bl _=>true
 |_,_=>false
def rEq:R2:=λx y H Q=>XB x y=true/\Q (.bl (decide (x=y))) H
def rNe:R2:=λx y H Q=>XB x y=true/\Q (.bl (!decide (x=y))) H
theorem ZcD{i j:Int}:decide (V.int i=V.int j)=(i == j):=by
 rw [yK];simp
theorem ZfM{i j:Bool}:decide (V.bl i=V.bl j)=(i == j):=by
 rw [yK];simp
theorem ZcE{i j:Str}:decide (V.str i=V.str j)=(i == j):=by
 rw [yK];simp
theorem ZcF{i j:Array UInt8}:decide (V.byt i=V.byt j)=(i.toList == j.toList):=by
 rw [yK];cases i;cases j;simp
section
variable{X:Cx}{a b c:Expr}{ta tb tc:TE}{pos:Pos}
theorem ZC{Q:VK}{k k':Bool}(I:Inv X pins σ H s)(q:Q (.bl k) H)(e:k=k'):EP X pins σ Q (.bool k') s:=by
 subst e;exact⟨.bl k,H,I,rfl,q⟩
theorem Zim:OpR X (compareOp .Eq) rEq:=by
 intro pins s σ H x y v u Q I rx ry h;obtain⟨hs,q⟩:=h;cases x with
 |non=>
  cases rx;cases y with
  |non=>cases ry;exact PySem.EqNone.eq_none_none (ZC I q 'c')
  |bl j=>cases ry;exact PySem.EqNone.eq_none_bool (ZC I q 'c')
  |int j=>obtain⟨t',rfl⟩:=ry;exact PySem.EqNone.eq_none_int (ZC I q 'c')
  |str j=>obtain⟨t',rfl⟩:=ry;exact PySem.EqNone.eq_none_str (ZC I q 'c')
  |_=>exact absurd (show false=true from hs) jy
 |bl i=>
  cases rx;cases y with
  |non=>cases ry;exact PySem.EqNone.eq_bool_none (ZC I q 'c')
  |bl j=>cases ry;exact eq_bool (ZC I q ZfM)
  |str j=>obtain⟨t',rfl⟩:=ry;exact PySem.EqMixed.eq_bool_str (ZC I q 'c')
  |_=>exact absurd (show false=true from hs) jy
 |int i=>
  obtain⟨t,rfl⟩:=rx;cases y with
  |non=>cases ry;exact PySem.EqNone.eq_int_none (ZC I q 'c')
  |int j=>obtain⟨t',rfl⟩:=ry;exact eq_int (ZC I q ZcD)
  |str j=>obtain⟨t',rfl⟩:=ry;exact PySem.EqMixed.eq_int_str (ZC I q 'c')
  |_=>exact absurd (show false=true from hs) jy
 |str i=>
  obtain⟨t,rfl⟩:=rx;cases y with
  |non=>cases ry;exact PySem.EqNone.eq_str_none (ZC I q 'c')
  |bl j=>cases ry;exact PySem.EqMixed.eq_str_bool (ZC I q 'c')
  |int j=>obtain⟨t',rfl⟩:=ry;exact PySem.EqMixed.eq_str_int (ZC I q 'c')
  |str j=>obtain⟨t',rfl⟩:=ry;exact eq_str (ZC I q ZcE)
  |_=>exact absurd (show false=true from hs) jy
 |byt i=>
  obtain⟨t,rfl⟩:=rx;cases y with
  |byt j=>obtain⟨t',rfl⟩:=ry;exact PySem.W.eq_bytes (ZC I q ZcF)
  |_=>exact absurd (show false=true from hs) jy
 |_=>cases y<;>exact absurd (show false=true from hs) jy
theorem ZkJ:OpR X (compareOp .NotEq) rNe:=by
 intro pins s σ H x y v u Q I rx ry h;obtain⟨hs,q⟩:=h;cases x with
 |non=>
  cases rx;cases y with
  |non=>cases ry;exact PySem.EqNone.ne_none_none (ZC I q 'c')
  |bl j=>cases ry;exact PySem.EqNone.ne_none_bool (ZC I q 'c')
  |int j=>obtain⟨t',rfl⟩:=ry;exact PySem.EqNone.ne_none_int (ZC I q 'c')
  |str j=>obtain⟨t',rfl⟩:=ry;exact PySem.EqNone.ne_none_str (ZC I q 'c')
  |_=>exact absurd (show false=true from hs) jy
 |bl i=>
  cases rx;cases y with
  |non=>cases ry;exact PySem.EqNone.ne_bool_none (ZC I q 'c')
  |bl j=>cases ry;exact ne_bool (ZC I q (congrArg not ZfM))
  |str j=>obtain⟨t',rfl⟩:=ry;exact PySem.EqMixed.ne_bool_str (ZC I q 'c')
  |_=>exact absurd (show false=true from hs) jy
 |int i=>
  obtain⟨t,rfl⟩:=rx;cases y with
  |non=>cases ry;exact PySem.EqNone.ne_int_none (ZC I q 'c')
  |int j=>obtain⟨t',rfl⟩:=ry;exact ne_int (ZC I q (congrArg not ZcD))
  |str j=>obtain⟨t',rfl⟩:=ry;exact PySem.EqMixed.ne_int_str (ZC I q 'c')
  |_=>exact absurd (show false=true from hs) jy
 |str i=>
  obtain⟨t,rfl⟩:=rx;cases y with
  |non=>cases ry;exact PySem.EqNone.ne_str_none (ZC I q 'c')
  |bl j=>cases ry;exact PySem.EqMixed.ne_str_bool (ZC I q 'c')
  |int j=>obtain⟨t',rfl⟩:=ry;exact PySem.EqMixed.ne_str_int (ZC I q 'c')
  |str j=>obtain⟨t',rfl⟩:=ry;exact ne_str (ZC I q (congrArg not ZcE))
  |_=>exact absurd (show false=true from hs) jy
 |byt i=>
  obtain⟨t,rfl⟩:=rx;cases y with
  |byt j=>obtain⟨t',rfl⟩:=ry;exact PySem.W.ne_bytes (ZC I q (congrArg not ZcF))
  |_=>exact absurd (show false=true from hs) jy
 |_=>cases y<;>exact absurd (show false=true from hs) jy
theorem ZkK:OpR X (compareOp .Lt) (rI0 λi j => .bl (decide (i<j))):=Zmx λ_ _ _ _ _ _ _ q=>lt_int q
theorem ZkL:OpR X (compareOp .Gt) (rI0 λi j => .bl (decide (j<i))):=Zmx λ_ _ _ _ _ _ _ q=>gt_int q
theorem ZdG:OpR X (compareOp .In) (λx y H Q=>∃i j,x = .str i/\y = .str j/\Q (.bl (!(Builtin.Str.occurrences j i 0 j.length 1).isEmpty)) H):=by
 intro pins s σ H x y v u Q I rx ry h;obtain⟨i,j,rfl,rfl,q⟩:=h;obtain⟨t,rfl⟩:=rx;obtain⟨t',rfl⟩:=ry;exact in_str (ZC I q rfl)
theorem OpR.or{f:Value->Value->Sem Value}{r r':R2}(h:OpR X f r)(h':OpR X f r'):OpR X f (λx y H Q=>r x y H Q\/r' x y H Q):=by
 intro pins s σ H x y v u Q I rx ry q;rcases q with q|q
 . exact h pins s σ H x y v u Q I rx ry q
 . exact h' pins s σ H x y v u Q I rx ry q
theorem X2(b:Expr){op:CmpOp}(h:op ≠ .In:=by decide)(h2:op ≠ .NotIn:=by decide):behindInMarks op b=false:=by
 have e1:(op == CmpOp.In)=false:=by cases op<;>first|rfl|exact absurd rfl h
 have e2:(op == CmpOp.NotIn)=false:=by cases op<;>first|rfl|exact absurd rfl h2
 cases b<;>simp [behindInMarks,e1,e2]
theorem ZgP{op:CmpOp}{r:R2}(ho:OpR X (compareOp op) r)(ha:PE X a ta)(hb:PE X b tb)(hm:behindInMarks op b=false):PE X (.Compare a [op] [b] pos) (tOp r ta tb):=by
 intro pins s σ H Q I h;exact wpAny_Compare1 (QI ha hb I h λv u s2 x y H2 I2 rx ry q=>ho pins s2 σ H2 x y v u Q I2 rx ry q) hm
def XC(t:TE):TT:=λσ H Q=>t σ H λx H'=>∃k,x = .bl k/\Q k H'
theorem X3{op:CmpOp}{r:R2}(ho:OpR X (compareOp op) r)(ha:PE X a ta)(hb:PE X b tb)(hm:behindInMarks op b=false):PT X (.Compare a [op] [b] pos) (XC (tOp r ta tb)):=by
 intro pins s σ H Q I h
 refine wpAny_isTrue_Compare1 (thn (ha pins s σ H _ I h) λv s1 ⟨x,H1,I1,r1,q1⟩=>thn (hb pins s1 σ H1 _ I1 q1) λu s2 ⟨y,H2,I2,r2,q2⟩=>
  thn (ho pins s2 σ H2 x y v u _ I2 r1 r2 q2) λc s3 ⟨z,H3,I3,r3,k,e,q3⟩ => ?_) hm
 subst e;cases r3;exact yW ⟨H3,I3,q3⟩
theorem X4:(sizeLine:Nat)<2 ^ 63:=by rw [j7];decide
theorem Zcc:OpR X (binaryOp .Add) (λx y H Q=>∃i j,x = .str i/\y = .str j/\i.length+j.length<=sizeLine/\Q (.str (i++j)) H):=by
 intro pins s σ H x y v u Q I rx ry h;obtain⟨i,j,rfl,rfl,hz,q⟩:=h;obtain⟨t,rfl⟩:=rx;obtain⟨t',rfl⟩:=ry;exact add_str (λt' tk=>⟨.str (i++j),H,I.tok _,⟨_,rfl⟩,q⟩) hz
theorem YF{x:V}{us:List Value}(r:Vals [x] us):∃u,us=[u]/\RelV x u:=by
 cases r with
 |cons r1 r2=>cases r2;exact⟨_,rfl,r1⟩
theorem Ul{x y:V}{us:List Value}(r:Vals [x,y] us):∃u w',us=[u,w']/\RelV x u/\RelV y w':=by
 cases r with
 |cons r1 r2=>
  cases r2 with
  |cons r3 r4=>cases r4;exact⟨_,_,rfl,r1,r3⟩
theorem ZdH(hc:X.calm=true):CallR X (.builtin "max") (λxs H Q=>∃i j,xs=[.int i,.int j]/\Q (.int (if j>i then j else i)) H):=by
 intro pins s σ H xs us Q I r h;obtain⟨i,j,rfl,q⟩:=h;obtain⟨u,w',rfl,⟨t,rfl⟩,⟨t',rfl⟩⟩:=Ul r;refine max_two_ints (I.ok.hd hc) λh' tk k=>⟨_,H,I.kept k,?_,q⟩
 by_cases hj:j>i
 . rw [je hj,je hj];exact⟨_,rfl⟩
 . rw [jg hj,jg hj];exact⟨_,rfl⟩
theorem ZdI(hc:X.calm=true):CallR X (.builtin "min") (λxs H Q=>∃i j,xs=[.int i,.int j]/\Q (.int (if j<i then j else i)) H):=by
 intro pins s σ H xs us Q I r h;obtain⟨i,j,rfl,q⟩:=h;obtain⟨u,w',rfl,⟨t,rfl⟩,⟨t',rfl⟩⟩:=Ul r;refine min_two_ints (I.ok.hd hc) λh' tk k=>⟨_,H,I.kept k,?_,q⟩
 by_cases hj:j<i
 . rw [je hj,je hj];exact⟨_,rfl⟩
 . rw [jg hj,jg hj];exact⟨_,rfl⟩
end
structure ObjM(h:Heap)(x dx C:Addr)(mA:Str->Option Value):Prop where
 obj:h.get? x=some (instObj C dx)
 ns:h.Ns1 dx mA
 ne:dx≠x
theorem ZdJ{h:Heap}{mA:Str->Option Value}(n:h.Ns1 dx mA):∃od,h.get? dx=some od/\∀name,PySem.W.lookIn name od=some (mA name):=by
 obtain⟨o,es,ep,ho,hd,hk,_,hm⟩:=n;refine⟨o,ho,λname => ?_⟩;have e:=hm name;unfold nsFind findBy at e;rw [<-Array.find?_toList]at e;unfold PySem.W.lookIn;rw [hd];dsimp only
 split
 . rename_i y q
   rw [q]at e;exact congrArg some e
 . rename_i q
   rw [q]at e
   have a:es.toList.any (·.refKey)=false:=by
    rw [List.any_eq_false];intro y hy;obtain⟨z,t,hkey⟩:=hk y (Array.mem_toList_iff.mp hy);simp [DictEntry.refKey,hkey]
   have a':¬es.toList.any (·.refKey)=true:=by rw [a];exact jy
   rw [jg a'];exact congrArg some e
theorem ObjM.look{h:Heap}{x dx C:Addr}{mA:Str->Option Value}(I:ObjM h x dx C mA):∃od,PySem.W.InstAt h x (instObj C dx) C (some od)/\∀name,PySem.W.lookIn name od=some (mA name):=
 let⟨od,ho,hl⟩:=ZdJ I.ns
 ⟨od,⟨I.obj,rfl,rfl,ho⟩,hl⟩
theorem RelO.some_of{v:V}{o:Option Value}(r:RelO (some v) o):∃u,o=some u/\RelV v u:=by
 cases o with
 |none=>exact(show False from r).elim
 |some u=>exact⟨u,rfl,r⟩
section
variable{P:Program}{w:World}{H H':Hp}{h h':Heap}{a C dx:Addr}{fs fs':List (Str×V)}
theorem ins_get(hok:HOk P w H h)(e:H a=some (.ins C dx fs)):∃mA,ObjM h a dx C mA/\(∀f,RelO (fs.lookup f) (mA f))/\PySem.Within mA (fs.map (·.1))/\fs.length<=1000/\H dx=some (.own a):=by
 obtain⟨d,z,ne,ob,mA,n,r,q⟩:=(show ObjOk P w H h a (.ins C dx fs)from hok a _ e)
 exact⟨mA,⟨ob,n,ne⟩,r,q,z,d⟩
end
structure Cls(K:Frag)(C:Addr):Prop where
 pg:PySem.W.plainGet K C Str.empty=true
 hd:PySem.W.hasDictIn K C=true
 po:PySem.W.plainOver K C=true
 sa:findIn K (.ref C) "__setattr__" = some (some (.builtin "object.__setattr__"))
theorem Cls.get{K:Frag}{C:Addr}(c:Cls K C)(f:Str):PySem.W.plainGet K C f=true:=c.pg
section
variable{X:Cx}{pins:List 'g'}{σ:St}{H:Hp}{s:Shared}{A:Around}{E:Value->Shared->Prop}{Q:Value->Shared->Prop}{c:Value}{b:Bool}
inductive TyOf(K:Frag)(H:Hp):V->Value->Prop where
 |non:TyOf K H .non (.type "NoneType")
 |bl (x:Bool):TyOf K H (.bl x) (.type "bool")
 |int (i:Int):TyOf K H (.int i) (.type "int")
 |str (x:Str):TyOf K H (.str x) (.type "str")
 |flt (x:UInt64):TyOf K H (.flt x) (.type "float")
 |lst {a:Addr} {xs:List V} (e:H a=some (.lst xs)):TyOf K H (.ref a) (.type "list")
 |frz {a:Addr} {o:Obj} {xs:List V} (e:H a=some (.frz o (.lst xs))):TyOf K H (.ref a) (.type "list")
 |tup {a:Addr} {xs:List V} (e:H a=some (.tup xs)):TyOf K H (.ref a) (.type "tuple")
 |dK {a:Addr} {kvs:List (Key×V)} (e:H a=some (.dK kvs)):TyOf K H (.ref a) (.type "dict")
 |dT {a:Addr} {kvs:List (List Key×V)} (e:H a=some 'k'):TyOf K H (.ref a) (.type "dict")
 |ins {a C dx:Addr} {fs:List (Str×V)} (e:H a=some (.ins C dx fs)) (cl:Cls K C) (ha:findIn K (.ref C) "__class__" = some (some (.builtin "object.__class__")))
  (hn:PySem.W.specialIn K (.builtin "object.__class__") "__get__" = some (some (.builtin "getset_descriptor.__get__"))) (htk:PySem.W.takesIn K (.builtin "object.__class__")=some true)
  (hm:mroIn K C (.type "object")=some true):TyOf K H (.ref a) (.ref C)
theorem ZdK{u t:Value}(I:Inv X pins σ H s)(rx:RelV x u)(ty:TyOf X.K H x t)(e:kitOne X.K t c=some b)(h:∀tk,Q (.bool b) { s with toks:=tk }) :
 wpAny 'e' A (call (.builtin "isinstance") [u,c]) Q E s:=by
 cases ty with
 |non=>cases(show u=Value.none from rx);exact qu PySem.W.kitx_none I.kIn True.intro e (λz=>nomatch z) h
 |bl y=>cases(show u=Value.bool y from rx);exact qu PySem.W.kitx_bool I.kIn True.intro e (λz=>nomatch z) h
 |int i=>obtain⟨t,q⟩:=(show ∃t,u=Value.int i t from rx);cases q;exact qu PySem.W.kitx_int I.kIn True.intro e (λz=>nomatch z) h
 |str y=>obtain⟨t,q⟩:=(show ∃t,u=Value.str y t from rx);cases q;exact qu PySem.W.kitx_str I.kIn True.intro e (λz=>nomatch z) h
 |flt y=>obtain⟨t,q⟩:=(show ∃t,u=Value.float y t from rx);cases q;exact qu PySem.W.kitx_float I.kIn True.intro e (λz=>nomatch z) h
 | @lst a xs ea=>
  cases(show u=Value.ref a from rx);obtain⟨_,_,n,_,h1⟩:=(show ObjOk X.prog X.w H s.heap a (.lst xs)from I.hok a _ ea)
  exact qu PySem.W.kitx_list I.kIn ⟨_,h1,rfl⟩ e (λz=>nomatch z) h
 | @frz a ob xs ea=>
  cases(show u=Value.ref a from rx);obtain⟨_,_,_,n,_,h1⟩:=(show ObjOk X.prog X.w H s.heap a (.frz ob (.lst xs))from I.hok a _ ea)
  exact qu PySem.W.kitx_list I.kIn ⟨_,h1,rfl⟩ e (λz=>nomatch z) h
 | @tup a xs ea=>
  cases(show u=Value.ref a from rx);obtain⟨_,_,_,p⟩:=(show ObjOk X.prog X.w H s.heap a (.tup xs)from I.hok a _ ea)
  obtain⟨o,h1,h2,_⟩:=p;exact qu PySem.W.kitx_tuple I.kIn ⟨o,h1,h2⟩ e (λz=>nomatch z) h
 | @dK a kvs ea=>
  cases(show u=Value.ref a from rx);obtain⟨_,_,vs,_,p⟩:=(show ObjOk X.prog X.w H s.heap a (.dK kvs)from I.hok a _ ea)
  obtain⟨o,es,ep,h1,h2,_⟩:=p;exact qu PySem.W.kitx_dict I.kIn ⟨o,h1,h2.1⟩ e (λz=>nomatch z) h
 | @dT a kvs ea=>
  cases(show u=Value.ref a from rx);obtain⟨_,_,xs,_,o,es,ep,h1,h2,_⟩:=(show ObjOk X.prog X.w H s.heap a (.dT kvs)from I.hok a _ ea)
  exact qu PySem.W.kitx_dict I.kIn ⟨o,h1,h2.1⟩ e (λz=>nomatch z) h
 | @ins a C dx fs ea cl ha hn htk hm=>
  cases(show u=Value.ref a from rx);obtain⟨mA,O,_⟩:=ins_get I.hok ea;obtain⟨od,J,_⟩:=O.look;exact qu (PySem.W.kitx_own (cl.get _) cl.hd ha hn htk hm) I.kIn J e (λz=>nomatch z) h
end
structure Room(k:Nat)(A:Around):Prop where
 hd:A.handled=none
 dp:A.depth+3*k+5<recursionLimit
 un:A.units+16*k+200<cLine
theorem Room.mono{j k:Nat}{A:Around}(r:Room k A)(h:j<=k):Room j A:=⟨r.hd,by have:=r.dp;omega,by have:=r.un;omega⟩
theorem Room.deeper{k:Nat}{A:Around}(r:Room (k+1) A)(env:Env):Room k (A.deeper env):=
 ⟨r.hd,by have:=r.dp;show A.depth+1+3*k+5<_;omega,by have:=r.un;show A.units+3+16*k+200<_;omega⟩
theorem Room.depth{k:Nat}{A:Around}(r:Room k A):A.depth<recursionLimit:=by have:=r.dp;omega
theorem Room.units{k:Nat}{A:Around}(r:Room k A):A.units+64<cLine:=by have:=r.un;omega
def tNil:TA:=λ_ H Q=>Q [] H
def Zy(ta:TE)(tr:TA):TA:=λσ H Q=>ta σ H λx H1=>tr σ H1 λxs H2=>Q (x::xs) H2
section
variable{X:Cx}{e:Expr}{es:List Expr}{te:TE}{t:TA}{pos:Pos}
theorem X5:PA X [] tNil:=λ_ _ _ _ H Q I h=>ua ⟨[],H,I,.nil,h⟩
theorem Xc(ha:PE X e te)(hr:PA X es t)(hs:starEach (e::es) X.env=(false,eval e X.env)::starEach es X.env:=by rfl):PA X (e::es) (Zy te t):=by
 intro pos pins s σ H Q I h;rw [hs];show wpAny _ _ (spliced ((false,eval e X.env)::backTo pos (starEach es X.env))) _ _ s;refine qQ (thn (ha pins s σ H _ I h) λu s1 ⟨x,H1,I1,r1,q1⟩ => ?_);exact thn (hr pos pins s1 σ H1 _ I1 q1) λus s2 ⟨xs,H2,I2,r2,q2⟩=>⟨x::xs,H2,I2,.cons r1 r2,q2⟩
def Vz(t:TA):TE:=λσ H Q=>t σ H λxs H1=>xs.length<=sizeLine/\∀p,H1 p=none->Q (.ref p) (upd H1 p (.tup xs))
def Xr(t:TA):TE:=λσ H Q=>t σ H λxs H1=>xs.length<=sizeLine/\∀p,H1 p=none->Q (.ref p) (upd H1 p (.lst xs))
theorem Zjh{x1}(h:PA X es t):PE X (.Tuple es x1 pos) (Vz t):=by
 intro pins s σ H Q I hq;refine wpAny_Tuple_spliced (thn (h pos pins s σ H _ I hq) λus s1 ⟨xs,H1,I1,r,z,q⟩=>⟨by rw [<-r.length];exact z,?_⟩);have hf:H1 s1.heap.objs.size=none:=I1.hok.fresh (jk _);refine⟨.ref s1.heap.objs.size,upd H1 s1.heap.objs.size (.tup xs),I1.laid (t':=s1.toks) (λb u e=>jh _ e) (jk _) ?_,rfl,q _ hf⟩;exact⟨z,us,r,⟨_,jr _ rfl,rfl,⟨_,rfl⟩,rfl⟩⟩
theorem Zji(h:PA X es t):PE X (.List es pos) (Xr t):=by
 intro pins s σ H Q I hq;refine wpAny_List_spliced (thn (h pos pins s σ H _ I hq) λus s1 ⟨xs,H1,I1,r,z,q⟩=>⟨by rw [<-r.length];exact z,?_⟩);have hf:H1 s1.heap.objs.size=none:=I1.hok.fresh (jk _);refine⟨.ref s1.heap.objs.size,upd H1 s1.heap.objs.size (.lst xs),I1.laid (t':=s1.toks) (λb u e=>jh _ e) (jk _) ?_,rfl,q _ hf⟩;exact⟨z,us,0,r,jr _ rfl⟩
end
abbrev Sp:=List V->Hp->VK->XK->Prop
abbrev CXT:=List Env->Hp->Shared->XK->Value->Shared->Prop
structure Env0(P:Program)(w:World)(K:Frag)(mg:Str->Option Value)(base:Heap)(A:Around)(outer:List Env)(s:Shared)(H:Hp):Prop where
 frames:A.frames=some outer
 mod:Mod K mg base
 bs:∀b o,base.get? b=some o->s.heap.get? b=some o/\H b=none
 bsz:base.objs.size<=s.heap.objs.size
 funs:s.heap.FunFrames base outer
 frf:∀b∈frs outer,H b=none
 hok:HOk P w H s.heap
 bare:AllBare s.gens
 tb:QC K H
def CE(outer:List Env)(P:Program)(w:World)(H:Hp)(s:Shared)(Q:VK)(u:Value)(s':Shared):Prop:=
 ∃v H',s'.os=s.os/\AllBare s'.gens/\Un (frs outer) [] H H' s.heap s'.heap/\HOk P w H' s'.heap/\RelV v u/\Q v H'
def CR(CX:CXT)(outer:List Env)(P:Program)(w:World)(H:Hp)(s:Shared)(Q:VK)(E:XK)(r:Result)(s':Shared):Prop:=
 match r with
 | .ok (.ret u)=>CE outer P w H s Q u s'
 | .ok _=>False
 | .error e=>CX outer H s E e s'
structure FnOk(P:Program)(w:World)(K:Frag)(mg:Str->Option Value)(base:Heap)(CX:CXT)(k:Nat)(f:Addr)(fd:FuncData)(ps:List Str)(sp:Sp):Prop where
 len:∀vs H Q E,sp vs H Q E->vs.length=ps.length
 run:∀(A:Around)(outer:List Env)(s:Shared)(H:Hp)(args:Args)(us:List Value)(vs:List V)(Q:VK)(E:XK),Room k A->Env0 P w K mg base A outer s H->BindsTo s fd args (ps.zip us)->Vals vs us->sp vs H Q E ->
  codeAny (model P w) A (.call (.ref f) args) (CR CX outer P w H s Q E) s
theorem FnOk.mono{P:Program}{w:World}{K:Frag}{mg:Str->Option Value}{base:Heap}{CX:CXT}{j k:Nat}{f:Addr}{fd:FuncData}{ps:List Str}{sp:Sp}(F:FnOk P w K mg base CX j f fd ps sp)(h:j<=k) :
 FnOk P w K mg base CX k f fd ps sp:=⟨F.len,λA outer s H args us vs Q E hr=>F.run A outer s H args us vs Q E (hr.mono h)⟩
theorem FnOk.imp {P:Program} {w:World} {K:Frag} {mg:Str->Option Value} {base:Heap} {CX:CXT} {k:Nat} {f:Addr} {fd:FuncData} {ps:List Str} {sp sp':Sp} (F:FnOk P w K mg base CX k f fd ps sp)
 (h:∀vs H Q E,sp' vs H Q E->sp vs H Q E):FnOk P w K mg base CX k f fd ps sp':=
 ⟨λvs H Q E q=>F.len vs H Q E (h _ _ _ _ q),λA outer s H args us vs Q E hr he hb hv hs=>F.run A outer s H args us vs Q E hr he hb hv (h _ _ _ _ hs)⟩
section
variable{X:Cx}{pins:List 'g'}{σ:St}{H:Hp}{s s':Shared}
theorem Inv.tabs(I:Inv X pins σ H s):QC X.K H:=λq hq=>by
 obtain⟨m1,e1⟩:=I.ok.tb q hq;obtain⟨m2,e2⟩:=I.base.tbls _ _ e1;exact⟨m1++m2,by rw [e2,Array.append_assoc]⟩
theorem Inv.env0(I:Inv X pins σ H s):Env0 X.prog X.w X.K X.mg X.base X.A X.stack s H:=
 ⟨I.ok.frames,I.ok.mod,I.bs,jL I.ok.bsz I.sz,I.stack,I.stkFree,I.hok,I.bare,I.tabs⟩
theorem Inv.after{Q:VK}{u:Value}(I:Inv X pins σ H s)(h:CE X.stack X.prog X.w H s Q u s'):EP X pins σ Q u s':=by
 obtain⟨v,H',os,bare,un,hok,r,q⟩:=h;obtain⟨hh,g,d,t,os'⟩:=s';obtain rfl:os'=s.os:=os;exact⟨v,H',I.call (h':=hh) (g':=g) (d':=d) (t':=t) (ch:=[]) un hok bare (λb z=>absurd z 'c'),r,q⟩
end
def Um(sp:Sp)(dvs:List V)(E:XK)(t:TA):TE:=λσ H Q=>t σ H λvs H1=>sp (vs++dvs) H1 Q E
def Binds(K:Frag)(fd:FuncData)(ps:List Str)(ds:List Value):Prop:=
 ∀(s:Shared)(us:List Value),K.In s.heap->(us++ds).length=ps.length->BindsTo s fd ⟨us,[]⟩ (ps.zip (us++ds))
theorem Binds.all{K:Frag}{fd:FuncData}{ps:List Str}(h:∀us:List Value,us.length=ps.length->bindArgs fd ⟨us,[]⟩=pure (ps.zip us)):Binds K fd ps []:=λs us _ hl=>by
 rw [qj]at hl ⊢;exact .of_eq (h us hl)
def QJ(CX:CXT)(X:Cx)(E:XK):Prop:=∀(pins:List 'g')(σ:St)(H:Hp)(s:Shared)(e:Value)(s':Shared),Inv X pins σ H s->CX X.stack H s E e s'->X.xe e s'
section
variable{X:Cx}{CX:CXT}{k:Nat}{f C:Addr}{fd:FuncData}{ps:List Str}{sp:Sp}{dvs:List V}{ds:List Value}{E:XK}{x m:Str}{p pos apos:Pos}{e o:Expr}{es:List Expr}{ta:TE}{t:TA}
theorem ZfN {vs:List V} (F:FnOk X.prog X.w X.K X.mg X.base CX k f fd ps sp) (hr:Room k X.A) (hb:Binds X.K fd ps ds) (hd:Vals dvs ds) (hx:QJ CX X E)
 (I:Inv X pins σ H s) (r:Vals vs us) (h:sp (vs++dvs) H Q E):wpAny 'e' X.A (call (.ref f) us) (EP X pins σ Q) X.xe s:=by
 have r2:Vals (vs++dvs) (us++ds):=r.append hd;have hl:(us++ds).length=ps.length:=by rw [<-r2.length];exact F.len _ _ _ _ h
 refine wpAny_call (codeAny_mono (F.run X.A X.stack s H ⟨us,[]⟩ (us++ds) (vs++dvs) Q E hr I.env0 (hb s us I.kIn hl) r2 h) λr s' hq => ?_);cases r with
 |error e=>exact hx pins σ H s e s' I hq
 |ok fl=>
  cases fl with
  |ret u=>exact I.after hq
  |next=>exact False.elim hq
  |brk=>exact False.elim hq
  |cont=>exact False.elim hq
theorem Z8 (F:FnOk X.prog X.w X.K X.mg X.base CX k f fd ps sp) (hr:Room k X.A) (hg:Gl X x) (hm:X.mg x=some (.ref f)) (hk:keepIn X.K (.ref f)=true) (hb:Binds X.K fd ps ds) (hd:Vals dvs ds) (hx:QJ CX X E)
 (ha:PA X (e::es) t) (hdb:(x == ("__debug__" : Str))=false:=by decide) (he:starEach (e::es) X.env=(false,eval e X.env)::starEach es X.env:=by rfl) (hpl:(backTo pos (starEach es X.env)).any (·.1)=false:=by rfl) :
 PE X (.Call (.Name x p) (e::es) [] pos) (Um sp dvs E t):=by
 intro pins s σ H Q I h;refine yv (J9 I hg hm ?_ hdb);refine PySem.W.callWith_K (h₀:=X.base) I.ok.mod.kin hk (thn (ha pos pins s σ H _ I h) λus s1 ⟨vs,H1,I1,r,q⟩=>⟨I1.kIn,?_⟩) he hpl;exact ZfN F hr hb hd hx I1 r q
end
structure FnScope(N P:List Str)(sc:Scope):Prop where
 kind:sc.kind = .function
 co:sc.isCoroutine=false
 gen:sc.isGenerator=false
 nd:N.Nodup
 pre:N.take P.length=P
 par:∀x∈P,sc.names.lookup x=some .local\/sc.names.lookup x=some .cell
 nofree:∀y∈sc.names,y.2 ≠ .free
theorem ZaO{kindOf:Str->Option NameKind}{x:Str}:∀{binds:List (Str×Value)}{m:Str->Option Value},(∀v,(x,v)∉binds)->bindL kindOf binds m x=m x
 | [],_,_=>rfl
 |(n,v)::r,m,h=>by
  unfold bindL;rw [ZaO λw hw=>h w (jq _ hw)]
  split
  . have:x≠n:=by rintro rfl;exact h v jj
    simp [this]
  . rfl
theorem ZaP{kindOf:Str->Option NameKind}{x:Str}:∀{binds:List (Str×Value)}{m:Str->Option Value},(∀v,(x,v)∉binds)->bindC kindOf binds m x=m x
 | [],_,_=>rfl
 |(n,v)::r,m,h=>by
  unfold bindC;rw [ZaP λw hw=>h w (jq _ hw)]
  split
  . rfl
  . have:x≠n:=by rintro rfl;exact h v jj
    simp [this]
theorem ZaQ{kindOf:Str->Option NameKind}{x:Str}{v:Value}:∀{P:List Str}{vs:List Value}{i:Nat}{m:Str->Option Value},P.Nodup->P[i]? = some x->vs[i]? = some v->kindOf x=some .local ->
 bindL kindOf (P.zip vs) m x=some v
 | [],_,_,_,_,h,_,_=>by simp at h
 |_::_,[],_,_,_,_,h,_=>by simp at h
 |p::P,w::vs,0,m,nd,h1,h2,hk=>by
  simp at h1 h2;subst h1;subst h2;show bindL kindOf ((p,w)::P.zip vs) m p=_;unfold bindL;rw [ZaO λv hv=>(j8.mp nd).1 (ud hv).1,je hk];simp
 |p::P,w::vs,i+1,m,nd,h1,h2,hk=>by
  show bindL kindOf ((p,w)::P.zip vs) m x=_;unfold bindL;exact ZaQ (i:=i) (j8.mp nd).2 (by simpa using h1) (by simpa using h2) hk
theorem ZaR{kindOf:Str->Option NameKind}{x:Str}{v:Value}:∀{P:List Str}{vs:List Value}{i:Nat}{m:Str->Option Value},P.Nodup->P[i]? = some x->vs[i]? = some v->kindOf x≠some .local ->
 bindC kindOf (P.zip vs) m x=some v
 | [],_,_,_,_,h,_,_=>by simp at h
 |_::_,[],_,_,_,_,h,_=>by simp at h
 |p::P,w::vs,0,m,nd,h1,h2,hk=>by
  simp at h1 h2;subst h1;subst h2;show bindC kindOf ((p,w)::P.zip vs) m p=_;unfold bindC;rw [ZaP λv hv=>(j8.mp nd).1 (ud hv).1,jg hk];simp
 |p::P,w::vs,i+1,m,nd,h1,h2,hk=>by
  show bindC kindOf ((p,w)::P.zip vs) m x=_;unfold bindC;exact ZaR (i:=i) (j8.mp nd).2 (by simpa using h1) (by simpa using h2) hk
def start(N:List Str)(vs:List V):St:=vs.map some++List.replicate (N.length-vs.length) none
def Yd(CX:CXT)(P:Program)(w:World)(K:Frag)(mg:Str->Option Value)(base:Heap)(N:List Str)(qual:Str)(scope:Scope)(f:Addr)(cd:Value)(A:Around)(outer:List Env)(s:Shared)(H:Hp)(E:XK):Cx where
 prog:=P
 w:=w
 K:=K
 mg:=mg
 base:=base
 A:=A.deeper (envOfC qual scope s.heap.objs.size f cd)
 N:=N
 s₀:=s
 H₀:=H
 env:=envOfC qual scope s.heap.objs.size f cd
 outer:=outer
 stack:=envOfC qual scope s.heap.objs.size f cd::outer
 ex:=[]
 calm:=true
 fn:=λ_=>true
 pn:=[]
 xe:=λe s'=>wpAny (model P w) (A.deeper (envOfC qual scope s.heap.objs.size f cd)) (leaving (envOfC qual scope s.heap.objs.size f cd) e) (λ_ s''=>CX outer H s E e s'') (λe' s''=>CX outer H s E e' s'') s'
theorem ZbD{sc:Scope}{n:Nat}(h:sc.names.lookup x=some .cell):∃c,(cellsFrom n sc.names []).lookup x=some c:=by
 have q:=uC sc.names n [] (.inl h);exact Option.isSome_iff_exists.mp q
theorem ZaS {K:Frag} {N ps:List Str} {scope:Scope} {A:Around} {outer:List Env} {s s1:Shared} {vs:List V}
 (S:FnScope N ps scope) (hd:A.handled=none) (e0:Env0 P w K mg base A outer s H) (hl:vs.length=ps.length) (r:Vals vs us)
 (x:InCallC s s.heap.objs.size (bindL (envOfC qual scope s.heap.objs.size f cd).kindOf (ps.zip us) λ_=>none) (cellsFrom (s.heap.objs.size+1) scope.names []) (bindC (envOfC qual scope s.heap.objs.size f cd).kindOf (ps.zip us) λ_=>none) s1) :
 Inv (Yd CX P w K mg base N qual scope f cd A outer s H E) [] (start N vs) H s1:=by
 have hpl:ps.length<=N.length:=by have:=congrArg List.length S.pre;rw [jY]at this;omega
 obtain⟨h1,tk,rfl,hk⟩:=x.done;have noA:∀b:Addr,b∉(Yd CX P w K mg base N qual scope f cd A outer s H E).ex:=λb z=>absurd (show b∈([]:List Addr)from z) 'c'
 refine⟨⟨e0.mod,S.kind,rfl,rfl,jk _,λy z c h1 h2 => ?_,λy hy => ?_,λy c _ h => ?_,λ_=>hd,Around.frames_deeper e0.frames,.inr ⟨rfl,rfl⟩,λb z=>absurd z (noA b),e0.bs,e0.bsz,λb _ _=>noA b,λb z=>absurd z (noA b),e0.funs,e0.frf,e0.tb⟩,
  rfl,e0.bare,Un.kept hk,⟨_,x.toInCall.ns,λi y v h1 h2 h3 => ?_⟩,λy c h=>⟨_,x.cell y c h⟩,e0.hok.fresh (jk _),λy c h => ?_,λp hp=>absurd (show p∈([]:List 'g')from hp) 'c',e0.hok.kept hk,?_,λq hq=>absurd (show q∈([]:List (Addr×Obj×Str))from hq) 'c'⟩
 . exact name_of_addr x.apart (j6 h1) (j6 h2)
 . have hy:scope.names.lookup y=some .cell\/scope.names.lookup y=some .free:=hy
   rcases hy with hy|hy
   . exact ZbD hy
   . exact absurd rfl (S.nofree _ (j6 hy))
 . exact uk (x.above y c (j6 h))
 . have hi : i < vs.length := by
    unfold start at h2
    by_cases hi:i<vs.length
    . exact hi
    . rw [jG (by simpa using hi)]at h2
      rw [j5]at h2
      split at h2<;>cases h2
   have ha:vs[i]? = some v:=by
    unfold start at h2;rw [jD (by simpa using hi),ji]at h2;cases e:vs[i]? with
    |none=>rw [e]at h2;cases h2
    |some a=>rw [e]at h2;cases h2;rfl
   obtain⟨u,hu,rv⟩:=r.get ha
   have hp:ps[i]? = some y:=by
    rw [<-S.pre,uw 'a'];exact h1
   have ndP:ps.Nodup:=by rw [<-S.pre];exact S.nd.sublist (List.take_sublist _ _)
   refine⟨u,rv,?_⟩;rcases S.par y (jI hp)with k|k
   . exact .inl ⟨k,ZaQ ndP hp hu k⟩
   . obtain⟨c,e⟩:=ZbD (n:=s.heap.objs.size+1) k
     refine .inr ⟨.inl k,c,e,?_⟩;have q:=x.cell y c e;rw [ZaR ndP hp hu (by show scope.names.lookup y≠_;rw [k];decide)]at q;exact q
 . exact e0.hok.fresh (uk (x.above y c (j6 h)))
 . unfold start
   show _=N.length;rw [jc,ja,jH];omega
theorem Zin {K:Frag} {k:Nat} {params:Arguments} {scope:Scope} {dV kV doc pm cdv ct oc:Value} {an od:Option Addr}
 {osl:Array (Option Value)} {N ps:List Str} {sp:Sp} (lk:K.lookup f=some ⟨oc,od,.func (fnOf name qual params body scope dV kV doc pm an cdv ct),osl⟩) (hcd:codeIn K cdv qual=true) (S:FnScope N ps scope)
 (len:∀vs H Q E,sp vs H Q E->vs.length=ps.length)
 (hbody:∀(A:Around)(outer:List Env)(s:Shared)(H:Hp)(vs:List V)(Q:VK)(E:XK),Room k (A.deeper (envOfC qual scope s.heap.objs.size f cdv))->sp vs H Q E ->
   ∃t,PSs (Yd CX P w K mg base N qual scope f cdv A outer s H E) body t/\t { nx:=λ_ H'=>Q .non H',rt:=Q } (start N vs) H) :
 FnOk P w K mg base CX (k+1) f (fnOf name qual params body scope dV kV doc pm an cdv ct) ps sp:=by
 refine⟨len,λA outer s H args us vs Q E hr e0 hb r hsp => ?_⟩;have hl:=len _ _ _ _ hsp;have KX:K.In s.heap:=e0.mod.kin.keeps λb o e=>(e0.bs b o e).1
 have lim:s.heap.NoLimit:=e0.mod.nolimit.keeps λb o e=>(e0.bs b o e).1
 have hkind:∀y∈ps.zip us,scope.names.lookup y.1=some .local\/(scope.names.lookup y.1=some .cell/\((cellsFrom (s.heap.objs.size+1) scope.names []).lookup y.1).isSome=true):=λ⟨n,v⟩ hy=>by
  rcases S.par n (ud hy).1 with q|q
  . exact .inl q
  . exact .inr ⟨q,uC _ _ _ (.inl q)⟩
 refine codeAny_call_function hr.depth (KX _ _ lk) rfl S.co S.gen rfl (PySem.W.codeRec_of KX hcd) (hb _ _ _ _ ?_);refine wpAny_newFunctionEnv_cells S.kind hkind λenv he s1 x => ?_
 subst he;refine⟨lim.keeps x.toInCall.keep,codeAny_func ?_⟩;obtain⟨t,ht,hq⟩:=hbody A outer s H vs Q E (hr.deeper _) hsp;have I:Inv (Yd CX P w K mg base N qual scope f cdv A outer s H E) [] (start N vs) H s1:=ZaS S hr.hd e0 hl r x;refine qJ (ht [] s1 (start N vs) H _ I hq) (λfl s' hs => ?_) λe s' hs=>hs
 have fin:∀{σ':St}{H':Hp}{v:V}{u:Value},Inv (Yd CX P w K mg base N qual scope f cdv A outer s H E) [] σ' H' s'->RelV v u->Q v H'->CE outer P w H s Q u s':=
  λ{σ' H' v u} J rv q=>⟨v,H',J.os,J.bare,J.base,J.hok,rv,q⟩
 cases fl with
 |ret u=>
  obtain⟨v,σ',H',J,rv,q⟩:=hs;exact fin J rv q
 |next=>
  obtain⟨σ',H',J,q⟩:=hs;exact fin (v:=V.non) (u:=Value.none) J rfl q
 |brk=>
  obtain⟨_,_,_,q⟩:=hs;exact False.elim q
 |cont=>
  obtain⟨_,_,_,q⟩:=hs;exact False.elim q
section
variable{X:Cx}{x:Str}{p pos:Pos}{e:Expr}{es:List Expr}{t:TA}{id T:String}{r:List V->Hp->VK->Prop}
def tCB(r:List V->Hp->VK->Prop)(t:TA):TE:=λσ H Q=>t σ H λvs H1=>r vs H1 Q
theorem X6 (hc:CallR X (.builtin id) r) (hg:Gl X x) (hm:X.mg x=none) (hv:bootBuiltins x=some (.builtin id)) (ha:PA X (e::es) t) (hn:x ≠ "__name__" := by decide) (hdb:(x == ("__debug__" : Str))=false:=by decide)
 (he:starEach (e::es) X.env=(false,eval e X.env)::starEach es X.env:=by rfl) (hpl:(backTo pos (starEach es X.env)).any (·.1)=false:=by rfl):PE X (.Call (.Name x p) (e::es) [] pos) (tCB r t):=by
 intro pins s σ H Q I h;refine yv (Xb I hg hm hv ?_ hn hdb);exact PyProof.Rows.callWith_builtin1 (thn (ha pos pins s σ H _ I h) λus s1 ⟨vs,H1,I1,r1,q1⟩=>hc pins s1 σ H1 vs us Q I1 r1 q1) he hpl
theorem QK (hc:CallR X (.type T) r) (hg:Gl X x) (hm:X.mg x=none) (hv:bootBuiltins x=some (.type T)) (ha:PA X (e::es) t) (hn:x ≠ "__name__" := by decide) (hdb:(x == ("__debug__" : Str))=false:=by decide)
 (he:starEach (e::es) X.env=(false,eval e X.env)::starEach es X.env:=by rfl) (hpl:(backTo pos (starEach es X.env)).any (·.1)=false:=by rfl):PE X (.Call (.Name x p) (e::es) [] pos) (tCB r t):=by
 intro pins s σ H Q I h;refine yv (Xb I hg hm hv ?_ hn hdb);exact qp (thn (ha pos pins s σ H _ I h) λus s1 ⟨vs,H1,I1,r1,q1⟩=>hc pins s1 σ H1 vs us Q I1 r1 q1) he hpl
end
def ixN(n:Nat)(i:Int):Option Nat:=if 0<=i then(if i<n then some i.toNat else none)else if -(n:Int)<=i then some (i+n).toNat else none
def atI{α:Type}(xs:List α)(i:Int):Option α:=(ixN xs.length i).bind λj=>xs[j]?
theorem ZcG{n:Nat}{i:Int}{j:Nat}(h:ixN n i=some j):seqIndex? i n=some j/\j<n /\ -(n:Int)<=i/\i<n:=by
 unfold ixN at h
 by_cases h0:0<=i
 . rw [je h0]at h
   by_cases h1:i<n
   . rw [je h1]at h
     have e:i.toNat=j:=jo h;exact⟨by rw [seqIndex_of h0 h1,e],by omega,by omega,h1⟩
   . rw [jg h1]at h;cases h
 . rw [jg h0]at h
   by_cases h1 : -(n:Int)<=i
   . rw [je h1]at h
     have e:(i+n).toNat=j:=jo h;exact⟨by rw [seqIndex_neg 'a' h1,e],by omega,h1,by omega⟩
   . rw [jg h1]at h;cases h
theorem QL{α:Type}{xs:List α}{i:Int}{v:α}(h:atI xs i=some v):∃j,seqIndex? i xs.length=some j/\xs[j]? = some v/\j<xs.length /\ -(xs.length:Int)<=i/\i<xs.length:=by
 unfold atI at h;cases e:ixN xs.length i with
 |none=>rw [e]at h;cases h
 |some j=>
  rw [e]at h;obtain⟨h1,h2,h3,h4⟩:=ZcG e;exact⟨j,h1,h,h2,h3,h4⟩
theorem Uo{α:Type}{xs:List α}{j:Nat}{v:α}(h:xs[j]? = some v):atI xs (j:Int)=some v:=by
 have hj:j<xs.length:=(jt.mp h).1
 have e:ixN xs.length (j:Int)=some j:=by
  unfold ixN;rw [je 'a',je 'a'];simp
 unfold atI;rw [e];exact h
def ZgQ(b:Expr):Prop:=∀o i,subscripted b false o i=operate [o,i] (getItem o i)
def IxR(X:Cx)(r:R2):Prop:=
 ∀(value slice:Expr)(pins:List 'g')(s:Shared)(σ:St)(H:Hp)(x y:V)(v u:Value)(Q:VK),Inv X pins σ H s->RelV x v->RelV y u->r x y H Q ->
  subscripted slice false v u=operate [v,u] (getItem v u)->wpAny 'e' X.A (subscriptTail value slice v u) (EP X pins σ Q) X.xe s
def MtR(X:Cx)(id:String)(r:V->List V->Hp->VK->Prop):Prop:=
 ∀(pins:List 'g')(s:Shared)(σ:St)(H:Hp)(x:V)(xs:List V)(v:Value)(us:List Value)(Q:VK),Inv X pins σ H s->RelV x v->Vals xs us->r x xs H Q ->
  wpAny 'e' X.A (call (.builtin id) (v::us)) (EP X pins σ Q) X.xe s
section
variable{X:Cx}{a b:Expr}{ta tb:TE}{pos:Pos}
theorem IxR.or{r r':R2}(h:IxR X r)(h':IxR X r'):IxR X (λx y H Q=>r x y H Q\/r' x y H Q):=by
 intro value slice pins s σ H x y v u Q I rx ry q hs;rcases q with q|q
 . exact h value slice pins s σ H x y v u Q I rx ry q hs
 . exact h' value slice pins s σ H x y v u Q I rx ry q hs
theorem ZkM{r:R2}(hr:IxR X r)(ha:PE X a ta)(hb:PE X b tb)(hs:ZgQ b):PE X (.Subscript a b pos) (tOp r ta tb):=by
 intro pins s σ H Q I h;exact Subscript_ (QI ha hb I h λv u s2 x y H2 I2 rx ry q=>hr a b pins s2 σ H2 x y v u Q I2 rx ry q (hs _ _))
def ZmA(K:Frag):R2:=λx y H Q=>∃p xs i v,x = .ref p/\y = .int i/\SqL K H p xs/\atI xs i=some v/\Q v H
def ZmB(K:Frag):R2:=λx y H Q=>∃p xs i v,x = .ref p/\y = .int i/\SqT K H p xs/\atI xs i=some v/\Q v H
def rIxS:R2:=λx y H Q=>∃z i c,x = .str z/\y = .int i/\z.length<=sizeLine/\atI z.cps.toList i=some c/\Q (.str ⟨#[c]⟩) H
theorem ix_list:IxR X (ZmA X.K):=by
 intro value slice pins s σ H x y v u Q I rx ry h hs;obtain⟨p,xs,i,z,rfl,rfl,hq,he,q⟩:=h;cases rx;obtain⟨t,rfl⟩:=ry;obtain⟨its,r,pl,hz⟩:=I.list hq;obtain⟨j,h1,h2,h3,h4,h5⟩:=QL he;obtain⟨w,ew,rw'⟩:=r.get h2;have hl:=r.length;have hn:=X4;have fin:EP X pins σ Q w s:=⟨z,H,I,rw',q⟩
 by_cases h0:0<=i
 . have hj : i.toNat = j := by
    rw [seqIndex_of h0 h5]at h1;exact jo h1
   exact item_listR pl.isList h0 'a' (by rw [hj];simpa using ew) fin hs
 . have hj : (i + (its.toArray.size : Int)).toNat = j := by
    rw [seqIndex_neg 'a' h4]at h1;rw [jM,<-hl];exact jo h1
   exact subscriptTail_builtinR (x:=w) pl.isList.typeIs slot_list_getitem.lookup
    (wpAny_getItem_list_neg (Q:=λr s'=>r=w/\EP X pins σ Q r s') pl.isList 'a' (by rw [jM]<;>omega) 'a' (by rw [hj];simpa using ew) ⟨rfl,fin⟩) hs
theorem ix_tup:IxR X (ZmB X.K):=by
 intro value slice pins s σ H x y v u Q I rx ry h hs;obtain⟨p,xs,i,z,rfl,rfl,hq,he,q⟩:=h;cases rx;obtain⟨t,rfl⟩:=ry;obtain⟨its,r,pl,hz⟩:=I.tuple hq;obtain⟨j,h1,h2,h3,h4,h5⟩:=QL he;obtain⟨w,ew,rw'⟩:=r.get h2;have hl:=r.length;have hn:=X4;have fin:EP X pins σ Q w s:=⟨z,H,I,rw',q⟩
 exact subscriptTail_builtinR (x:=w) pl.typeIs slot_tuple_getitem.lookup
  (getItem_tuple (j:=j) (Q:=λr s'=>r=w/\EP X pins σ Q r s') pl 'a' 'a' (by rw [jM,<-hl];exact h1) (by simpa using ew) ⟨rfl,fin⟩) hs
theorem ix_str:IxR X rIxS:=by
 intro value slice pins s σ H x y v u Q I rx ry h hs;obtain⟨z,i,c,rfl,rfl,hz,he,q⟩:=h;obtain⟨t,rfl⟩:=rx;obtain⟨t',rfl⟩:=ry;obtain⟨j,h1,h2,h3,h4,h5⟩:=QL he;have hl:z.cps.toList.length=z.length:=by simp [Str.length]
 rw [hl]at h1 h4 h5;have hn:=X4
 exact tail_any (typeIs_str s z t) slot_str_getitem.lookup (getItem_str (c:=c) (by
  have e1:decide (i < -(2 ^ 63:Int))=false:=jF 'a';have e2:decide (i ≥ 2 ^ 63)=false:=jF 'a';rw [e1,e2,Bool.or_false]) (by rw [h1];simpa using h2) ⟨.str ⟨#[c]⟩,H,I.tok _,⟨_,rfl⟩,q⟩) hs
theorem Zcd(its:List Value)(n j:Nat)(u:Value):Obj.mapSeq (·.setIfInBounds j u) { cls := .type "list",data := .seq its.toArray n }={ cls := .type "list",data := .seq (its.set j u).toArray n }:=by
 simp [Obj.mapSeq]
theorem Inv.lst{pins:List 'g'}{σ:St}{H:Hp}{s:Shared}{p:Addr}{xs:List V}(I:Inv X pins σ H s)(h:H p=some (.lst xs)) :
 ∃(its:List Value) (n:Nat),Vals xs its/\s.heap.get? p=some { cls := .type "list",data := .seq its.toArray n }/\xs.length<=sizeLine:=by
 obtain⟨z,its,n,r,e⟩:=I.hok p _ h;exact⟨its,n,r,e,z⟩
theorem Inv.lstUpd {pins:List 'g'} {σ:St} {H:Hp} {s:Shared} {p:Addr} {xs ys:List V} {its its':List Value} {n n':Nat} {f:Obj->Obj} (I:Inv X pins σ H s) (h:H p=some (.lst xs))
 (ho:s.heap.get? p=some { cls := .type "list",data := .seq its.toArray n }) (hf:f { cls := .type "list",data := .seq its.toArray n }={ cls := .type "list",data := .seq its'.toArray n' }) (r:Vals ys its') (hz:ys.length<=sizeLine) (t:Nat) :
 Inv X pins σ (upd H p (.lst ys)) { s with heap:=s.heap.update p f,toks:=t }:=by
 have e:(s.heap.update p f).get? p=some { cls := .type "list",data := .seq its'.toArray n' }:=by
  rw [yh f ho (by rw [hf]<;>rfl),hf]
 refine I.write (x:=p) (e:=p) (by rw [h];trivial) 's' (λb u hb q=>(Heap.get?_update_other _ _ (jO hb)).trans q) ⟨_,e⟩ ?_;exact⟨hz,its',n',r,e⟩
def rSetL:V->V->V->Hp->(Hp->Prop)->Prop:=λo i v H Q=>∃p xs k j,o = .ref p/\i = .int k/\H p=some (.lst xs)/\ixN xs.length k=some j/\Q (upd H p (.lst (xs.set j v)))
theorem Zez:Zmu X rSetL:=by
 intro pins s σ H o i v ov iv u Q I ro ri rv h;obtain⟨p,xs,k,j,rfl,rfl,hp,hj,q⟩:=h;cases ro;obtain⟨t,rfl⟩:=ri;obtain⟨its,n,r,ho,hz⟩:=I.lst hp;obtain⟨h1,h2,h3,h4⟩:=ZcG hj;have hl:=r.length;have hn:=X4
 have I':Inv X pins σ (upd H p (.lst (xs.set j v))) { s with heap:=s.heap.update p (Obj.mapSeq (·.setIfInBounds j u)) }:=
  I.lstUpd hp ho (Zcd its n j u) (r.set rv j) (by rw [jU];exact hz) s.toks
 by_cases h0:0<=k
 . have hk : k.toNat = j := by
    rw [seqIndex_of h0 h4]at h1;exact jo h1
   exact PySem.W.ki_setAt ho h0 'a' (by rw [jM,<-hl];exact h4) (by rw [hk];exact⟨_,I',q⟩)
 . have hk : (k + (its.toArray.size : Int)).toNat = j := by
    rw [seqIndex_neg 'a' h3]at h1;rw [jM,<-hl];exact jo h1
   exact PySem.W.ki_setBack ho 'a' (by rw [jM,<-hl];exact h3) 'a' (by rw [hk];exact⟨_,I',q⟩)
def YA:V->Bool
 | .non=>true
 | .bl _=>true
 | .int _=>true
 | .str _=>true
 |_=>false
def eqV:V->V->Bool
 | .non,.non=>true
 | .bl a,.bl b=>a == b
 | .bl a,.int b=>(if a then 1 else 0) == b
 | .int a,.bl b=>a == (if b then 1 else 0)
 | .int a,.int b=>a == b
 | .str a,.str b=>a == b
 |_,_=>false
theorem Zjj(ry:RelV y u)(rx:RelV x v)(fy:YA y=true)(fx:YA x=true):SeqAt.EqAt A s u v (eqV y x):=by
 cases y with
 |non=>
  cases ry;cases x with
  |non=>cases rx;exact SeqAt.EqAt.same _
  |bl b=>cases rx;exact SeqAt.EqAt.none_bool b
  |int b=>obtain⟨t,rfl⟩:=rx;exact SeqAt.EqAt.none_int b t
  |str b=>obtain⟨t,rfl⟩:=rx;exact SeqAt.EqAt.none_str b t
  |_=>exact absurd (show false=true from fx) jy
 |bl a=>
  cases ry;cases x with
  |non=>cases rx;exact SeqAt.EqAt.bool_none a
  |bl b=>cases rx;exact SeqAt.EqAt.bool_bool a b
  |int b=>obtain⟨t,rfl⟩:=rx;exact SeqAt.EqAt.bool_int a b t
  |str b=>obtain⟨t,rfl⟩:=rx;exact SeqAt.EqAt.bool_str a b t
  |_=>exact absurd (show false=true from fx) jy
 |int a=>
  obtain⟨t',rfl⟩:=ry;cases x with
  |non=>cases rx;exact SeqAt.EqAt.int_none a t'
  |bl b=>cases rx;exact SeqAt.EqAt.int_bool a t' b
  |int b=>obtain⟨t,rfl⟩:=rx;exact SeqAt.EqAt.int_int a t' b t
  |str b=>obtain⟨t,rfl⟩:=rx;exact SeqAt.EqAt.int_str a t' b t
  |_=>exact absurd (show false=true from fx) jy
 |str a=>
  obtain⟨t',rfl⟩:=ry;cases x with
  |non=>cases rx;exact SeqAt.EqAt.str_none a t'
  |bl b=>cases rx;exact SeqAt.EqAt.str_bool a t' b
  |int b=>obtain⟨t,rfl⟩:=rx;exact SeqAt.EqAt.str_int a t' b t
  |str b=>obtain⟨t,rfl⟩:=rx;exact SeqAt.EqAt.str_str a t' b t
  |_=>exact absurd (show false=true from fx) jy
 |_=>exact absurd (show false=true from fy) jy
def eqU(x:V)(u:Value):Bool:=match u with
 | .none=>eqV .non x
 | .bool b=>eqV (.bl b) x
 | .int i _=>eqV (.int i) x
 | .str z _=>eqV (.str z) x
 |_=>false
theorem QM(r:RelV y u)(f:YA y=true):eqU x u=eqV y x:=by
 cases y with
 |non=>cases r;rfl
 |bl b=>cases r;rfl
 |int i=>obtain⟨t,rfl⟩:=r;rfl
 |str z=>obtain⟨t,rfl⟩:=r;rfl
 |_=>exact absurd (show false=true from f) jy
theorem QN:∀{xs:List V}{us:List Value},Vals xs us->xs.all YA=true->us.any (eqU x)=xs.any λy=>eqV y x
 |_,_,.nil,_=>rfl
 |y::xs,u::us,.cons r t,f=>by
  rw [yI,jV]at f;rw [yH,yH,QM r f.1,QN t f.2]
theorem Up(rx:RelV x v)(fx:YA x=true):∀{xs:List V}{us:List Value},Vals xs us->xs.all YA=true->∀u∈us,SeqAt.EqAt A s u v (eqU x u)
 |_,_,.nil,_=>λu hu=>by cases hu
 |y::xs,u::us,.cons r t,f=>λu' hu=>by
  rw [yI,jV]at f;rcases jA.mp hu with rfl|hu
  . rw [QM r f.1];exact Zjj r rx f.1 fx
  . exact Up rx fx t f.2 u' hu
def inV(x:V)(xs:List V):Bool:=xs.any λy=>eqV y x
def rIn(K:Frag)(neg:Bool):R2:=λx y H Q=>∃p xs,y = .ref p/\(SqL K H p xs\/SqT K H p xs)/\YA x=true/\xs.all YA=true/\Q (.bl (if neg then !inV x xs else inV x xs)) H
theorem ZdL:OpR X (compareOp .In) (rIn X.K false):=by
 intro pins s σ H x y v u Q I rx ry h;obtain⟨p,xs,rfl,hq,fx,fs,q⟩:=h;cases ry;rcases hq with hq|hq
 . obtain⟨its,r,pl,hz⟩:=I.list hq
   refine SeqAt.in_listAt (eqU x) pl.isList (λw hw=>Up rx fx r fs w (by simpa using hw)) ⟨.bl _,H,I,rfl,?_⟩;rw [show its.toArray.any (eqU x)=its.any (eqU x) by simp,QN r fs];exact q
 . obtain⟨its,r,pl,hz⟩:=I.tuple hq
   refine SeqAt.in_tupleAt (eqU x) pl (λw hw=>Up rx fx r fs w (by simpa using hw)) ⟨.bl _,H,I,rfl,?_⟩;rw [show its.toArray.any (eqU x)=its.any (eqU x) by simp,QN r fs];exact q
theorem Zbk:CallR X (.builtin "len") (λxs H Q=>∃p ys,xs=[.ref p]/\(SqL X.K H p ys\/SqT X.K H p ys)/\Q (.int ys.length) H):=by
 intro pins s σ H xs us Q I r h;obtain⟨p,ys,rfl,hq,q⟩:=h;obtain⟨u,rfl,rx⟩:=YF r;cases rx;have hn:=X4;rcases hq with hq|hq
 . obtain⟨its,r',pl,hz⟩:=I.list hq
   have hlen:=r'.length;exact Calls.call_len_list pl.isList (by simp only [jM]<;>omega) ⟨.int ys.length,H,I.tok _,⟨s.toks+1,by rw [jM,hlen]⟩,q⟩
 . obtain⟨its,r',pl,hz⟩:=I.tuple hq
   have hlen:=r'.length;exact len_tuple pl (by simp only [jM]<;>omega) ⟨.int ys.length,H,I.tok _,⟨s.toks+1,by rw [jM,hlen]⟩,q⟩
theorem Zbl:CallR X (.builtin "len") (λxs H Q=>∃z,xs=[.str z]/\z.length<=sizeLine/\Q (.int z.length) H):=by
 intro pins s σ H xs us Q I r h;obtain⟨z,rfl,hz,q⟩:=h;obtain⟨u,rfl,t,rfl⟩:=YF r;have hn:=X4;exact len_str 'a' ⟨.int z.length,H,I.tok _,⟨_,rfl⟩,q⟩
theorem Zbm:CallR X (.type "list") (λxs H Q=>∃p ys,xs=[.ref p]/\(SqL X.K H p ys\/SqT X.K H p ys)/\∀l,H l=none->Q (.ref l) (upd H l (.lst ys))):=by
 intro pins s σ H xs us Q I r h;obtain⟨p,ys,rfl,hq,q⟩:=h;obtain⟨u,rfl,rx⟩:=YF r;cases rx
 have fin:∀(its:List Value),Vals ys its->ys.length<=sizeLine->∀(h':Heap)(c':Nat),(∀b o',s.heap.get? b=some o'->h'.get? b=some o') ->
  h'.get? s.heap.objs.size=some { cls := .type "list",dict:=none,data := .seq its.toArray c',slots := #[] }->EP X pins σ Q (.ref s.heap.objs.size) { s with heap:=h' }:=λits r' hz h' c' kp e=>
  ⟨.ref s.heap.objs.size,_,I.laid (t':=s.toks) kp (jk _) (show ObjOk X.prog X.w _ h' _ (.lst ys)from⟨hz,its,c',r',e⟩),rfl,q _ (I.hok.fresh (jk _))⟩
 rcases hq with hq|hq
 . obtain⟨its,r',pl,hz⟩:=I.list hq
   have hlen:=r'.length;obtain⟨o,ho,hc,n,hd⟩:=pl.isList;exact call_list_seq p 's' ho hc hd (λh' c' kp e=>fin its r' hz h' c' kp e) (by simp only [jM]<;>omega)
 . obtain⟨its,r',pl,hz⟩:=I.tuple hq
   have hlen:=r'.length;obtain⟨o,ho,hc,n,hd⟩:=pl;exact call_list_seq p (.inr rfl) ho hc hd (λh' c' kp e=>fin its r' hz h' c' kp e) (by simp only [jM]<;>omega)
theorem ZaJ:CallR X (.type "tuple") (λxs H Q=>∃p ys,xs=[.ref p]/\((SqL X.K H p ys/\∀l,H l=none->Q (.ref l) (upd H l (.tup ys)))\/(SqT X.K H p ys/\Q (.ref p) H))):=by
 intro pins s σ H xs us Q I r h;obtain⟨p,ys,rfl,h⟩:=h;obtain⟨u,rfl,rx⟩:=YF r;cases rx;rcases h with⟨hq,q⟩|⟨hq,q⟩
 . obtain⟨its,r',pl,hz⟩:=I.list hq
   have hlen:=r'.length;refine call_tuple_list pl.isList (λh' kp => ?_) (by simp only [jM]<;>omega);have I1:Inv X pins σ H { s with heap:=h' }:=I.kept (t':=s.toks) kp
   have I2:Inv X pins σ (upd H h'.objs.size (.tup ys)) { s with heap:=h'.push { cls := .type "tuple",data := .seq its.toArray } }:=
    I1.laid (t':=s.toks) (λb o e=>jh _ e) (jk _) (show ObjOk X.prog X.w _ _ _ (.tup ys)from⟨hz,its,r',TupN.new _ _⟩)
   exact⟨.ref h'.objs.size,_,I2,rfl,q _ (I1.hok.fresh (jk _))⟩
 . obtain⟨its,r',pl,hz⟩:=I.tuple hq
   exact call_tuple_same pl ⟨.ref p,H,I,rfl,q⟩
def tyV(K:Frag)(T:String)(x:V)(H:Hp):Prop:=match x with
 | .str _=>T = "str"
 | .int _=>T = "int"
 | .ref p=>(T = "list" /\ ∃xs,SqL K H p xs)\/(T = "tuple" /\ ∃o,K.lookup p=some o/\o.cls = .type "tuple" /\ o.dict=none) \/
  (T = "dict" /\ ((∃kvs,H p=some (.dK kvs))\/∃kvs,H p=some 'k'))\/(T = "set" /\ ∃S n,H p=some (.set S n))\/(T = "tuple" /\ ∃xs,H p=some (.tup xs))
 |_=>False
theorem ZfO{s:Shared}{T:String}{v:Value}(I:Inv X pins σ H s)(r:RelV x v)(ty:tyV X.K T x H) :
 s.TypeIs v T/\∀a,v = .ref a->∃ob,s.heap.get? a=some ob/\ob.dict=none:=by
 cases x with
 |str z=>
  obtain⟨t,rfl⟩:=r;cases(show T = "str" from ty);exact⟨typeIs_str s z t,λ_ e=>nomatch e⟩
 |int i=>
  obtain⟨t,rfl⟩:=r;cases(show T = "int" from ty);exact⟨typeIs_int s i t,λ_ e=>nomatch e⟩
 |ref p=>
  cases r;rcases ty with⟨rfl,xs,hq⟩|⟨rfl,o,hk,hc,hd⟩|⟨rfl,hk⟩|⟨rfl,S,n,hk⟩|⟨rfl,xs,hk⟩
  . obtain⟨its,_,pl,_⟩:=I.list hq
    refine⟨pl.isList.typeIs,λa e => ?_⟩;cases e;obtain⟨o,n,e,c,hd,_⟩:=pl;exact⟨o,e,hd⟩
  . refine⟨⟨o,I.kIn p o hk,hc⟩,λa e => ?_⟩
    cases e;exact⟨o,I.kIn _ o hk,hd⟩
  . have z : ∃ o, s.heap.get? p = some o /\ o.ExactDict := by
     rcases hk with⟨kvs,hk⟩|⟨kvs,hk⟩
     . obtain⟨_,_,_,_,o,_,_,e,ex,_⟩:=I.hok p _ hk
       exact⟨o,e,ex⟩
     . obtain⟨_,_,_,_,o,_,_,e,ex,_⟩:=I.hok p _ hk
       exact⟨o,e,ex⟩
    obtain⟨o,e,ex⟩:=z;refine⟨⟨o,e,ex.1⟩,λa e2 => ?_⟩;cases e2;exact⟨o,e,ex.2.1⟩
  . obtain⟨o,_,_,_,e,ex,_⟩:=I.hok p _ hk
    refine⟨⟨o,e,ex.1⟩,λa e2 => ?_⟩;cases e2;exact⟨o,e,ex.2.1⟩
  . obtain⟨_,its,_,o,e,c,_,dn⟩:=(show ObjOk X.prog X.w H s.heap p (.tup xs)from I.hok p _ hk)
    refine⟨⟨o,e,c⟩,λa e2 => ?_⟩;cases e2;exact⟨o,e,dn⟩
 |_=>exact False.elim ty
def QO(K:Frag)(T:String)(r:V->List V->Hp->VK->Prop)(to:TE):TE:=λσ H Q=>to σ H λx H1=>tyV K T x H1/\r x [] H1 Q
def tBM(K:Frag)(T:String)(r:V->List V->Hp->VK->Prop)(to:TE)(t:TA):TE:=λσ H Q=>to σ H λx H1=>tyV K T x H1/\t σ H1 λxs H2=>r x xs H2 Q
variable{o e:Expr}{es:List Expr}{to:TE}{t:TA}{name:Str}{apos cpos:Pos}{T id:String}{r:V->List V->Hp->VK->Prop}
theorem Zjk (pa:PlainAttrs T) (slot:Slot T name id) (hty:typeOf (.builtin id)=pure (.type "method_descriptor")) (hm:MtR X id r) (ho:PE X o to)
 (hbase:attributeBase o name X.env (eval o X.env)=eval o X.env:=by rfl) (hline:(apos.endLine == cpos.line)=true:=by rfl):PE X (.Call (.Attribute o name apos) [] [] cpos) (QO X.K T r to):=by
 intro pins s σ H Q I h;refine wpAny_Call_method0_late hbase hline (thn (ho pins s σ H _ I h) λv s1 ⟨x,H1,I1,r1,ty,q1⟩ => ?_);obtain⟨h1,h2⟩:=ZfO I1 r1 ty;exact⟨T,id,pa,slot,hty,h1,h2,qA rfl (PySem.evalArgs_none (hm pins s1 σ H1 x [] v [] Q I1 r1 .nil q1))⟩
theorem ZkN (pa:PlainAttrs T) (slot:Slot T name id) (hty:typeOf (.builtin id)=pure (.type "method_descriptor")) (hm:MtR X id r) (ho:PE X o to) (ha:PA X (e::es) t)
 (hbase:attributeBase o name X.env (eval o X.env)=eval o X.env:=by rfl)
 (hfew:((backTo cpos (starEach (e::es) X.env)).all (λx => !x.1)&&(backToKw cpos (keywordEach [] X.env)).all (λx=>x.1.isSome)
   && decide ((e::es).length+([]:List Keyword).length+(if([]:List Keyword).isEmpty then 0 else 1)<30))=true:=by rfl)
 (hline:(apos.endLine == cpos.line)=true:=by rfl) (hs:starEach (e::es) X.env=(false,eval e X.env)::starEach es X.env:=by rfl) (hplain:(backTo cpos (starEach es X.env)).any (·.1)=false:=by rfl) :
 PE X (.Call (.Attribute o name apos) (e::es) [] cpos) (tBM X.K T r to t):=by
 intro pins s σ H Q I h;refine wpAny_Call_method_late hbase hfew hline rfl (thn (ho pins s σ H _ I h) λv s1 ⟨x,H1,I1,r1,ty,q1⟩ => ?_);obtain⟨h1,h2⟩:=ZfO I1 r1 ty;refine⟨T,id,pa,slot,hty,h1,h2,?_⟩;have hA:=ha cpos pins s1 σ H1 _ I1 q1;rw [hs]at hA ⊢;refine qA (by show(false||(backTo cpos (starEach es X.env)).any (·.1))=false;rw [hplain]<;>rfl) (uq ?_)
 exact thn hA λus s2 ⟨vs,H2,I2,r2,q2⟩=>hm pins s2 σ H2 x vs v us Q I2 r1 r2 q2
end
def MtM(X:Cx)(id:String)(r:V->List V->Hp->VK->Prop):Prop:=
 ∀(pins:List 'g')(s:Shared)(σ:St)(H:Hp)(x:V)(xs:List V)(v:Value)(us:List Value)(Q:VK),Inv X pins σ H s->RelV x v->Vals xs us->r x xs H Q ->
  wpAny 'e' X.A (call (.builtin id) (v::us)) (EP X pins σ Q) X.xe s
theorem Vals.one:∀{x:V}{us:List Value},Vals [x] us->∃u,us=[u]/\RelV x u
 |_,_,.cons r .nil=>⟨_,rfl,r⟩
theorem Vals.zero:∀{us:List Value},Vals [] us->us=[]
 |_,.nil=>rfl
theorem Vals.dropLast{xs:List V}{us:List Value}(h:Vals xs us):Vals xs.dropLast us.dropLast:=by
 induction h with
 |nil=>exact .nil
 |cons r t ih=>
  cases t with
  |nil=>exact .nil
  |cons q t'=>exact .cons r ih
theorem Vals.rep{xs:List V}{us:List Value}(h:Vals xs us):∀k:Nat,Vals (List.replicate k xs).flatten (List.replicate k us).flatten
 |0 => .nil
 |k+1=>by
  rw [qy,qy,qS,qS];exact Vals.append h (Vals.rep h k)
theorem Zce{α:Type}(l:List α):l.eraseIdx (l.length-1)=l.dropLast:=by
 induction l with
 |nil=>rfl
 |cons a r ih=>
  cases r with
  |nil=>rfl
  |cons b r=>
   have e:(a::b::r).length-1=((b::r).length-1)+1:=by
    have h1:(a::b::r).length=r.length+2:=rfl;have h2:(b::r).length=r.length+1:=rfl;omega
   rw [e,List.eraseIdx_cons_succ,ih]
   all_goals rfl
theorem ZaT(its:List Value):∀(k:Nat)(acc:List Value),
 List.foldl (λx1 x2=>x1++x2) acc.toArray (List.replicate k its.toArray)=(acc++(List.replicate k its).flatten).toArray
 |0,acc=>by simp
 |k+1,acc=>by
  have e:acc.toArray++its.toArray=(acc++its).toArray:=by simp
  have e2:(acc++its)++(List.replicate k its).flatten=acc++(List.replicate (k+1) its).flatten:=by
   rw [qy,qS,qr]
  rw [<-e2,<-ZaT its k (acc++its),<-e,qy,uf]
section
variable{X:Cx}{pins:List 'g'}{σ:St}{H:Hp}{s:Shared}{l b:Addr}{xs ys zs:List V}
theorem Inv.lset {its its':List Value} {n:Nat} {f:Array Value->Array Value} {t':Nat} (I:Inv X pins σ H s) (hH:H l=some (.lst xs))
 (e:s.heap.get? l=some { cls := .type "list",data := .seq its.toArray n }) (hf:f its.toArray=its'.toArray) (hv:Vals ys its') (hz:ys.length<=sizeLine) :
 Inv X pins σ (upd H l (.lst ys)) { s with heap:=s.heap.update l (Obj.mapSeq f),toks:=t' }:=by
 have q:=PySem.IsL.update e f;rw [hf]at q;refine I.write (x:=l) (e:=l) (by rw [hH];exact trivial) 's' (λb' u hb hu=>(Heap.get?_update_other s.heap (Obj.mapSeq f) (jO hb)).trans hu) ⟨_,q⟩ ?_;exact⟨hz,its',_,hv,q⟩
theorem Inv.lnew{its:List Value}{t':Nat}(I:Inv X pins σ H s)(hv:Vals ys its)(hz:ys.length<=sizeLine) :
 Inv X pins σ (upd H s.heap.objs.size (.lst ys)) { s with heap:=s.heap.push { cls := .type "list",data := .seq its.toArray },toks:=t' }:=
 I.laid (λ_ _ q=>jh _ q) (jk _) ⟨hz,its,0,hv,jr _ rfl⟩
theorem Inv.fresh(I:Inv X pins σ H s):H s.heap.objs.size=none:=I.hok.fresh (jk _)
theorem Inv.lstM(I:Inv X pins σ H s)(hH:H l=some (.lst xs)):xs.length<=sizeLine/\∃(its:List Value) (n:Nat),Vals xs its/\xs.length=its.length/\s.heap.get? l=some { cls := .type "list",data := .seq its.toArray n }:=by
 obtain⟨z,its,n,r,e⟩:=I.hok l _ hH;exact⟨z,its,n,r,r.length,e⟩
theorem ZbE{n:Nat}(h:n<=sizeLine):Builtin.List.listTooLong n=false:=by
 unfold Builtin.List.listTooLong;exact jF 'a'
end
section
variable{X:Cx}
def rAppend:V->List V->Hp->VK->Prop:=λx vs H Q=>∃l xs y,x = .ref l/\vs=[y]/\H l=some (.lst xs)/\xs.length<sizeLine/\Q .non (upd H l (.lst (xs++[y])))
theorem ZdM:MtM X "list.append" rAppend:=by
 intro pins s σ H x vs v us Q I rx rv h;obtain⟨l,xs,y,rfl,rfl,hH,hz,q⟩:=h;cases rx;obtain⟨u,rfl,ru⟩:=rv.one;obtain⟨z,its,n,r,hl,e⟩:=I.lstM hH;refine call_meets F.slot_list_append ⟨_,e,rfl⟩ F.entry_list_append (F.args_list_append_2 _ _) (PySem.list_append l its.toArray n u (by rw [jM];omega)) ⟨e,?_⟩;refine⟨.non,_,I.lset (its':=its++[u]) hH e 'c' (r.append (.cons ru .nil)) ?_,rfl,q⟩
 rw [jc,qd];omega
def rPop:V->List V->Hp->VK->Prop:=λx vs H Q=>∃l xs y,x = .ref l/\vs=[]/\H l=some (.lst xs)/\xs[xs.length-1]? = some y/\Q y (upd H l (.lst xs.dropLast))
theorem Zjl:MtM X "list.pop" rPop:=by
 intro pins s σ H x vs v us Q I rx rv h;obtain⟨l,xs,y,rfl,rfl,hH,hy,q⟩:=h;cases rx;have hus:=rv.zero;subst hus;obtain⟨z,its,n,r,hl,e⟩:=I.lstM hH;obtain⟨u,hu,ru⟩:=r.get hy
 have hy':its.toArray[its.toArray.size-1]? = some u:=by
  show its.toArray[its.length-1]? = some u;rw [<-Array.getElem?_toList,<-hl];exact hu
 refine call_meets F.slot_list_pop ⟨_,e,rfl⟩ F.entry_list_pop (F.args_list_pop_1 _) (MeetsSeq.list_pop_last l its.toArray n u hy' (by rw [jM];omega)) ⟨e,?_⟩;refine⟨y,_,I.lset (its':=its.dropLast) hH e ?_ r.dropLast ?_,ru,q⟩
 . show its.toArray.eraseIdxIfInBounds (its.toArray.size-1)=its.dropLast.toArray
   rw [jM,List.eraseIdxIfInBounds_toArray,Zce]
 . rw [List.length_dropLast]
   omega
def ZmZ:R2:=λx y H Q=>∃l b xs zs,x = .ref l/\y = .ref b/\H l=some (.lst xs)/\H b=some (.lst zs)/\xs.length+zs.length<=sizeLine/\∀p,H p=none->Q (.ref p) (upd H p (.lst (xs++zs)))
theorem ZgR{α:Type}(xs:List α)(k:Nat):(List.replicate k xs).flatten.length=k*xs.length:=by
 induction k with
 |zero=>simp
 |succ k ih=>rw [qy,qS,jc,ih,yl,Nat.add_comm]
end
section
variable{prog:Program}{w:World}{A:Around}{E:Value->Shared->Prop}{s:Shared}
set_option maxRecDepth 100000 in
end
end L2
namespace Att
open PySem PySem.W PySem.Calls PyProof.Rows
theorem Zau{P:Params}:∀(ns:List Int)(vs:List Value),WellAll P h vs (ns.map WData.int)->IntsAre vs ns:=by
 intro ns
 induction ns with
 |nil=>
  intro vs w;rw [uE]at w;cases w;exact .nil
 |cons n ns ih=>
  intro vs w;rw [jp]at w;cases w with
  |cons a b=>
   cases a;exact .cons _ _ (ih _ b)
theorem ZdN {l:OpenLaw} {n:Nat} (hn:l.most=some n) {P:Params} {h:Heap} {args:List WData} {vals:List Value}
 (hpre:l.row.toRowW.claim.pre args=true) (hwl:WellAll P h vals args) :
 ∃a vs ns,vals=[Value.ref a]/\args=[WData.list (ns.map WData.int)]/\h.get? a=some { cls := .type "list",data := .seq vs.toArray }/\IntsAre vs ns/\ns.length<=n:=by
 have hsh:WShape.hasAll [] args [.list .int]=true:=(pre_splitW hpre).1;have hc:l.pre.holds [] { args:=args }=true:=(pre_splitW hpre).2;obtain⟨d,r,rfl,h1,h2⟩:=hasAllW_cons hsh;obtain rfl:=hasAllW_nil h2;obtain⟨xs,rfl,h3⟩:=hasW_list h1;obtain⟨ns,rfl⟩:=items_int h3
 have hlen:ns.length<=n:=by
  unfold OpenLaw.pre at hc
  have h4:(WTm.not (.lt (.lit (.int (n:Int))) (.len (.arg 0)))).holds [] { args:=[.list (ns.map .int)] }=true:=by
   have h4:=(holds_andW hc).1;rw [hn]at h4;exact h4
  have h5:=condW_of h4 (w_not (w_lt w_lit (w_len_list (w_arg rfl))));rw [ja]at h5;refine Nat.le_of_not_lt λq => ?_
  have q':(n:Int)<((ns.length:Nat):Int):=by omega
  first
   |(rw [jN q']at h5;exact absurd h5 'b')
   |(simp at h5;omega)
 cases hwl with
 |cons w1 w2=>
  cases w2;cases w1 with
  |list ho hall=>exact⟨_,_,ns,rfl,rfl,ho,Zau ns _ hall,hlen⟩
theorem ZdO(l:OpenLaw)(args:List WData):l.row.toRowW.claim.post args (.bool true) args=true:=
 postW_of (r:=l.row.toRowW) (X:=(true == true))
  (show WShape.has [] (.bool true) .bool=true by first|rfl|decide|simp [WShape.has,WShape.arms,WShape.armsAll])
  (show(WTm.eq .res (.lit (.bool true))).value [] { args:=args,res:=some (.bool true),after:=args }=some (.bool (true == true))from w_eq_bool (w_res rfl) w_lit) rfl
theorem attach_call {l:OpenLaw} {n:Nat} {XP:(Str->Option Value)->Heap->Prop} {YP:World->Heap->Prop} {d:DefRec}
 (hn:l.most=some n) (hdf:d.params.defaults=[])
 (call:∀(w:World)(s₀ s₁:Shared)(mg mb:Str->Option Value)(fa:Addr)(o:Obj)(pm cd doc:Value)(a:Addr)(vs:List Value)(ns:List Int),
   Ground q loose [] XP w s₀ mg mb s₁.heap->YP w s₁.heap ->
   s₁.heap.get? fa=some o->o.data = .func (docDef d.name d.params d.body d.scope pm cd doc)->s₁.heap.CodeRec cd d.name->mg d.name=some (.ref fa) ->
   s₁.heap.get? a=some { cls := .type "list",data := .seq vs.toArray }->IntsAre vs ns->ns.length<=n->s₁.gens = #[] ->
   codeAny (model l.prog w) callerA (.call (.ref fa) ⟨[.ref a],[]⟩) (λr s'=>r = .ok (.ret (.bool true))/\OldK s₁.heap s'.heap/\s'.os=s₁.os/\AllBare s'.gens) s₁) :
 WalkO q loose XP YP l.row.toRowW d [] (λf vs=>PySem.call f vs):=by
 intro w s₀ s₁ mg mb G Y fa o pm cd doc dV kV ho hd hcd hD hmg hg args vals as hpre hlay hrd hwl hlo;obtain rfl:dV = .none:=Dflts.none hD hdf;obtain rfl:kV = .none:=Dflts.noKw hD;obtain⟨a,vs,ns,rfl,rfl,hobj,hints,hlen⟩:=ZdN hn hpre hwl;refine enter_call (codeAny_mono (call w s₀ s₁ mg mb fa o pm cd doc a vs ns G Y ho (fd_plain hd) hcd hmg hobj hints hlen hg) λr s' hq => ?_);obtain⟨rfl,h2,h3,h4⟩:=hq
 exact⟨.inl ⟨.bool true,.bool true,[],rfl,λ_=>rfl,.bool true,ZdO l _,λ_=>⟨List.Pairwise.nil,λ_ hm=>(nomatch hm)⟩⟩,h2,h3,h4⟩
end Att
namespace L2
open PySem PySem.Spec PyProof.Rows
theorem ZaU:∀{vs:List Value}{ns:List Int},IntsAre vs ns->Vals (ns.map V.int) vs
 |_,_,.nil => .nil
 |_,_,.cons n t h => .cons ⟨t,rfl⟩ (ZaU h)
def defArgs(s:Stmt):Arguments:=match s with
 | .FunctionDef _ a _ _ _ _ _ _ _ _=>a
 |_=>{ posonlyargs:=[],args:=[],vararg:=none,kwonlyargs:=[],kw_defaults:=[],kwarg:=none,defaults:=[] }
def defBody(s:Stmt):List Stmt:=match s with
 | .FunctionDef _ _ b _ _ _ _ _ _ _=>b
 |_=>[]
def defScope(s:Stmt):Scope:=match s with
 | .FunctionDef _ _ _ _ _ _ sc _ _ _=>sc
 |_=>{ kind := .function,names:=[],isGenerator:=false,isCoroutine:=false }
abbrev CX0:CXT:=λ_ _ _ _ _ _=>False
abbrev E0:XK:=λ_ _ _=>False
theorem Z2:QJ CX0 X E0:=λ_ _ _ _ _ _ _ h=>h.elim
structure Fun(K:Frag)(x qual:Str)(st:Stmt)(f:Addr)(fd:FuncData):Prop where
 ex:∃(oc:Value) (od:Option Addr) (kV doc pm:Value) (an:Option Addr) (cdv ct:Value) (osl:Array (Option Value)),
  fd=fnOf x qual (defArgs st) (defBody st) (defScope st) .none kV doc pm an cdv ct/\K.lookup f=some ⟨oc,od,.func fd,osl⟩/\codeIn K cdv qual=true
 kp:keepIn K (.ref f)=true
section
variable{P:Program}{w:World}{K:Frag}{mg:Str->Option Value}{base:Heap}
theorem Fun.binds {x qual:Str} {st:Stmt} {f:Addr} {fd:FuncData} {ps:List Str} (F:Fun K x qual st f fd)
 (h:∀(kV doc pm:Value)(an:Option Addr)(cdv ct:Value)(us:List Value),us.length=ps.length->bindArgs (fnOf x qual (defArgs st) (defBody st) (defScope st) .none kV doc pm an cdv ct) ⟨us,[]⟩=pure (ps.zip us)):Binds K fd ps []:=by
 obtain⟨oc,od,kV,doc,pm,an,cdv,ct,osl,rfl,lk,hcd⟩:=F.ex;exact .all (h kV doc pm an cdv ct)
theorem fun_mk {st:Stmt} {oc:Value} {od an:Option Addr} {osl:Array (Option Value)} {kV doc pm cdv ct:Value} (l:K.lookup f=some ⟨oc,od,.func (fnOf x qual (defArgs st) (defBody st) (defScope st) .none kV doc pm an cdv ct),osl⟩)
 (c:codeIn K cdv qual=true) (k:keepIn K (.ref f)=true):Fun K x qual st f (fnOf x qual (defArgs st) (defBody st) (defScope st) .none kV doc pm an cdv ct):=⟨⟨oc,od,kV,doc,pm,an,cdv,ct,osl,rfl,l,c⟩,k⟩
end
section
variable{X:Cx}
theorem pv (i:Nat) {x:Str} (hN:X.N[i]? = some x:=by rfl) (hv:Vis X.env.scope x:=by first|exact Or.inl rfl|exact Or.inr (Or.inl rfl)|exact Or.inr (Or.inr rfl)) (hd:(x == ("__debug__" : Str))=false:=by decide)
 (hcd:(x == ("__classdict__" : Str))=false:=by decide):PE X (.Name x pos) (Zl i):=J8 hN hv hd hcd
end
theorem X7{A B:Prop}(h:B):if false=true then A else B:=by
 rw [jg jy];exact h
theorem X8{A B:Prop}(h:A):if true=true then A else B:=by
 rw [je rfl];exact h
def Same(H H':Hp):Prop:=∀b o,H b=some o->H' b=some o
theorem Same.refl(H:Hp):Same H H:=λ_ _ h=>h
theorem Same.trans{H H1 H2:Hp}(a:Same H H1)(b:Same H1 H2):Same H H2:=λc o h=>b c o (a c o h)
theorem Same.free{H H':Hp}(e:Same H H'){l:Addr}(h:H' l=Option.none):H l=Option.none:=by
 cases q:H l with
 |none=>rfl
 |some o=>
  rw [e l o q]at h;cases h
theorem Same.seq{K:Frag}{H H':Hp}{a:Addr}{xs:List V}(e:Same H H')(h:SqL K H a xs):SqL K H' a xs:=by
 rcases h with(h|⟨o,h⟩)|h
 . exact .inl (.inl (e _ _ h))
 . exact .inl (.inr ⟨o,e _ _ h⟩)
 . exact .inr h
end L2
namespace HT
open PySem PySem.W PySem.Calls PyProof.Rows
def de(P:Params)(x:Str)(t:Nat)(v:Value):DictEntry:=⟨PyData.keyHash P x,.str x t,v⟩
def dO(c:Value)(es:List DictEntry)(n:Nat):Obj:=⟨c,none,.dict es.toArray n,#[]⟩
def cO(vs:List Value):Obj:=⟨.type "code",none,.fields vs.toArray,#[]⟩
def fO(x q:Str)(st:Stmt)(dv kv doc pm:Value)(an:Option Addr)(cd ct:Value):Obj:=⟨.type "function",none,.func (fnOf x q (L2.defArgs st) (L2.defBody st) (L2.defScope st) dv kv doc pm an cd ct),#[]⟩
def c3(x q:Str)(t l a n r:Nat)(r2:Nat)(v w:Value)(r3 k k2:Nat):Obj:=cO [.str x t,.str q (t+1),.str "/claim/cut.py" (t+2),.int l 0,.int a 0,.int 0 0,.int 0 0,.int n 0,.ref r,.bool true,.int 181 0,.ref r2,.none,v,w,.ref r3,.int k 0,.int l 0,.str "/claim/cut.py" k2]
def f3(x q:Str)(st:Stmt)(m:Str)(t c:Nat):Obj:=fO x q st .none .none .none (.str m t) none (.ref c) .none
def x3(P:Params)(m:Str)(t a b l c d r e n:Nat):Obj:=dO (.type "dict") [de P "__module__" a (.str m t),de P "__firstlineno__" b (.int l c),de P "__static_attributes__" d (.ref r),de P "__doc__" e .none] n
def k3(x:Str)(a b n r t u:Nat):Obj:=⟨.type "type",none,.cls ⟨x,[.ref b],[.ref a,.ref b,.type "ValueError",.type "Exception",.type "BaseException",.type "object"],n,x,true,[],[],false,none,false⟩,#[some (.ref r),none,some (.str x t),some (.str x u),some (.builtin "ValueError.__new__"),some (.bool true)]⟩
def met{α:Type}(_:α):Bool:=true
noncomputable def ZkO(P:Params):BT:=
 ((((((((((BT.nil.ins 0 (boot_o_0 P)).ins 1 (boot_o_1 P)).ins 2 (boot_o_2 P)).ins 3 (boot_o_3 P)).ins 4 (boot_o_4 P)).ins 5 (boot_o_5 P)).ins 6 (boot_o_6 P)).ins 7 (boot_o_7 P)).ins 8 (boot_o_8 P)).ins 9 (boot_o_9 P)).ins 10 (boot_o_10 P)
noncomputable abbrev S0(w:World)(os:OsState):Shared:=⟨boot_heap w.params,Array.mk [],boot_drawn,boot_toks,os⟩
noncomputable abbrev S0T(w:World)(os:OsState):SharedT:=⟨ZkO w.params,11,(boot_heap w.params).life,Array.mk [],boot_drawn,boot_toks,os⟩
theorem Zm0(w:World)(os:OsState):(S0T w os).abs=S0 w os:=rfl
noncomputable def QP(thr ok:Thread->Bool)(st:SharedT->Thread->Option (SharedT×Thread))(n:Nat):SharedT->Thread->Option SharedT:=
 @Nat.rec (λ_=>SharedT->Thread->Option SharedT) (λ_ _=>none)
  (λ_ ih s t => @Bool.rec (λ_=>Option SharedT) (@Bool.rec (λ_=>Option SharedT) none (@Option.rec (SharedT×Thread) (λ_=>Option SharedT) none (λr=>ih r.1 r.2) (st s t)) (ok t)) (some s) (thr t)) n
theorem ZbF{tb:String->Option Builtin}{n₀:Nat}{ann:Option Value}:∀{n:Nat}{s s':SharedT}{t:Thread},QP through (stepOk n₀ ann) (stepT (denote tb) p w) n s t=some s'->topRun tb p w n₀ ann n s.abs t=some s'.abs
 |0,_,_,_,h=>by cases h
 |n+1,s,s',t,h=>by
  replace h : @Bool.rec (λ_=>Option SharedT) (@Bool.rec (λ_=>Option SharedT) none (@Option.rec (SharedT×Thread) (λ_=>Option SharedT) none (λr=>QP through (stepOk n₀ ann) (stepT (denote tb) p w) n r.1 r.2) (stepT (denote tb) p w s t)) (stepOk n₀ ann t)) (some s) (through t)=some s':=h;unfold topRun;cases ht:through t with
  |true=>rw [ht]at h;cases h;rfl
  |false=>
   rw [ht]at h;cases hk:stepOk n₀ ann t with
   |false=>rw [hk]at h;cases h
   |true=>
    rw [hk]at h;cases hs:stepT (denote tb) p w s t with
    |none=>rw [hs]at h;cases h
    |some r=>obtain⟨s₂,t₂⟩:=r;rw [hs]at h;rw [stepT_spec hs];exact ZbF h
theorem left_of {p q:Program} {Xt:Shared->Bool} {α:Type} {Yf:Shared->α} {Ya:World->α} {N:Nat}
 (e:opening p=plainProg p.main.scope.names) (hN:Nat.ble 600 N=true) (f:∀s,fenceModules? p s=some s)
 (run:∀w:World,(λos=>(QP through (stepOk 11 (some (.ref 6))) (stepT (denote treeTable) p w) N (S0T w os) (topStub p)).map λs=>((staticsOk (importedModules p.main.body) (boot_heap w.params) s.abs.heap&&namesBound p s.abs.heap&&gensDone s.abs&&laidKept (boot_heap w.params) s.abs.heap),
   openSeen q loose (importedModules p.main.body) Xt true s.abs,Yf s.abs))=λ_=>some (true,openGood q loose,Ya w)):LeftO p q loose Xt Yf Ya N:=λw=>by
 obtain⟨⟨h,gs,d,k,os⟩,e,e'⟩:=qf.mp (boot_open e hN f w);obtain⟨rfl,rfl,rfl,rfl⟩:h=boot_heap w.params/\gs=Array.mk []/\d=boot_drawn/\k=boot_toks:=by simpa using e'
 obtain⟨s1,r,l⟩:=qf.mp (congrFun (run w) os);obtain⟨l1,l2,l3⟩:_/\_/\_:=by simpa only [Prod.mk.injEq]using l
 have r:=ZbF r;rw [Zm0]at r;have z1:((boot_heap w.params).isNs mainGlobals&&(Array.mk []:Array GenState).size == 0)=true:=by kernel_rfl
 have z2:(boot_heap w.params).objs.size=11:=rfl;have z3:(boot_heap w.params).nsMap mainGlobals "__annotations__" = some (.ref 6):=by kernel_rfl
 have t:topFrom treeTable p w N (S0 w os)=some s1.abs:=by
  unfold topFrom;dsimp only;rw [z1,z2,z3,r];show(match staticsOk (importedModules p.main.body) (boot_heap w.params) s1.abs.heap&&namesBound p s1.abs.heap&&gensDone s1.abs&&laidKept (boot_heap w.params) s1.abs.heap with|true=>_|false=>_)=_;rw [l1]
 unfold openEnds;rw [e];show(topFrom treeTable p w N _).map _=_;rw [t];exact congrArg some (Prod.ext l2 l3)
end HT
namespace L2
open PySem Builtin Builtin.Str
abbrev tx(cs:List Nat):Str:=⟨cs.toArray⟩
theorem tx_inj{a b:List Nat}:tx a=tx b ↔ a=b:=by
 constructor
 . intro h
   have h2:a.toArray=b.toArray:=congrArg Str.cps h;simpa using h2
 . rintro rfl;rfl
theorem ZfP(cs:List Nat):(tx cs).cps.toList=cs:=by simp [tx]
theorem YX(cs:List Nat):(tx cs).length=cs.length:=by simp [tx,Str.length]
theorem QQ(a b:List Nat):tx a++tx b=tx (a++b):=by
 show Str.mk (a.toArray++b.toArray)=Str.mk (a++b).toArray;simp
def Zm1(c:Nat):Bool:=decide (48<=c)&&decide (c<=57)
def Zm2(cs:List Nat):Nat:=cs.foldl (λacc c=>acc*10+(c-48)) 0
def Xd(sep:List Nat):List (List Nat)->List Nat
 | []=>[]
 | [x]=>x
 |x::y::r=>x++sep++Xd sep (y::r)
theorem QR(sep:List Nat):∀l:List (List Nat),Str.join (tx sep) (l.map tx)=tx (Xd sep l)
 | []=>rfl
 | [x]=>rfl
 |x::y::r=>by
  show tx x++tx sep++Str.join (tx sep) ((y::r).map tx)=_;rw [QR sep (y::r),QQ,QQ];rfl
theorem ZaV:∀l:List (List Nat),Xd [] l=l.flatten
 | []=>rfl
 | [x]=>by simp [Xd]
 |x::y::r=>by
  show x++[]++Xd [] (y::r)=_;rw [ZaV (y::r)];simp
end L2
namespace L2
open PySem PySem.Spec PyProof.Rows
section
variable{prog:Program}{w:World}{A:Around}{R:Result->Shared->Prop}{s:Shared}
theorem Zbn {elt target iter:Expr} {ifs:List Expr} {scope:Scope} {it acc:Value} (I:Nat->Shared->Prop)
 (turn:∀n s,I n s->wpAny 'h' A (pyNext it) (λr s₁=>match r with
   |none=>R (.ok .next) s₁
   |some v=>wpAny 'h' A (letOwnedTupleGo target it v) (λ_ s₀=>wpAny 'h' A (assign target env v) (λ_ s₂=>
    wpAny 'h' A (forIn ifs true λc r=>if r=true then do let ok <-isTrue c env (eval c env);pure (ForInStep.yield ok)else pure (ForInStep.yield r)) (λok s₃=>
     if ok=true then wpAny 'h' A (eval elt env) (λx s₄=>
      wpAny 'h' A (call (.builtin "list.append") [acc,x]) (λ_ s₅=>∃m,m<n/\I m s₅) (notedBy 'h' A env λe s'=>R (.error e) s') s₄) (notedBy 'h' A env λe s'=>R (.error e) s') s₃
     else ∃m,m<n/\I m s₃) (notedBy 'h' A env λe s'=>R (.error e) s') s₂) (notedBy 'h' A env λe s'=>R (.error e) s') s₀) (notedBy 'h' A env λe s'=>R (.error e) s') s₁) (notedBy 'h' A env λe s'=>R (.error e) s') s)
 (n:Nat) (h:I n s) :
 codeAny 'h' A (.compLoop (.ListComp elt [⟨target,iter,ifs,0⟩] scope pos) 0 it acc env) R s:=by
 refine codeAny_loop rfl I (λn s hI => ?_) n h;show wpAny _ A ((compTurn (.ListComp elt [⟨target,iter,ifs,0⟩] scope pos) 0 it acc env).onRaise (λx=>do noteFrame x env;theTreesLotGoes x)) _ _ s;refine wpAny_noted ?_;rw [compTurn_list];refine jb (wpAny_standAt (jb (qJ (turn n s hI) (λr s₁ h₁ => ?_) λ_ _ h'=>h')));cases r with
 |none=>exact jf h₁
 |some v=>
  refine jb (qJ h₁ (λ_ s₀ h₀ => ?_) λ_ _ h'=>h');refine jb (qJ h₀ (λ_ s₂ h₂=>jb (qJ h₂ (λok s₃ h₃ => ?_) λ_ _ h'=>h')) λ_ _ h'=>h');cases ok with
  |false=>exact jf ⟨rfl,h₃⟩
  |true=>
   exact jb (jb (qJ h₃ (λx s₄ h₄=>jb (qJ h₄ (λ_ s₅ h₅=>jf (jf ⟨rfl,h₅⟩)) λ_ _ h'=>h')) λ_ _ h'=>h'))
end
def Yj(cells:List (Str×Addr)):List (Str×NameKind)->List (Str×Addr)->List (Str×Addr)
 | [],acc=>acc
 |(n,k)::r,acc=>Yj cells r (if(k == .free)=true then(n,(cells.lookup n).getD 0)::acc else acc)
theorem QS{env:Env}:∀(names:List (Str×NameKind))(acc:List (Str×Addr)),(∀x∈names,x.2 = .free->∃c,env.cells.lookup x.1=some c) ->
 (forIn names acc λ(x:Str×NameKind) (r:List (Str×Addr))=>match x with
   |(name,kind)=>if(kind == .free)=true then(do let c <-cellOf env name;pure (ForInStep.yield ((name,c)::r)))else pure (ForInStep.yield r))=(pure (Yj env.cells names acc):Sem _)
 | [],acc,_=>rfl
 |(n,k)::r,acc,h=>by
  rw [List.forIn_cons];show((if(k == .free)=true then(do let c <-cellOf env n;pure (ForInStep.yield ((n,c)::acc)))else pure (ForInStep.yield acc)) >>= _)=_
  by_cases hk:(k == .free)=true
  . obtain⟨c,hc⟩:=h (n,k) jj (by simpa using hk)
    have e:cellOf env n=pure c:=by
     unfold cellOf;rw [hc]
    rw [je hk,e];show(forIn r ((n,c)::acc) _:Sem _)=_;rw [QS r _ λx hx=>h x (jq _ hx)]
    conv=>rhs;unfold Yj
    rw [je hk,hc];rfl
  . rw [jg hk]
    show(forIn r acc _:Sem _)=_;rw [QS r _ λx hx=>h x (jq _ hx)]
    conv=>rhs;unfold Yj
    rw [jg hk]
theorem Zae{scope:Scope}{env:Env}(h:∀x∈scope.names,x.2 = .free->∃c,env.cells.lookup x.1=some c):closureFor scope env=pure (Yj env.cells scope.names []):=by
 have e:=QS (env:=env) scope.names [] h;unfold closureFor;show((forIn scope.names ([]:List (Str×Addr)) _:Sem _) >>= λcs=>pure cs)=_
 have e2:(forIn scope.names ([]:List (Str×Addr)) λ(x:Str×NameKind) (r:List (Str×Addr))=>match x with
  |(name,kind)=>if(kind == .free)=true then(do let c <-cellOf env name;pure (ForInStep.yield ((name,c)::r)))else pure (ForInStep.yield r))=(pure (Yj env.cells scope.names []):Sem _):=e
 rw [e2];rfl
theorem Xe{cells:List (Str×Addr)}{c:Addr}:∀(names:List (Str×NameKind))(acc:List (Str×Addr)),(∀y∈names,y.2 = .free->∃c,cells.lookup y.1=some c) ->
 (∀c,acc.lookup x=some c->cells.lookup x=some c)->(Yj cells names acc).lookup x=some c->cells.lookup x=some c
 | [],acc,_,ha,h=>ha c h
 |(n,k)::r,acc,hf,ha,h=>by
  unfold Yj at h;refine Xe r _ (λy hy=>hf y (jq _ hy)) (λc' h' => ?_) h
  by_cases hk:(k == .free)=true
  . rw [je hk]at h'
    obtain⟨c0,hc0⟩:=hf (n,k) jj (by simpa using hk);rw [jS]at h';cases hx:x == n with
    |true=>
     rw [hx]at h';have e:x=n:=eq_of_beq hx;subst e;have h'':(cells.lookup x).getD 0=c':=jo h';have hc0':cells.lookup x=some c0:=hc0;rw [hc0']at h'' ⊢;exact congrArg some h''
    |false=>
     rw [hx]at h';exact ha c' h'
  . rw [jg hk]at h'
    exact ha c' h'
theorem QT{cells:List (Str×Addr)}{x:Str}:∀(names:List (Str×NameKind))(acc:List (Str×Addr)),((x,NameKind.free)∈names\/∃c,acc.lookup x=some c)->∃c,(Yj cells names acc).lookup x=some c
 | [],acc,h=>by
  rcases h with h|h
  . cases h
  . exact h
 |(n,k)::r,acc,h=>by
  unfold Yj;refine QT r _ ?_;rcases h with h|⟨c,h⟩
  . rcases jA.mp h with e|e
    . cases e
      refine .inr ⟨(cells.lookup x).getD 0,?_⟩;rw [je (by rfl),jS];simp
    . exact .inl e
  . refine .inr ?_
    by_cases hk:(k == .free)=true
    . rw [je hk,jS]
      cases hx:x == n with
      |true=>exact⟨_,rfl⟩
      |false=>exact⟨c,h⟩
    . rw [jg hk]
      exact⟨c,h⟩
structure CompSc(X:Cx)(scope:Scope)(tn cn:List Str)(js:List Nat):Prop where
 kind:scope.kind = .function
 nocell:∀y∈scope.names,y.2 ≠ .cell
 names:∀y∈scope.names,y.2 = .local->scope.names.lookup y.1=some .local
 free:∀y∈scope.names,y.2 = .free->X.env.kindOf y.1=some .cell\/X.env.kindOf y.1=some .free
 cap:∀(k:Nat)(x:Str),cn[k]? = some x->∃j,js[k]? = some j/\X.N[j]? = some x/\(X.env.kindOf x=some .cell\/X.env.kindOf x=some .free)/\scope.names.lookup x=some .free
 len:cn.length=js.length
def ZcH(onames:List (Str×NameKind))(oN:List Str)(names:List (Str×NameKind))(cn:List Str)(js:List Nat):Bool:=
 names.all (λy => !(y.2 == .cell))&&names.all (λy => !(y.2 == .local)||(names.lookup y.1 == some .local)) &&
 names.all (λy => !(y.2 == .free)||(onames.lookup y.1 == some .cell||onames.lookup y.1 == some .free)) &&
 ((cn.zip js).all λp=>oN[p.2]? == some p.1&&(onames.lookup p.1 == some .cell||onames.lookup p.1 == some .free)&&names.lookup p.1 == some .free)&&(cn.length == js.length)
theorem CompSc.mk'{X:Cx}{scope:Scope}{tn cn:List Str}{js:List Nat}{osc:Scope}{oN:List Str}(hk:scope.kind = .function)(ho:X.env.scope=osc)(hN:X.N=oN)(h:ZcH osc.names oN scope.names cn js=true):CompSc X scope tn cn js:=by
 unfold ZcH at h;simp only [jV]at h;obtain⟨⟨⟨⟨h1,h2⟩,h3⟩,h4⟩,h5⟩:=h;rw [jT]at h1 h2 h3 h4;have hlen:cn.length=js.length:=by simpa using h5
 refine⟨hk,λy hy => ?_,λy hy e => ?_,λy hy e => ?_,λk x e => ?_,hlen⟩
 . have:=h1 y hy
   simpa using this
 . have:=h2 y hy
   simpa [e]using this
 . have:=h3 y hy
   unfold Env.kindOf;rw [ho];simpa [e]using this
 . have hkl:k<cn.length:=(jt.mp e).1
   have hkj:k<js.length:=by omega
   refine⟨js[k],by simp [hkj],?_⟩
   have hz:(x,js[k])∈cn.zip js:=by
    have e2:(cn.zip js)[k]? = some (x,js[k]):=by
     rw [List.getElem?_zip_eq_some];exact⟨e,by simp [hkj]⟩
    exact jI e2
   have:=h4 _ hz;unfold Env.kindOf;rw [ho,hN];simp only [jV,Bool.or_eq_true,beq_iff_eq]at this;exact⟨this.1.1,this.1.2,this.2⟩
def XD(σ:St)(js:List Nat):St:=js.map λj=>(σ[j]?).getD none
def blk(n:Nat)(σ:St)(js:List Nat):St:=List.replicate n none++XD σ js
def X9(X:Cx)(scope:Scope)(N':List Str)(C:Addr)(s₂:Shared)(H₂:Hp)(fp:List Addr)(xe:Value->Shared->Prop):Cx:=
 { X with N:=N',s₀:=s₂,H₀:=H₂,env:=compEnvC scope (Yj X.env.cells scope.names []) C X.env,outer:=X.stack,ex:=fp,fn:=λ_=>false,pn:=[],xe:=xe }
section
variable{X:Cx}{pins:List 'g'}{σ:St}{H₂:Hp}{s₂:Shared}{scope:Scope}{tn cn:List Str}{js:List Nat}
theorem CompSc.clos(S:CompSc X scope tn cn js)(ok:X.Ok):∀y∈scope.names,y.2 = .free->∃c,X.env.cells.lookup y.1=some c:=λy hy e=>ok.has y.1 (S.free y hy e)
theorem QU{env:Env}:∀{names:List (Str×NameKind)}{x:Str}{k:NameKind},(names.map λ(n,k)=>if(k == NameKind.free&&env.scope.kind == .function&&env.kindOf n == some .cell)then(n,NameKind.cell)else(n,k)).lookup x=some k ->
 (k = .cell\/k = .free)->(∀y∈names,y.2 ≠ .cell)->(x,NameKind.free)∈names
 | [],_,_,h,_,_=>by simp at h
 |(n,k0)::r,x,k,h,hk,hc=>by
  have ih := @QU env r x k;have h:List.lookup x ((if(k0 == NameKind.free&&env.scope.kind == .function&&env.kindOf n == some .cell)=true then(n,NameKind.cell)else(n,k0))::_)=_:=h
  by_cases hb:(k0 == NameKind.free&&env.scope.kind == .function&&env.kindOf n == some .cell)=true
  . rw [je hb,jS]at h
    have e0:k0 = .free:=by
     simp only [jV]at hb;simpa using hb.1.1
    cases hx:x == n with
    |true=>
     have e:x=n:=eq_of_beq hx;subst e;subst e0;exact jj
    |false=>
     rw [hx]at h;exact jq _ (ih h hk λy hy=>hc y (jq _ hy))
  . rw [jg hb,jS]at h
    cases hx:x == n with
    |true=>
     rw [hx]at h;have e:x=n:=eq_of_beq hx;have e0:k0=k:=jo h;subst e;subst e0;rcases hk with hk|hk
     . exact absurd hk (hc (x,k0) jj)
     . subst hk
       exact jj
    |false=>
     rw [hx]at h;exact jq _ (ih h hk λy hy=>hc y (jq _ hy))
theorem Zaj{env:Env}:∀{names:List (Str×NameKind)}{x:Str},names.lookup x=some .free ->
 (names.map λ(n,k)=>if(k == NameKind.free&&env.scope.kind == .function&&env.kindOf n == some .cell)then(n,NameKind.cell)else(n,k)).lookup x=some .cell \/
 (names.map λ(n,k)=>if(k == NameKind.free&&env.scope.kind == .function&&env.kindOf n == some .cell)then(n,NameKind.cell)else(n,k)).lookup x=some .free
 | [],_,h=>by simp at h
 |(n,k0)::r,x,h=>by
  have ih := @Zaj env r x
  show List.lookup x ((if(k0 == NameKind.free&&env.scope.kind == .function&&env.kindOf n == some .cell)=true then(n,NameKind.cell)else(n,k0))::_)=_ \/
   List.lookup x ((if(k0 == NameKind.free&&env.scope.kind == .function&&env.kindOf n == some .cell)=true then(n,NameKind.cell)else(n,k0))::_)=_
  cases hx:x == n with
  |true=>
   simp only [jS,hx]at h;cases h
   by_cases hb:(NameKind.free == NameKind.free&&env.scope.kind == .function&&env.kindOf n == some .cell)=true
   . rw [je hb];simp [jS,hx]
   . rw [jg hb];simp [jS,hx]
  |false=>
   simp only [jS,hx]at h
   by_cases hb:(k0 == NameKind.free&&env.scope.kind == .function&&env.kindOf n == some .cell)=true
   . rw [je hb];simp only [jS,hx];exact ih h
   . rw [jg hb];simp only [jS,hx];exact ih h
theorem ZgS{C:Addr}{fp:List Addr}{xe:Value->Shared->Prop}(S:CompSc X scope tn cn js)(I:Inv X pins σ H₂ s₂)(hC:s₂.heap.objs.size<=C)(hf:∀b∈fp,Ys X pins H₂ b)(ho:∀b∈fp,∃o,s₂.heap.get? b=some o/\∀v,o.data ≠ .cell v) :
 (X9 X scope (tn++cn) C s₂ H₂ fp xe).Ok where
 mod:=I.ok.mod
 kind:=S.kind
 glob:=I.ok.glob
 blt:=I.ok.blt
 above:=hC
 inj:=λx y c h1 h2=>I.ok.inj x y c (Xe _ [] (S.clos I.ok) 'l' h1) (Xe _ [] (S.clos I.ok) 'l' h2)
 has:=λx hx=>by
  refine QT _ _ (.inl ?_);rcases hx with hx|hx
  . exact QU (env:=X.env) (k:=.cell) hx (Or.inl (Eq.refl NameKind.cell)) S.nocell
  . exact QU (env:=X.env) (k:=.free) hx (Or.inr (Eq.refl NameKind.free)) S.nocell
 cab:=λx c h _=>by cases h
 hd:=I.ok.hd
 frames:=I.ok.frames
 stk := .inl rfl
 exf:=λb hb=>by
  obtain⟨o,e,_⟩:=ho b hb;obtain⟨_,_,_,_,f4,_⟩:=hf b hb;exact⟨jQ (jJ (jz e) hC),λx c h=>f4 x c (Xe _ [] (S.clos I.ok) 'l' h)⟩
 bs:=I.bs
 bsz:=jL I.ok.bsz I.sz
 noex:=λb o e hb=>by
  obtain⟨_,_,_,f3,_,_⟩:=hf b hb;rcases f3 with z|z
  . exact I.ok.noex b o e z
  . exact absurd (jJ (jz (I.ok.bs b o e).1) z) (qO _)
 exfs:=λb hb z=>by
  obtain⟨_,f1,f2,_,_,_⟩:=hf b hb;exact(jA.mp (I.stkSub b z)).elim f1 f2
 funs:=I.stack
 frf:=I.stkFree
 tb:=I.tabs
theorem ZaW {fp:List Addr} {s:Shared} (S:CompSc X scope tn cn js) (I:Inv X pins σ H₂ s₂) (hf:∀b∈fp,Ys X pins H₂ b)
 (u:Un (frs X.stack) fp H₂ H s₂.heap s.heap) :
 ∀(i:Nat)(x:Str)(v:V),(tn++cn)[i]? = some x->(blk tn.length σ js)[i]? = some (some v)->∃z,RelV v z/\J5 (compEnvC scope (Yj X.env.cells scope.names []) C X.env) s.heap m x z:=by
 intro i x v e1 e2;unfold blk at e2
 by_cases hi:i<tn.length
 . rw [jD (by simpa using hi),j5,je hi]at e2
   cases e2
 . have hi':tn.length<=i:=by omega
   rw [jG hi']at e1;rw [jG (by simpa using hi'),jH]at e2;obtain⟨j,hj,hN,hk,hm⟩:=S.cap _ _ e1;unfold XD at e2;rw [ji,hj]at e2;have e3:(σ[j]?).getD none=some v:=jo e2
   have e4:σ[j]? = some (some v):=by
    cases q:σ[j]? with
    |none=>rw [q]at e3;cases e3
    |some z=>rw [q]at e3;exact congrArg some e3
   obtain⟨m0,_,hl⟩:=I.loc
   have hv:Vis X.env.scope x:=by
    rcases hk with hk|hk
    . exact .inr (.inl hk)
    . exact .inr (.inr hk)
   obtain⟨z,rz,l⟩:=hl j x v hN e4 hv;refine⟨z,rz,?_⟩
   obtain⟨c,hc,ob,ho,hd⟩:∃c,X.env.cells.lookup x=some c/\s₂.heap.IsCell c (some z):=by
    rcases l with⟨k,_⟩|⟨_,c,hc,q⟩
    . rcases hk with hk|hk
      . rw [hk]at k;cases k
      . rw [hk]at k;cases k
    . exact⟨c,hc,q⟩
   obtain⟨c',hc'⟩:=QT (cells:=X.env.cells) (x:=x) scope.names [] (.inl (j6 hm))
   have ec:c'=c:=by
    have:=Xe _ [] (S.clos I.ok) 'l' hc';rw [hc]at this;exact(jo this).symm
   subst ec;have nf:c'∉fp:=λhb=>(hf c' hb).2.2.2.2.1 x c' hc rfl
   obtain⟨sl,q⟩:=u.any ho (I.freeC x c' hc) nf;exact .inr ⟨Zaj hm,c',hc',⟨_,q,hd⟩⟩
theorem blk_len(S:CompSc X scope tn cn js):(blk tn.length σ js).length=(tn++cn).length:=by
 unfold blk XD;rw [jc,jc,jH,ja,S.len]
theorem Zcf {fp:List Addr} {xe:Value->Shared->Prop} (S:CompSc X scope tn cn js) (I:Inv X pins σ H₂ s₂) (hf:∀b∈fp,Ys X pins H₂ b)
 (I':Inv (X9 X scope (tn++cn) C s₂ H₂ fp xe) pins' σ' H s):Inv (X9 X scope (tn++cn) C s₂ H₂ fp xe) pins' (blk tn.length σ js) H s:=by
 obtain⟨m,hn,_⟩:=id I'.loc;exact⟨I'.ok,I'.os,I'.bare,I'.base,⟨m,hn,λi x v e1 e2 _=>ZaW S I hf I'.base i x v e1 e2⟩,I'.cell,I'.free,I'.freeC,I'.pin,I'.hok,blk_len S,I'.fzs⟩
theorem Zcg {C D:Addr} {fp:List Addr} {xe:Value->Shared->Prop} {h:Heap} {tk:Nat} {ob:Obj} (S:CompSc X scope tn cn js) (I:Inv X pins σ H₂ s₂) (hC:s₂.heap.objs.size<=C) (hD:s₂.heap.objs.size<=D) (hDC:D≠C)
 (hf:∀b∈fp,Ys X pins H₂ b) (ho:∀b∈fp,∃o,s₂.heap.get? b=some o/\∀v,o.data ≠ .cell v) (k:∀b o,s₂.heap.get? b=some o->h.get? b=some o) (hn:h.Ns C m) (hob:h.get? D=some ob) (hcell:∀v,ob.data ≠ .cell v) :
 Inv (X9 X scope (tn++cn) C s₂ H₂ fp xe) [(D,ob)] (blk tn.length σ js) H₂ { s₂ with heap:=h,toks:=tk }:=by
 have ok:=ZgS (xe:=xe) S I hC hf ho;have u:Un (frs X.stack) fp H₂ H₂ s₂.heap h:=Un.kept k;refine⟨ok,rfl,I.bare,u,⟨m,hn,λi x v e1 e2 _=>ZaW (s:={ s₂ with heap:=h,toks:=tk }) S I hf u i x v e1 e2⟩,λx c e => ?_,I.hok.fresh hC,λx c e => ?_,λp hp => ?_,I.hok.kept k,blk_len S,I.fzs⟩
 . obtain⟨v,o,q,d⟩:=I.cell x c (Xe _ [] (S.clos I.ok) 'l' e)
   exact⟨v,o,k c o q,d⟩
 . exact I.freeC x c (Xe _ [] (S.clos I.ok) 'l' e)
 . have e : p = (D, ob) := by
    have:p∈([]:List 'g')++[(D,ob)]:=hp;simpa using this
   subst e;refine⟨hob,I.hok.fresh hD,hDC,λz => ?_,hcell⟩;have z:D∈frs X.stack:=z;rcases jA.mp (I.stkSub D z)with e|e
   . exact absurd (jJ I.lt (by rw [<-e];exact hD)) (qO _)
   . exact I.nofs hD e
theorem ZbG {C D:Addr} {fp:List Addr} {xe:Value->Shared->Prop} {s:Shared} {ys:List V} {its:List Value} {n:Nat} {h':Heap} (S:CompSc X scope tn cn js) (I:Inv X pins σ H₂ s₂) (hC:s₂.heap.objs.size<=C) (hD:s₂.heap.objs.size<=D) (hDC:D≠C)
 (hf:∀b∈fp,Ys X pins H₂ b) (I':Inv (X9 X scope (tn++cn) C s₂ H₂ fp xe) [(D,{ cls := .type "list",data := .seq its.toArray n })] σ' H s) (hv:Vals ys its) (hz:ys.length<=sizeLine) (hs:Heap.SameBut C s.heap h') :
 Inv X pins σ (upd H D (.lst ys)) { s with heap:=h' }:=by
 have pd:=I'.pin (D,{ cls := .type "list",data := .seq its.toArray n }) (jw _ jj);have pd1:s.heap.get? D=some { cls := .type "list",data := .seq its.toArray n }:=pd.1;have pd2:H D=none:=pd.2.1;have hD':h'.get? D=some { cls := .type "list",data := .seq its.toArray n }:=(hs.2 D hDC).trans pd1;have hCf:H C=none:=I'.free;have old:∀b o,s₂.heap.get? b=some o->b≠C/\b≠D:=λb o e=>⟨jQ (jJ (jz e) hC),jQ (jJ (jz e) hD)⟩
 have u:=I'.base;have u:Un (frs X.stack) fp H₂ H s₂.heap s.heap:=u;refine I.call' (s':={ s with heap:=h' }) (ch:=fp) (H':=upd H D (.lst ys)) I'.os ⟨λb o e n hb hx => ?_,λb o e n hb hx => ?_,λb o e n hx => ?_,λb o e hx => ?_,λb xs e => ?_,λb o xs e => ?_,λb ps e => ?_⟩ (λb o e => ?_) I'.bare (λb hb => ?_)
 . exact(hs.2 b (old b o e).1).trans (u.keep b o e n hb hx)
 . obtain⟨sl,q⟩:=u.slot b o e n hb hx
   exact⟨sl,(hs.2 b (old b o e).1).trans q⟩
 . rw [Zc (old b o e).2]
   exact u.free b o e n hx
 . obtain⟨o',q⟩:=u.there b o e hx
   exact⟨o',(hs.2 b (old b o e).1).trans q⟩
 . have q:=u.tups b xs e
   rw [Zc (Zx q pd2)];exact q
 . have q:=u.frzs b o xs e
   rw [Zc (Zx q pd2)];exact q
 . obtain⟨more,q⟩:=u.tbls b ps e
   exact⟨more,by rw [Zc (Zx q pd2)];exact q⟩
 . by_cases hb:b=D
   . subst hb
     rw [Zi]at e;cases e;exact⟨hz,its,n,hv,hD'⟩
   . rw [Zc hb]at e
     refine(I'.hok b o e).stay (λc v hc q=>(hs.2 c ?_).trans q) (λc q=>by rw [Zc (Zx q pd2)];exact q) λc xs q=>by rw [Zc (Zx q pd2)];exact q
     rintro rfl
     rcases hc with rfl|hc
     . rw [hCf]at e;cases e
     . rw [hCf]at hc;cases hc
 . obtain⟨f0,f1,f2,f3,f4,f5⟩:=hf b hb
   exact⟨f3,f1,f4,f5⟩
end
def PTs(X:Cx)(ifs:List Expr)(t:TT):Prop:=
 ∀(pins:List 'g')(s:Shared)(σ:St)(H:Hp)(Q:Bool->Hp->Prop),Inv X pins σ H s->t σ H Q ->
  wpAny 'e' X.A (forIn ifs true λc r=>if r=true then do let ok <-isTrue c X.env (eval c X.env);pure (ForInStep.yield ok)else pure (ForInStep.yield r)) (TP X pins σ Q) X.xe s
def tYes:TT:=λ_ H Q=>Q true H
theorem ZcI:PTs X [] tYes:=λ_ _ _ H _ I h=>wpAny_tests_nil ⟨H,I,h⟩
theorem ZgT{c:Expr}(h:PT X c t):PTs X [c] t:=λpins s σ H Q I q=>wpAny_tests_one (h pins s σ H Q I q)
def VB(wi:TI)(g:TG)(tt:TT)(te:TE)(n:Nat)(js:List Nat):TE:=λσ H Q=>wi σ H λJ H1=>
 ∃W:Nat->Nat->List V->Hp->Prop,(∃m,W 0 m [] H1)/\∀i m ys H,W i m ys H ->
  (J.stop i H/\∀p,H p=none->Q (.ref p) (upd H p (.lst ys))) \/
  (J.go i H/\∀x H',J.yld i H x H'->g x (blk n σ js) H' λσ2 H2=>tt σ2 H2 λb H3=>
    if b=true then te σ2 H3 λy H4=>ys.length<sizeLine/\∃m',m'<m/\W (i+1) m' (ys++[y]) H4 else ∃m',m'<m/\W (i+1) m' ys H3)
section
variable{X:Cx}{tg iter elt:Expr}{ifs:List Expr}{scope:Scope}{pos:Pos}{wi:TI}{g:TG}{tt:TT}{te:TE}{tn cn:List Str}{js:List Nat}
abbrev YG(X:Cx)(scope:Scope)(N':List Str)(C:Addr)(s₂:Shared)(H₂:Hp)(fp:List Addr):Cx:=X9 X scope N' C s₂ H₂ fp λ_ _=>False
theorem Va{α:Type}{M:Model}{m:Sem α}{Q:α->Shared->Prop}{E:Value->Shared->Prop}(h:wpAny M A m Q (λ_ _=>False) s):wpAny M A m Q E s:=qJ h (λ_ _ q=>q) λ_ _ z=>z.elim
theorem Zaz {s₂:Shared} {fp:List Addr} {tnx:Nat->Heap->Prop} {J:It} {E:Value->Shared->Prop} {RR:Value->Addr->Result->Shared->Prop} {W:Nat->Nat->List V->Hp->Prop} {m0:Nat}
 (hc:X.calm=true) (S:CompSc X scope tn cn js)
 (hg:∀C s₂ H₂ fp,PG (YG X scope (tn++cn) C s₂ H₂ fp) tg g) (ht:∀C s₂ H₂ fp,PTs (YG X scope (tn++cn) C s₂ H₂ fp) ifs tt) (he:∀C s₂ H₂ fp,PE (YG X scope (tn++cn) C s₂ H₂ fp) elt te)
 (I2:Inv X pins σ H₂ s₂) (T:Turn X.prog X.w X.K tg J fp it tnx) (st2:tnx 0 s₂.heap) (f2:∀b∈fp,Ys X pins H₂ b) (w0:W 0 m0 [] H₂)
 (turn:∀i m ys H,W i m ys H->(J.stop i H/\∀C D s its n σ',s₂.heap.objs.size<=C->s₂.heap.objs.size<=D->D≠C->Vals ys its->ys.length<=sizeLine ->
   Inv (YG X scope (tn++cn) C s₂ H₂ fp) [(D,{ cls := .type "list",data := .seq its.toArray n })] σ' H s->RR (.ref D) C (.ok .next) s) \/
   (J.go i H/\∀x H',J.yld i H x H'->g x (blk tn.length σ js) H' λσ2 H2=>tt σ2 H2 λb H3=>
     if b=true then te σ2 H3 λy H4=>ys.length<sizeLine/\∃m',m'<m/\W (i+1) m' (ys++[y]) H4 else ∃m',m'<m/\W (i+1) m' ys H3)) :
 wpAny 'e' X.A (newList []) (λacc s₃=>wpAny 'e' X.A (newFunctionEnv scope X.env.globals (Yj X.env.cells scope.names []) [] X.env.qual none .none (some X.env)) (λcenv s₄=>
  codeAny 'e' X.A (.compStart (.ListComp elt [⟨tg,iter,ifs,0⟩] scope pos) 0 (.ref it) acc { cenv with scope:=relabel scope X.env }) (RR acc cenv.locals) s₄) E s₃) E s₂:=by
 refine j4 (wpAny_newFunctionEnv S.nocell (by intro y hy;simp at hy) (λh₁ hns₁ hsb₁ => ?_) S.kind);dsimp only at hns₁ hsb₁ ⊢;generalize hH2:s₂.heap.push { cls := .type "list",dict:=none,data := .seq ([]:List Value).toArray }=HH at hns₁ hsb₁ ⊢;have hCs:HH.objs.size=s₂.heap.objs.size+1:=by rw [<-hH2,yg]
 have hDC:s₂.heap.objs.size≠HH.objs.size:=by rw [hCs];exact jQ (uB _)
 have hC:s₂.heap.objs.size<=HH.objs.size:=by rw [hCs];exact Nat.le_succ _
 have hD:s₂.heap.objs.size<=s₂.heap.objs.size:=jk _;have old:∀b o,s₂.heap.get? b=some o->h₁.get? b=some o:=λb o e=>hsb₁.extBut b o (by rw [hCs];exact jQ (Nat.lt_succ_of_lt (jz e))) (jh _ (hH2▸jh _ e))
 have hacc:h₁.get? s₂.heap.objs.size=some { cls := .type "list",dict:=none,data := .seq ([]:List Value).toArray }:=hsb₁.extBut _ _ hDC (jh _ (hH2▸jr _ rfl));have hob:=T.obj _ _ st2
 have I3:Inv (YG X scope (tn++cn) HH.objs.size s₂ H₂ fp) [(s₂.heap.objs.size,{ cls := .type "list",dict:=none,data := .seq ([]:List Value).toArray })] (blk tn.length σ js) H₂ { s₂ with heap:=h₁,toks:=s₂.toks+([]:List (Str×Value)).length }:=
  Zcg S I2 hC hD hDC f2 hob old hns₁ hacc (λv z=>by cases z)
 have st3:tnx 0 h₁:=T.keep _ _ _ st2 λb hb o e=>old b o e
 generalize hX':YG X scope (tn++cn) HH.objs.size s₂ H₂ fp=X' at I3;generalize hs3:({ s₂ with heap:=h₁,toks:=s₂.toks+([]:List (Str×Value)).length }:Shared)=s3 at I3 ⊢;have st3':tnx 0 s3.heap:=by rw [<-hs3];exact st3
 have stat:∀{pins':List 'g'}{H':Hp},(∀b∈fp,H' b=none)->(∀p∈pins',p.1=s₂.heap.objs.size)->∀b∈fp,Ys X' pins' H' b:=λ{pins' H'} hn hp b hb=>by
  subst hX';obtain⟨o,e,_⟩:=hob b hb;obtain⟨f0,f1,f2',f3,f4,f5⟩:=f2 b hb;refine⟨hn b hb,jQ (jJ (jz e) hC),λz=>(jA.mp (I2.stkSub b z)).elim f1 f2',.inl hb,λx c h=>f4 x c (Xe _ [] (S.clos I2.ok) 'l' h),λp hpp => ?_⟩
  have:p∈pins':=by
   have q:p∈([]:List 'g')++pins':=hpp;simpa using q
  rw [hp p this];exact yf (jz e)
 have loop:codeAny 'e' X.A (.compLoop (.ListComp elt [⟨tg,iter,ifs,0⟩] scope pos) 0 (.ref it) (.ref s₂.heap.objs.size) X'.env) (RR (.ref s₂.heap.objs.size) HH.objs.size) s3:=by
  refine Zbn (λk s'=>∃i ys its n H',Inv X' [(s₂.heap.objs.size,{ cls := .type "list",data := .seq its n })] (blk tn.length σ js) H' s'/\Vals ys its.toList/\ys.length<=sizeLine/\tnx i s'.heap/\(∀b∈fp,H' b=none)/\W i k ys H') ?_ m0
   ⟨0,[],#[],0,H₂,I3,.nil,jR _,st3',λb hb=>(f2 b hb).1,w0⟩
  rintro k s4 ⟨i,ys,its,n,H4,I4,hv4,hz4,st4,fr4,w4⟩
  have eP:X'.prog=X.prog:=by rw [<-hX'];rfl
  have eW:X'.w=X.w:=by rw [<-hX'];rfl
  have eK:X'.K=X.K:=by rw [<-hX'];rfl
  have eA:X'.A=X.A:=by rw [<-hX'];rfl
  have eC:X'.calm=true:=by rw [<-hX'];exact hc
  have eE:X'.xe=λ_ _=>False:=by rw [<-hX'];rfl
  rcases turn i k ys H4 w4 with⟨stop,qn⟩|⟨go,step⟩
  . have z:=T.done X' eP eW eK eC i _ s4 (blk tn.length σ js) H4 (λ_ _=>False) I4 (stat fr4 (λp hp=>by simp at hp;rw [hp])) st4 stop
    rw [eA]at z;refine Va (thn z λr s5 ⟨hr,I5⟩ => ?_);subst hr;subst hX';exact qn _ _ s5 its.toList n _ hC hD hDC hv4 hz4 (by simpa using I5)
  . have z:=T.item X' eP eW eK eC i _ s4 (blk tn.length σ js) H4 (λ_ _=>False) I4 (stat fr4 (λp hp=>by simp at hp;rw [hp])) st4 go
    rw [eA]at z;refine Va (thn z λr s5 ⟨u,hr,h5⟩ => ?_);subst hr;refine Va (thn h5 λ_ s6 ⟨x,H6,I6,r6,y6,st6,fr6⟩ => ?_);have I6':=I6.pinned (stat fr6 (λp hp=>by simp at hp;rw [hp])) (T.obj _ _ st6);have hg':PG X' tg g:=by rw [<-hX'];exact hg _ _ _ _
    have ht':PTs X' ifs tt:=by rw [<-hX'];exact ht _ _ _ _
    have he':PE X' elt te:=by rw [<-hX'];exact he _ _ _ _
    have z7:=hg' _ s6 _ H6 x u _ I6' r6 (step x H6 y6);rw [eP,eW,eA,eE]at z7;refine Va (thn z7 λ_ s7 ⟨σ7,H7,I7,q7⟩ => ?_);have z8:=ht' _ s7 σ7 H7 _ I7 q7;rw [eP,eW,eA,eE]at z8;refine Va (thn z8 λok s8 ⟨H8,I8,q8⟩ => ?_)
    have key:∀{σ9:St}{H9:Hp}{s9:Shared}{its':Array Value}{n':Nat},Inv X' ([(s₂.heap.objs.size,{ cls := .type "list",data := .seq its' n' })]++YW fp s6.heap) σ9 H9 s9 ->
     Inv X' [(s₂.heap.objs.size,{ cls := .type "list",data := .seq its' n' })] (blk tn.length σ js) H9 s9/\tnx (i+1) s9.heap/\∀b∈fp,H9 b=none:=λ{σ9 H9 s9 its' n'} I9=>by
     refine⟨?_,T.keep _ _ _ st6 λb hb o e=>(I9.pin (b,o) (jw _ (jw _ (Uk hb e)))).1,λb hb => ?_⟩
     . have I9':=I9.unpinned
       subst hX';exact Zcf S I2 f2 I9'
     . obtain⟨o,e,d⟩:=T.obj _ _ st6 b hb
       exact(I9.pin (b,o) (jw _ (jw _ (Uk hb e)))).2.1
    cases ok with
    |false=>
     rw [jg jy]at q8 ⊢;obtain⟨m',hm,w8⟩:=q8;obtain⟨I9,st9,fr9⟩:=key I8;exact⟨m',hm,i+1,ys,its,n,H8,I9,hv4,hz4,st9,fr9,w8⟩
    |true=>
     rw [je rfl]at q8 ⊢;have z9:=he' _ s8 σ7 H8 _ I8 q8;rw [eP,eW,eA,eE]at z9;refine Va (thn z9 λv s9 ⟨y,H9,I9,r9,hl9,m',hm,w9⟩ => ?_);have pd:=I9.pin (s₂.heap.objs.size,{ cls := .type "list",data := .seq its n }) (jw _ (j2 _ jj));have hpl:s9.heap.PlainList s₂.heap.objs.size its:=⟨n,pd.1⟩
     have hlen:its.size=ys.length:=by rw [hv4.length];simp
     refine wpAny_list_append_plain (hsz:=by omega) hpl λh10 hl10 hs10 => ?_
     obtain⟨n10,e10⟩:=hl10;have I10:Inv X' (YW fp s6.heap) σ7 H9 s9:=I9.pins_of λp hp=>I9.pin p (jw _ (jw _ hp))
     have nD:∀b∈fp,b≠s₂.heap.objs.size:=λb hb=>by
      obtain⟨o,e,_⟩:=hob b hb;exact jQ (jz e)
     have I11:Inv X' (YW fp s6.heap) σ7 H9 { s9 with heap:=h10 }:=by
      refine I10.turned (t':=s9.toks) (it:=s₂.heap.objs.size) (λb o hb e=>(hs10.2 b hb).trans e) pd.2.1 pd.2.2.1 ?_ ?_ ?_
      . subst hX';exact .inr (jk _)
      . subst hX'
        intro x c h;obtain⟨v',o',q,_⟩:=I2.cell x c (Xe _ [] (S.clos I2.ok) 'l' h);exact jQ (jz q)
      . intro p hp
        have hp':p∈YW fp s6.heap:=by
         subst hX';have q:p∈([]:List 'g')++YW fp s6.heap:=hp;simpa using q
        exact nD _ (ZaN hp').1
     have I12:Inv X' ([(s₂.heap.objs.size,{ cls := .type "list",data := .seq (its.push v) n10 })]++YW fp s6.heap) σ7 H9 { s9 with heap:=h10 }:=I11.pins_of λp hp=>by
      rcases jK.mp hp with q|q
      . have e:p=(s₂.heap.objs.size,{ cls := .type "list",data := .seq (its.push v) n10 }):=by simpa using q
        subst e;exact⟨e10,pd.2.1,pd.2.2.1,pd.2.2.2.1,λv z=>by cases z⟩
      . exact I11.pin p (jw _ q)
     obtain⟨J1,J2,J3⟩:=key I12;refine⟨m',hm,i+1,ys++[y],its.push v,n10,H9,J1,?_,?_,J2,J3,w9⟩
     . have:(its.push v).toList=its.toList++[v]:=by simp
       rw [this];exact hv4.append (.cons r9 .nil)
     . rw [jc,qd]
       omega
 have eEnv:({ newEnv scope HH.objs.size X.env.globals (Yj X.env.cells scope.names []) X.env.qual none .none (some X.env) builtinsNs with scope:=relabel scope X.env }:Env)=X'.env:=by rw [<-hX'];rfl
 have loop2:=loop;rw [<-eEnv]at loop loop2;exact codeAny_compStart_list loop (T.self X.A 0 s3 _ _ st3' loop2)
theorem Vb (hc:X.calm=true) (S:CompSc X scope tn cn js) (hi:PI X tg iter wi)
 (hg:∀C s₂ H₂ fp,PG (YG X scope (tn++cn) C s₂ H₂ fp) tg g) (ht:∀C s₂ H₂ fp,PTs (YG X scope (tn++cn) C s₂ H₂ fp) ifs tt) (he:∀C s₂ H₂ fp,PE (YG X scope (tn++cn) C s₂ H₂ fp) elt te)
 (hs:∀x,foldedSetIterable iter X.env x=pure x:=by intro _;rfl) :
 PE X (.ListComp elt [⟨tg,iter,ifs,0⟩] scope pos) (VB wi g tt te tn.length js):=by
 intro pins s σ H Q I h;rw [eval_ListComp];refine wpAny_comprehension_free (use:=none) (cl:=Yj X.env.cells scope.names []) rfl hs (Zae (S.clos I.ok)) S.kind S.names (thn (hi pins s σ H _ I h) λv s1 h1=>thn h1 λitv s2 h2 => ?_);obtain⟨it,fp,tnx,J,H2,e,I2,T,st2,f2,W,⟨m0,w0⟩,turn⟩:=h2;subst e;refine Zaz (RR:=λacc C=>compPost 'e' X.A X.xe none (EP X pins σ Q) acc C) (W:=W) (m0:=m0) hc S hg ht he I2 T st2 f2 w0 λi m ys H w => ?_
 rcases turn i m ys H w with⟨stop,qn⟩|r
 . refine .inl ⟨stop,λC D s its n σ' hC hD hDC hv hz I' => ?_⟩
   obtain⟨m',hn,_⟩:=id I'.loc;refine⟨m',hn,λh' hs' => ?_⟩;have pd:=I'.pin (D,{ cls := .type "list",data := .seq its.toArray n }) (jw _ jj);exact⟨.ref D,_,ZbG S I2 hC hD hDC f2 I' hv hz hs',rfl,qn D pd.2.1⟩
 . exact .inr r
end
abbrev S(cs:List Nat):V := .str (tx cs)
theorem ZkP{a b:List Nat}:S a=S b ↔ a=b:=by
 constructor
 . intro h
   exact tx_inj.mp (V.str.inj h)
 . rintro rfl;rfl
section
variable{X:Cx}{pos:Pos}
theorem Zjm{x:Str}{j:Nat}(cs:List Nat)(h:x=tx cs):PE X (.Constant (.str x) j pos) (tC (S cs)):=by
 subst h;exact Zi2
def Its(cs:List Nat):It:=⟨λi _=>i<cs.length,λi H v H'=>H'=H/\∃c,cs[i]? = some c/\v=S [c],λi _=>cs.length<=i⟩
theorem Uq(x:Str):strIterType x = "str_ascii_iterator" \/ strIterType x = "str_iterator" := by
 unfold strIterType
 split
 . exact .inl rfl
 . exact .inr rfl
theorem ZeA{K:Frag}(it:Addr)(cs:List Nat)(t:Tok):Turn P w K tg (Its cs) [it] it (λi h=>h.IsStrIter it (strIterType (tx cs)) (tx cs) t i) where
 mem:=by simp
 obj:=λi h st b hb=>by
  have e:b=it:=by simpa using hb
  subst e;obtain⟨o,e,c,d⟩:=st;exact⟨o,e,λv z=>by rw [d]at z;cases z⟩
 keep:=λi h h' st k=>by
  obtain⟨o,e,r⟩:=st;exact⟨o,k it 'c' o e,r⟩
 item:=by
  intro X hP hw hK hc i pins s σ H E I hf st hg;subst hP hw hK;obtain⟨f0,f1,f2,f3,f4,f5⟩:=hf it 'c';have hg:i<cs.length:=hg;have hx:(tx cs).cps[i]? = some cs[i]:=by simp [tx,hg]
  have fin:∀(h':Heap),h'.IsStrIter it (strIterType (tx cs)) (tx cs) t (i+1)->Heap.SameBut it s.heap h' ->
   ∃u,some (Value.str ⟨#[cs[i]]⟩ s.toks)=some u/\wpAny 'e' X.A (letOwnedTupleGo tg (.ref it) u) (λ_ s2=>∃x H',Inv X pins σ H' s2/\RelV x u/\(Its cs).yld i H x H'/\s2.heap.IsStrIter it (strIterType (tx cs)) (tx cs) t (i+1)/\∀b∈[it],H' b=none) E { s with heap:=h',toks:=s.toks+1 }:=λh' st' sb=>by
   have I1:Inv X pins σ H { s with heap:=h',toks:=s.toks+1 }:=I.turned (λb o hb e=>(sb.2 b hb).trans e) f0 f1 f3 f4 f5;obtain⟨o,e,hc',d⟩:=id st';refine⟨_,rfl,Uj (s:={ s with heap:=h',toks:=s.toks+1 }) e hc' d ?_ ⟨S [cs[i]],H,I1,⟨s.toks,rfl⟩,⟨rfl,cs[i],by simp [hg],rfl⟩,st',λb hb=>(hf b hb).1⟩⟩;rcases Uq (tx cs)with z|z<;>rw [z]<;>decide
  rcases Uq (tx cs)with z|z
  . rw [z]at st
    refine wpAny_pyNext_ascii_item st hx λh' st' sb=>fin h' (by rw [z];exact st') sb
  . rw [z]at st
    refine wpAny_pyNext_wide_item st hx λh' st' sb=>fin h' (by rw [z];exact st') sb
 done:=by
  intro X hP hw hK hc i pins s σ H E I hf st hg;subst hP hw hK;obtain⟨f0,f1,f2,f3,f4,f5⟩:=hf it 'c';have hg:cs.length<=i:=hg;have hx:(tx cs).cps[i]? = none:=by simp [tx];omega
  rcases Uq (tx cs)with z|z
  . rw [z]at st
    exact wpAny_pyNext_ascii_end (I.ok.hd hc) st hx λh' eb=>⟨rfl,I.turned (t':=s.toks) (λb o hb e=>eb b o hb e) f0 f1 f3 f4 f5⟩
  . rw [z]at st
    exact wpAny_pyNext_wide_end (I.ok.hd hc) st hx λh' eb=>⟨rfl,I.turned (t':=s.toks) (λb o hb e=>eb b o hb e) f0 f1 f3 f4 f5⟩
 self:=λ_ i _ _ _ st h=>by
  rcases Uq (tx cs)with z|z
  . rw [z]at st
    exact wpAny_pyIter_striter_ascii st h
  . rw [z]at st
    exact wpAny_pyIter_striter_wide st h
variable{tg:Expr}
def XE(K:Frag)(tl:TE):TI:=λσ H R=>tl σ H λx H1=>(∃a xs,x = .ref a/\SqL K H1 a xs/\R (Itl K a) H1)\/(∃a xs,x = .ref a/\SqT K H1 a xs/\R (Itt K a) H1)\/∃cs,x=S cs/\R (Its cs) H1
theorem Zjn(hl:PE X l tl):PI X tg l (XE X.K tl):=by
 intro pins s σ H R I h;refine thn (hl pins s σ H _ I h) λv s1 ⟨x,H1,I1,r1,q1⟩ => ?_
 rcases q1 with⟨a,xs,e,hq,q⟩|⟨a,xs,e,hq,q⟩|⟨cs,e,q⟩
 . subst e
   cases r1;obtain⟨its,rv,p,hz⟩:=I1.list hq;refine yD p.isList ?_;refine⟨s1.heap.objs.size,[s1.heap.objs.size],_,_,H1,rfl,I1.kept (t':=s1.toks) λb o e=>jh _ e,ZaM a _,⟨_,jr _ rfl,rfl,rfl⟩,λb hb => ?_,q⟩;have e:b=s1.heap.objs.size:=by simpa using hb
   subst e;exact I1.fpOk (jk _) (I1.hok.fresh (jk _))
 . have hpi:=ZfL (X:=X) (tg:=tg) (l:=l) (tl:=λ_ H Q=>Q (.ref a) H)
   subst e;cases r1;obtain⟨its,rv,p,hz⟩:=I1.tuple hq;refine qw (show s1.heap.IsTuple a its.toArray from p) ?_;refine⟨s1.heap.objs.size,[s1.heap.objs.size],_,_,H1,rfl,I1.kept (t':=s1.toks) λb o e=>jh _ e,Zay a _,⟨_,jr _ rfl,rfl,rfl⟩,λb hb => ?_,q⟩;have e:b=s1.heap.objs.size:=by simpa using hb
   subst e;exact I1.fpOk (jk _) (I1.hok.fresh (jk _))
 . subst e
   obtain⟨t,rfl⟩:=r1;refine wpAny_pyIter_strU ?_;refine⟨s1.heap.objs.size,[s1.heap.objs.size],_,_,H1,rfl,I1.kept (t':=s1.toks) λb o e=>jh _ e,ZeA _ cs t,⟨_,jr _ rfl,rfl,rfl⟩,λb hb => ?_,q⟩;have e:b=s1.heap.objs.size:=by simpa using hb
   subst e;exact I1.fpOk (jk _) (I1.hok.fresh (jk _))
def rAddS:R2:=λx y H Q=>∃a b,x=S a/\y=S b/\a.length+b.length<=sizeLine/\Q (S (a++b)) H
theorem op_addS:OpR X (binaryOp .Add) rAddS:=by
 intro pins s σ H x y v u Q I rx ry h;obtain⟨a,b,rfl,rfl,hz,q⟩:=h;refine Zcc pins s σ H _ _ v u Q I rx ry ⟨tx a,tx b,rfl,rfl,by rw [YX,YX];exact hz,?_⟩;rw [QQ];exact q
def ZkQ:R2:=λx y H Q=>rI0 (λi j => .int (i+j)) x y H Q\/rAddS x y H Q\/ZmZ x y H Q
def ZmC(neg:Bool):R2:=λx y H Q=>∃c b,x=S [c]/\y=S b/\Q (.bl (neg != decide (c∈b))) H
theorem op_inS:OpR X (compareOp .In) (ZmC false):=by
 intro pins s σ H x y v u Q I rx ry h;obtain⟨c,b,rfl,rfl,q⟩:=h;refine ZdG pins s σ H _ _ v u Q I rx ry ⟨tx [c],tx b,rfl,rfl,?_⟩;have e:=StrLaws.found_one (tx b) c;rw [ZfP]at e;rw [show tx [c]=(⟨#[c]⟩:Str)from rfl,e];simpa using q
def Ur(K:Frag)(neg:Bool):R2:=λx y H Q=>ZmC neg x y H Q\/rIn K neg x y H Q
theorem Zjo:OpR X (compareOp .In) (Ur X.K false):=op_inS.or ZdL
def rIxSt:R2:=λx y H Q=>∃a i c,x=S a/\y = .int i/\a.length<=sizeLine/\atI a i=some c/\Q (S [c]) H
theorem Zm3:IxR X rIxSt:=by
 intro value slice pins s σ H x y v u Q I rx ry h hs;obtain⟨a,i,c,rfl,rfl,hz,he,q⟩:=h;exact ix_str value slice pins s σ H _ _ v u Q I rx ry ⟨tx a,i,c,rfl,rfl,by rw [YX];exact hz,by rw [ZfP];exact he,q⟩ hs
def Xf(K:Frag):R2:=λx y H Q=>ZmA K x y H Q\/ZmB K x y H Q\/rIxSt x y H Q
theorem Zm4:IxR X (Xf X.K):=ix_list.or (ix_tup.or Zm3)
def VC(K:Frag):List V->Hp->VK->Prop:=λxs H Q=>(∃a,xs=[S a]/\a.length<=sizeLine/\Q (.int a.length) H)\/∃p ys,xs=[.ref p]/\(SqL K H p ys\/SqT K H p ys)/\Q (.int ys.length) H
theorem ZdP:CallR X (.builtin "len") (VC X.K):=by
 intro pins s σ H xs us Q I rs q;rcases q with⟨a,rfl,hz,q⟩|q
 . exact Zbl pins s σ H _ us Q I rs ⟨tx a,rfl,by rw [YX];exact hz,by rw [YX];exact q⟩
 . exact Zbk pins s σ H xs us Q I rs q
theorem ZeB:CallR X (.builtin "isinstance") (λxs H Q=>∃x c cv t b,xs=[x,c]/\(∀v,RelV c v->v=cv)/\TyOf X.K H x t/\kitOne X.K t cv=some b/\Q (.bl b) H):=by
 intro pins s σ H xs us Q I rs h;obtain⟨x,c,cv,t,b,rfl,hc,ty,e,q⟩:=h;obtain⟨u,w',rfl,rx,rc⟩:=Ul rs;have ec:=hc _ rc;subst ec;exact ZdK I rx ty e λtk=>⟨.bl b,H,I.tok tk,rfl,q⟩
end
section
variable{X:Cx}{K:Frag}{pos:Pos}{tg:Expr}
theorem ZkR(hK:X.K=K:=by rfl):OpR X (compareOp .In) (Ur K false):=hK▸Zjo
theorem Zm5(hK:X.K=K:=by rfl):IxR X (Xf K):=hK▸Zm4
theorem ZkS(hK:X.K=K:=by rfl):CallR X (.builtin "len") (VC K):=hK▸ZdP
def Zm6(K:Frag):List V->Hp->VK->Prop:=λxs H Q=>∃x c cv t b,xs=[x,c]/\(∀v,RelV c v->v=cv)/\TyOf K H x t/\kitOne K t cv=some b/\Q (.bl b) H
theorem ZmD(hl:PE X l tl)(hK:X.K=K:=by rfl):PI X tg l (XE K tl):=hK▸Zjn hl
def ZfQ(K:Frag):List V->Hp->VK->Prop:=λxs H Q=>∃p ys,xs=[.ref p]/\((SqL K H p ys/\∀l,H l=none->Q (.ref l) (upd H l (.tup ys)))\/(SqT K H p ys/\Q (.ref p) H))
def Zjp(K:Frag):List V->Hp->VK->Prop:=λxs H Q=>∃p ys,xs=[.ref p]/\(SqL K H p ys\/SqT K H p ys)/\∀l,H l=none->Q (.ref l) (upd H l (.lst ys))
theorem ZgU(hK:X.K=K:=by rfl):CallR X (.type "tuple") (ZfQ K):=hK▸ZaJ
theorem Us {o e:Expr} {es:List Expr} {apos cpos:Pos} {T id:String} {r:V->List V->Hp->VK->Prop} (pa:PlainAttrs T) (slot:Slot T name id) (hty:typeOf (.builtin id)=pure (.type "method_descriptor")) (hm:MtR X id r) (ho:PE X o to) (ha:PA X (e::es) t)
 (hbase:attributeBase o name X.env (eval o X.env)=eval o X.env:=by rfl)
 (hfew:((backTo cpos (starEach (e::es) X.env)).all (λx => !x.1)&&(backToKw cpos (keywordEach [] X.env)).all (λx=>x.1.isSome)
   && decide ((e::es).length+([]:List Keyword).length+(if([]:List Keyword).isEmpty then 0 else 1)<30))=true:=by rfl)
 (hline:(apos.endLine == cpos.line)=true:=by rfl) (hs:starEach (e::es) X.env=(false,eval e X.env)::starEach es X.env:=by rfl) (hplain:(backTo cpos (starEach es X.env)).any (·.1)=false:=by rfl) (hK:X.K=K:=by rfl) :
 PE X (.Call (.Attribute o name apos) (e::es) [] cpos) (tBM K T r to t):=hK▸ZkN pa slot hty hm ho ha hbase hfew hline hs hplain
theorem ZkT {k:Nat} {n:Nat} (h:PGs X es t) (hc:X.calm=true:=by rfl)
 (hn:(assignEach es X.env).length=n:=by rfl) (hst:(assignEach es X.env).findIdx? (·.1)=none:=by rfl) (hK:X.K=K:=by rfl):PG X (.Tuple es k pos) (Xq K n t):=hK▸Zjd hc h hn hst
end
theorem ZeC{H:Hp}(h:H q=none):Same H (upd H q o):=λb u e=>by
 rw [Zc (Zx e h)];exact e
section
variable{κ:Type} [DecidableEq κ]
def Zm(kvs:List (κ×V))(k:κ):Option V:=(kvs.find? λkv=>decide (kv.1=k)).map (·.2)
def Zv(kvs:List (κ×V))(k:κ)(v:V):List (κ×V):=
 if(kvs.any λkv=>decide (kv.1=k))=true then kvs.map (λkv=>if kv.1=k then(kv.1,v)else kv)else kvs++[(k,v)]
theorem Ye{p:κ×V}{r:List (κ×V)}{k:κ}(e:p.1=k):Zm (p::r) k=some p.2:=by simp [Zm,yc,e]
theorem Yg{p:κ×V}{r:List (κ×V)}{k:κ}(e:¬p.1=k):Zm (p::r) k=Zm r k:=by simp [Zm,yc,e]
theorem Xs(k:κ):∀kvs:List (κ×V),(kvs.any λkv=>decide (kv.1=k))=(Zm kvs k).isSome
 | []=>rfl
 |p::r=>by
  rw [yH]
  by_cases e:p.1=k
  . simp only [Ye e,jN e,Bool.true_or,Option.isSome_some]
  . rw [Yg e,jF e,Bool.false_or];exact Xs k r
theorem ZbH(k j:κ)(y:V):∀kvs:List (κ×V),Zm (kvs.map λkv=>if kv.1=k then(kv.1,y)else kv) j=(Zm kvs j).map λx=>if j=k then y else x
 | []=>rfl
 |p::r=>by
  have ih:=ZbH k j y r;rw [jp]
  by_cases h:p.1=k
  . rw [je h]
    by_cases e:p.1=j
    . rw [Ye (p:=(p.1,y)) e,Ye e,uH,je (e.symm.trans h)]
    . rw [Yg (p:=(p.1,y)) e,Yg e,ih]
  . rw [jg h]
    by_cases e:p.1=j
    . rw [Ye (p:=p) e,Ye e,uH,jg (λz=>h (e.trans z))]
    . rw [Yg (p:=p) e,Yg e,ih]
theorem ZaX(k j:κ)(y:V):∀kvs:List (κ×V),Zm kvs k=none->Zm (kvs++[(k,y)]) j=if j=k then some y else Zm kvs j
 | [],_=>by
  by_cases e:k=j
  . rw [je e.symm];exact Ye (p:=(k,y)) e
  . rw [jg (λz=>e z.symm)];exact Yg (p:=(k,y)) e
 |p::r,hn=>by
  rw [qD];have hk:¬p.1=k:=λz=>by rw [Ye z]at hn;cases hn
  rw [Yg hk]at hn;have ih:=ZaX k j y r hn
  by_cases e:p.1=j
  . rw [Ye e,Ye e,jg (λz=>hk (e.trans z))]
  . rw [Yg e,Yg e,ih]
theorem VD(kvs:List (κ×V))(k j:κ)(y:V):Zm (Zv kvs k y) j=if j=k then some y else Zm kvs j:=by
 unfold Zv
 by_cases a:(kvs.any λkv=>decide (kv.1=k))=true
 . rw [je a,ZbH]
   rw [Xs]at a
   by_cases e:j=k
   . obtain⟨x,hx⟩:=Option.isSome_iff_exists.mp a
     rw [je e,e,hx,uH,je rfl]
   . rw [jg e]
     cases Zm kvs j with
     |none=>rfl
     |some x=>rw [uH,jg e]
 . rw [jg a]
   refine ZaX k j y kvs ?_;rw [Xs]at a;cases q:Zm kvs k with
   |none=>rfl
   |some x=>rw [q]at a;exact(a rfl).elim
theorem VH(kvs:List (κ×V))(k:κ)(v:V):(Zv kvs k v).length<=kvs.length+1:=by
 unfold Zv
 split
 . rw [ja];omega
 . rw [jc,jx,List.length_nil];omega
theorem ZeD{kvs:List (κ×V)}{k:κ}(v:V)(h:Zm kvs k=none):Zv kvs k v=kvs++[(k,v)]:=by
 unfold Zv;rw [Xs,h];exact jg 'b'
theorem RelO.isSome_eq{o:Option V}{u:Option Value}(r:RelO o u):o.isSome=u.isSome:=by
 cases o with
 |none=>cases u with
  |none=>rfl
  |some _=>exact(show False from r).elim
 |some _=>cases u with
  |none=>exact(show False from r).elim
  |some _=>rfl
theorem RelO.getD{o:Option V}{u:Option Value}{d:V}{d':Value}(r:RelO o u)(rd:RelV d d'):RelV (o.getD d) (u.getD d'):=by
 cases o with
 |none=>cases u with
  |none=>exact rd
  |some _=>exact(show False from r).elim
 |some _=>cases u with
  |none=>exact(show False from r).elim
  |some _=>exact r
theorem KV.val{kvs:List (κ×V)}{vs:List (κ×Value)}(r:KV kvs vs)(k:κ):RelO (Zm kvs k) (valueAt vs k):=by
 unfold KV at r
 induction r with
 |nil=>exact True.intro
 | @cons p q ps qs h t ih=>
  obtain⟨h1,h2⟩:=h
  by_cases e:p.1=k
  . have e':q.1=k:=h1.symm.trans e
    have b:valueAt (q::qs) k=some q.2:=by simp [valueAt,yc,e']
    rw [Ye e,b];exact h2
  . have e':¬q.1=k:=λz=>e (h1.trans z)
    have b:valueAt (q::qs) k=valueAt qs k:=by simp [valueAt,yc,e']
    rw [Yg e,b];exact ih
theorem KV.any{kvs:List (κ×V)}{vs:List (κ×Value)}(r:KV kvs vs)(k:κ):(kvs.any λkv=>decide (kv.1=k))=vs.any λkv=>decide (kv.1=k):=by
 unfold KV at r
 induction r with
 |nil=>rfl
 |cons h t ih=>rw [yH,yH,ih,h.1]
theorem KV.repl{kvs:List (κ×V)}{vs:List (κ×Value)}(r:KV kvs vs)(k:κ){y:V}{u:Value}(ry:RelV y u) :
 KV (kvs.map λkv=>if kv.1=k then(kv.1,y)else kv) (vs.map λkv=>if kv.1=k then(kv.1,u)else kv):=by
 unfold KV at r ⊢
 induction r with
 |nil=>exact .nil
 | @cons p q ps qs h t ih=>
  rw [jp,jp];refine .cons ?_ ih;obtain⟨h1,h2⟩:=h
  by_cases e:p.1=k
  . rw [je e,je (h1.symm.trans e)];exact⟨h1,ry⟩
  . rw [jg e,jg (λz=>e (h1.trans z))];exact⟨h1,h2⟩
theorem KV.put{kvs:List (κ×V)}{vs:List (κ×Value)}(r:KV kvs vs)(k:κ){y:V}{u:Value}(ry:RelV y u):KV (Zv kvs k y) (stored vs k u):=by
 unfold Zv stored;rw [r.any k]
 by_cases e:(vs.any λkv=>decide (kv.1=k))=true
 . rw [je e,je e];exact r.repl k ry
 . rw [jg e,jg e];exact Paired.snoc r ⟨rfl,ry⟩
theorem KV.length{kvs:List (κ×V)}{vs:List (κ×Value)}(r:KV kvs vs):kvs.length=vs.length:=qI r
end
theorem Vc{k:Key}(r:RelV (kV k) u):(ZT P w).is k u=true:=by
 cases k with
 |inl i=>obtain⟨t,e⟩:=(show ∃t,u=Value.int i t from r);subst e;exact Zbp P w i t
 |inr x=>obtain⟨t,e⟩:=(show ∃t,u=Value.str x t from r);subst e;exact Zbq P w x t
theorem ZaY:∀{ks:List Key}{us:List Value},Vals (ks.map kV) us->ItemsAre (ZT P w) ks us
 | [],_,r=>by rw [uE]at r;cases r;exact .nil
 |k::ks,_,r=>by
  rw [jp]at r;cases r with
  |cons h t=>exact .cons (Vc h) (ZaY t)
abbrev KT(H:Hp):List (List Key×V)->List (List Key×Addr×Value)->Prop:=Paired λp q=>p.1=q.1/\H q.2.1=some (.tup (p.1.map kV))/\RelV p.2 q.2.2
theorem KT.val{H:Hp}{kvs:List (List Key×V)}{xs:List (List Key×Addr×Value)}(r:KT H kvs xs)(k:List Key):RelO (Zm kvs k) ((atKey xs k).map (·.2)):=by
 induction r with
 |nil=>exact True.intro
 | @cons p q ps qs h t ih=>
  obtain⟨h1,_,h2⟩:=h
  by_cases e:p.1=k
  . have e':q.1=k:=h1.symm.trans e
    have b:atKey (q::qs) k=some q.2:=by simp [atKey,yc,e']
    rw [Ye e,b];exact h2
  . have e':¬q.1=k:=λz=>e (h1.trans z)
    have b:atKey (q::qs) k=atKey qs k:=by simp [atKey,yc,e']
    rw [Yg e,b];exact ih
theorem KT.repl{H:Hp}{kvs:List (List Key×V)}{xs:List (List Key×Addr×Value)}(r:KT H kvs xs)(k:List Key){y:V}{u:Value}(ry:RelV y u) :
 KT H (kvs.map λkv=>if kv.1=k then(kv.1,y)else kv) (xs.map (putAt k u)):=by
 induction r with
 |nil=>exact .nil
 | @cons p q ps qs h t ih=>
  rw [jp,jp];refine .cons ?_ ih;obtain⟨h1,h2,h3⟩:=h;unfold putAt
  by_cases e:p.1=k
  . rw [je e,je (h1.symm.trans e)];exact⟨h1,h2,ry⟩
  . rw [jg e,jg (λz=>e (h1.trans z))];exact⟨h1,h2,h3⟩
theorem KT.put{H:Hp}{kvs:List (List Key×V)}{xs:List (List Key×Addr×Value)}(r:KT H kvs xs)(k:List Key){b:Addr}{y:V}{u:Value}(hb:H b=some (.tup (k.map kV)))(ry:RelV y u) :
 KT H (Zv kvs k y) (storedH xs k b u):=by
 have e:(kvs.any λkv=>decide (kv.1=k))=(atKey xs k).isSome:=by
  rw [Xs,(r.val k).isSome_eq,uv]
 unfold Zv storedH;rw [e]
 by_cases q:(atKey xs k).isSome=true
 . rw [je q,je q];exact r.repl k ry
 . rw [jg q,jg q];exact Paired.snoc r ⟨rfl,hb,ry⟩
theorem KT.keeps{H H':Hp}{kvs:List (List Key×V)}{xs:List (List Key×Addr×Value)}(r:KT H kvs xs)(ht:∀b ys,H b=some (.tup ys)->H' b=some (.tup ys)):KT H' kvs xs:=
 Paired.mapP r λ_ _ z=>⟨z.1,ht _ _ z.2.1,z.2.2⟩
section
variable{P:Program}{w:World}{H:Hp}{h:Heap}{a:Addr}
theorem Zio(ok:HOk P w H h)(e:Rd H a u):ObjOk P w H h a u:=e.ok ok
theorem Vd{kvs:List (Key×V)}(ok:HOk P w H h)(e:Rd H a (.dK kvs)):kvs.length<=sizeLine/\(a == sysModules)=false/\∃vs,KV kvs vs/\h.DictOf (ZT P w) a vs:=
 show ObjOk P w H h a (.dK kvs)from Zio ok e
theorem Zip{kvs:List (Key×V)}(ok:HOk P w H h)(e:H a=some (.dK kvs)):kvs.length<=sizeLine/\(a == sysModules)=false/\∃vs,KV kvs vs/\h.DictOf (ZT P w) a vs:=Vd ok (.inl e)
theorem Ve{ks:List Key}(ok:HOk P w H h)(e:H a=some (.tup (ks.map kV))):(tupleKind (ZT P w)).is h ks a:=by
 obtain⟨_,its,r,o,h1,h2,⟨n,h3⟩,_⟩:=(show ObjOk P w H h a (.tup (ks.map kV))from ok a _ e)
 exact⟨o,its.toArray,n,h1,h2,h3,by simpa using ZaY r⟩
theorem XF{kvs:List (List Key×V)}(ok:HOk P w H h)(e:Rd H a 'k'):kvs.length<=sizeLine/\(a == sysModules)=false /\
 ∃xs,KT H kvs xs/\h.DictOfH (tupleKind (ZT P w)) a xs:=by
 obtain⟨z,y,xs,r,o,es,ep,h1,h2,h3,h4,h5⟩:=(show ObjOk P w H h a (.dT kvs)from Zio ok e)
 refine⟨z,y,xs,r,o,es,ep,h1,h2,h3,h4,λx hx => ?_,h5⟩
 have all:∀{l:List (List Key×V)}{m:List (List Key×Addr×Value)},KT H l m->∀x∈m,(tupleKind (ZT P w)).is h x.1 x.2.1:=by
  intro l m q
  induction q with
  |nil=>intro x hx;exact nomatch hx
  | @cons p q ps qs hq t ih=>
   intro x hx;rcases jA.mp hx with e|hx
   . subst e
     exact Ve ok (by rw [<-hq.1];exact hq.2.1)
   . exact ih x hx
 exact all r x hx
theorem Ziq{kvs:List (List Key×V)}(ok:HOk P w H h)(e:H a=some 'k'):kvs.length<=sizeLine/\(a == sysModules)=false /\
 ∃xs,KT H kvs xs/\h.DictOfH (tupleKind (ZT P w)) a xs:=XF ok (.inl e)
end
def DGet(H:Hp)(a:Addr)(y:V)(r:Option V):Prop:=
 (∃kvs k,Rd H a (.dK kvs)/\y=kV k/\r=Zm kvs k)\/∃kvs k b,Rd H a 'k'/\y = .ref b/\H b=some (.tup (k.map kV))/\r=Zm kvs k
def DPut(H:Hp)(a:Addr)(y v:V)(H':Hp):Prop:=
 (∃kvs k,H a=some (.dK kvs)/\y=kV k/\kvs.length<sizeLine/\H'=upd H a (.dK (Zv kvs k v))) \/
 ∃kvs k b,H a=some 'k'/\y = .ref b/\H b=some (.tup (k.map kV))/\kvs.length<sizeLine/\H'=upd H a (.dT (Zv kvs k v))
theorem DGet.t{H:Hp}{a b:Addr}{kvs:List (List Key×V)}{k:List Key}(e:H a=some 'k')(eb:H b=some (.tup (k.map kV))):DGet H a (.ref b) (Zm kvs k) := .inr ⟨kvs,k,b,.inl e,rfl,eb,rfl⟩
theorem DPut.t{H:Hp}{a b:Addr}{kvs:List (List Key×V)}{k:List Key}{v:V}(e:H a=some 'k')(eb:H b=some (.tup (k.map kV)))(hl:kvs.length<sizeLine) :
 DPut H a (.ref b) v (upd H a (.dT (Zv kvs k v))) := .inr ⟨kvs,k,b,e,rfl,eb,hl,rfl⟩
section
variable{X:Cx}{pins:List 'g'}{σ:St}{H:Hp}{s:Shared}{a:Addr}{y v:V}{u r:Value}{o:Option V}{A:Around}{E:Value->Shared->Prop}
theorem Inv.big(I:Inv X pins σ H s):sysModules<s.heap.objs.size:=by
 have h:mainGlobals<s.heap.objs.size:=(I.mod.glob.keeps I.bk).lt;exact Nat.lt_trans 'b' h
theorem ZdQ{Q:Value->Shared->Prop}(hu:A.units+1<cLine)(I:Inv X pins σ H s)(g:DGet H a y (some v))(ry:RelV y u)(h:∀w' s',Inv X pins σ H s'->RelV v w'->Q w' s') :
 wpAny 'e' A (getItem (.ref a) u) Q E s:=by
 rcases g with⟨kvs,k,e,ey,l⟩|⟨kvs,k,b,e,ey,eb,l⟩
 . subst ey
   obtain⟨z,hd,vs,rel,dd⟩:=Vd I.hok e;obtain⟨w',hw,rw'⟩:=RelO.some_of (v:=v) (o:=valueAt vs k) (by rw [l];exact rel.val k);exact wpAny_getItem_of (Vc ry) dd.mapOf hw (h w' _ (I.tok _) rw')
 . subst ey
   cases(show u=Value.ref b from ry);obtain⟨z,hd,xs,rel,dd⟩:=XF I.hok e;obtain⟨w',hw,rw'⟩:=RelO.some_of (v:=v) (o:=(atKey xs k).map (·.2)) (by rw [l];exact rel.val k);obtain⟨p,hp,hp2⟩:=qf.mp hw;refine wpAny_getItem_heap (yT hu) (Ve I.hok eb) dd hp ?_;rw [hp2];exact h w' _ (I.tok _) rw'
theorem ZgV{Q:Value->Shared->Prop}(hu:A.units+1<cLine)(I:Inv X pins σ H s)(g:DGet H a y o)(ry:RelV y u)(h:∀s',Inv X pins σ H s'->Q (.bool (!o.isSome)) s') :
 wpAny 'e' A (compareOp .NotIn u (.ref a)) Q E s:=by
 rcases g with⟨kvs,k,e,ey,l⟩|⟨kvs,k,b,e,ey,eb,l⟩
 . subst ey
   obtain⟨z,hd,vs,rel,dd⟩:=Vd I.hok e;refine wpAny_notIn_of (Vc ry) hd dd.mapOf ?_;rw [<-(rel.val k).isSome_eq,<-l];exact h _ (I.tok _)
 . subst ey
   cases(show u=Value.ref b from ry);obtain⟨z,hd,xs,rel,dd⟩:=XF I.hok e;refine wpAny_notIn_heap (yT hu) (Ve I.hok eb) hd dd ?_;have q:=(rel.val k).isSome_eq;rw [uv]at q;rw [<-q,<-l];exact h _ (I.tok _)
theorem VJ{h':Heap}{t':Nat}(I:Inv X pins σ H s)(mu:Mut (H a))(hs:Heap.SameBut a s.heap h')(he:∃q,h'.get? a=some q)(new:ObjOk X.prog X.w (upd H a ob) h' a ob) :
 Inv X pins σ (upd H a ob) { s with heap:=h',toks:=t' }:=
 I.write (x:=a) (e:=a) mu 's' (λb q hb z=>(hs.2 b hb).trans z) he new
theorem ZfR{h':Heap}{kvs:List (Key×V)}{vs:List (Key×Value)}(z:kvs.length<=sizeLine)(hd:(a == sysModules)=false)(rel:KV kvs vs)(dd:h'.DictOf (ZT P w) a vs) :
 ObjOk P w H' h' a (.dK kvs):=⟨z,hd,vs,rel,dd⟩
theorem ZdR{Q:Unit->Shared->Prop}(hu:A.units+1<cLine)(I:Inv X pins σ H s)(g:DPut H a y v H')(ry:RelV y u)(rv:RelV v r)(h:∀s',Inv X pins σ H' s'->Q () s') :
 wpAny 'e' A (setItem (.ref a) u r) Q E s:=by
 rcases g with⟨kvs,k,e,ey,l,eH⟩|⟨kvs,k,b,e,ey,eb,l,eH⟩
 . subst ey eH
   obtain⟨z,hd,vs,rel,dd⟩:=Zip I.hok e;have hz:vs.length<=sizeLine:=by rw [<-rel.length];exact z
   have hl:(Zv kvs k v).length<=sizeLine:=by have:=VH kvs k v;omega
   refine wpAny_setItem_pairs (hsz:=hz) (Vc ry) dd λh' dd' hs=>h _ ?_
   have he:∃q,h'.get? a=some q:=let⟨q,_,_,hq,_⟩:=dd';⟨q,hq⟩
   exact VJ I (by rw [e];exact True.intro) hs he (ZfR hl hd (rel.put k rv) dd')
 . subst ey eH
   cases(show u=Value.ref b from ry);obtain⟨z,hd,xs,rel,dd⟩:=Ziq I.hok e;have hz:xs.length<=sizeLine:=by rw [<-qI rel];exact z
   have hl:(Zv kvs k v).length<=sizeLine:=by have:=VH kvs k v;omega
   refine wpAny_setItem_heap (hsz:=hz) (yT hu) (Ve I.hok eb) dd λh' dd' hs=>h _ ?_
   obtain⟨q,es,ep,hq,h2,h3,h4,_,h5⟩:=dd';refine VJ I (by rw [e];exact True.intro) hs ⟨q,hq⟩ ⟨hl,hd,_,(rel.put k eb rv).keeps λc ys ec => ?_,q,es,ep,hq,h2,h3,h4,h5⟩;rw [Zc (J0 ec e (λz=>nomatch z))];exact ec
end
def ZmE(i:Expr):Prop:=∀ov iv,subscripted i false ov iv=operate [ov,iv] (getItem ov iv)
theorem ZgW {E:Value->Shared->Prop} {T id:String} {Q:Value->Shared->Prop}
 (hl:typeLookup (.type T) "__getitem__" = pure (some (.builtin id))) (hs:ZmE slice)
 (h:wpAny 'h' A (eval value env) (λo s₁=>wpAny 'h' A (eval slice env) (λi s₂=>s₂.TypeIs o T/\wpAny 'h' A (getItem o i) Q E s₂) E s₁) E s) :
 wpAny 'h' A (eval (.Subscript value slice pos) env) Q E s:=by
 refine Subscript_ (qJ h (λo s₁ h₁=>qJ h₁ (λi s₂ h₂ => ?_) λ_ _ x=>x) λ_ _ x=>x);obtain⟨hT,h₂⟩:=h₂;unfold subscriptTail;refine jb ?_;rw [getitemInPython_of_ne hT.not_modules];refine jb (wpAny_specialOf hT hl ?_)
 have fin:wpAny 'h' A (subscripted slice false o i) (λr s₃=>wpAny 'h' A (letTemporaryGo value o r >>= λ_=>pure r) Q E s₃) E s₂:=by
  rw [hs o i];exact wpAny_operating (qJ h₂ (λr s₃ h₃=>jb (wpAny_letTemporaryGo (jf h₃))) λ_ _ x=>x)
 first
  |exact jf (jb fin)
  |exact jb (jf (jb fin))
  |exact jb fin
theorem Zbr{s:Shared}{o:Option V}(I:Inv X pins σ H s)(g:DGet H a y o):s.TypeIs (.ref a) "dict" := by
 rcases g with⟨kvs,k,e,_,_⟩|⟨kvs,k,b,e,_,_,_⟩
 . obtain⟨_,_,vs,_,dd⟩:=Vd I.hok e
   exact dd.typeIs
 . obtain⟨_,_,xs,_,dd⟩:=XF I.hok e
   exact dd.typeIs
def VL(td ty:TE):TE:=λσ H Q=>td σ H λx H1=>ty σ H1 λy H2=>∃a v,x = .ref a/\DGet H2 a y (some v)/\Q v H2
def ZcJ(ty td:TE):TE:=λσ H Q=>ty σ H λy H1=>td σ H1 λx H2=>∃a o,x = .ref a/\DGet H2 a y o/\Q (.bl (!o.isSome)) H2
def Ut(td ty tv:TE):TS:=λD σ H=>tv σ H λv H1=>td σ H1 λx H2=>ty σ H2 λy H3=>∃a H4,x = .ref a/\DPut H3 a y v H4/\D.nx σ H4
section
variable{X:Cx}{o i e value:Expr}{pos pos' tpos:Pos}{td ty tv:TE}
theorem ZgX(hu:X.A.units+1<cLine)(ho:PE X o td)(hi:PE X i ty)(hs:ZmE i):PE X (.Subscript o i pos) (VL td ty):=by
 intro pins s σ H Q I h;refine ZgW PySem.F.slot_dict_getitem.lookup hs (thn (ho pins s σ H _ I h) λu s1 ⟨x,H1,I1,rx,q1⟩=>thn (hi pins s1 σ H1 _ I1 q1) λiv s2 ⟨y,H2,I2,ry,a,v,ex,g,q2⟩ => ?_);subst ex;obtain rfl:u=Value.ref a:=rx;exact⟨Zbr I2 g,ZdQ hu I2 g ry λw' s3 I3 rw'=>⟨v,H2,I3,rw',q2⟩⟩
theorem ZdS(hu:X.A.units+1<cLine)(hi:PE X i ty)(ho:PE X o td):PC X .NotIn i o (ZcJ ty td):=by
 intro pins s σ H Q I h;refine thn (hi pins s σ H _ I h) λiv s1 ⟨y,H1,I1,ry,q1⟩=>thn (ho pins s1 σ H1 _ I1 q1) λu s2 ⟨x,H2,I2,rx,a,ov,ex,g,q2⟩ => ?_
 subst ex;obtain rfl:u=Value.ref a:=rx;exact ZgV hu I2 g ry λs3 I3=>⟨.bl (!ov.isSome),H2,I3,rfl,q2⟩
theorem ZgY(hu:X.A.units+1<cLine)(ho:PE X o td)(hi:PE X i ty)(hv:PE X value tv)(hs:swapsWith value (some (.Subscript o i pos')) pos.line X.env=pure false) :
 PS X (.Assign [.Subscript o i pos'] value pos) (Ut td ty tv):=by
 intro pins s σ H D I h;refine wpAny_Assign_Subscript (thn (hv pins s σ H _ I h) λr s1 ⟨v,H1,I1,rv,q1⟩=>thn (ho pins s1 σ H1 _ I1 q1) λu s2 ⟨x,H2,I2,rx,q2⟩=>thn (hi pins s2 σ H2 _ I2 q2) λiv s3 ⟨y,H3,I3,ry,a,H4,ex,g,q3⟩ => ?_) hs;subst ex;obtain rfl:u=Value.ref a:=rx;exact ZdR hu I3 g ry rv λs4 I4=>⟨σ,H4,I4,q3⟩
end
theorem ZeE(h:Heap)(hb:sysModules<h.objs.size):ObjOk P w H (h.push { cls := .type "dict",data := .dict #[] }) h.objs.size (.dK []):=
 ⟨jR _,yi.mpr (jO (jQ hb)),[],.nil,Heap.DictOf.new h⟩
theorem ZeF(h:Heap)(hb:sysModules<h.objs.size):ObjOk P w H (h.push { cls := .type "dict",data := .dict #[] }) h.objs.size (.dT []):=
 ⟨jR _,yi.mpr (jO (jQ hb)),[],.nil,_,#[],0,jr _ rfl,⟨rfl,rfl,rfl⟩,rfl,rfl,qt⟩
def tDNewK:TE:=λ_ H Q=>∀p,H p=none->Q (.ref p) (upd H p (.dK []))
def tDNewT:TE:=λ_ H Q=>∀p,H p=none->Q (.ref p) (upd H p (.dT []))
section
variable{X:Cx}{pos:Pos}
theorem ZeG:PE X (.Dict [] [] pos) tDNewK:=λpins s σ H Q I h=>
 wpAny_Dict_empty ⟨.ref s.heap.objs.size,_,I.laid (a:=s.heap.objs.size) (o:=.dK []) (t':=s.toks) (λ_ _ q=>jh _ q) (jk _) (ZeE s.heap I.big),rfl,h _ (I.hok.fresh (jk _))⟩
theorem ZeH:PE X (.Dict [] [] pos) tDNewT:=λpins s σ H Q I h=>
 wpAny_Dict_empty ⟨.ref s.heap.objs.size,_,I.laid (a:=s.heap.objs.size) (o:=.dT []) (t':=s.toks) (λ_ _ q=>jh _ q) (jk _) (ZeF s.heap I.big),rfl,h _ (I.hok.fresh (jk _))⟩
end
structure M2(X:Cx)(o:Expr)(m:Str)(apos:Pos)(e f:Expr)(cpos:Pos):Prop where
 base:attributeBase o m X.env (eval o X.env)=eval o X.env
 few:((backTo cpos (starEach [e,f] X.env)).all (λx => !x.1)&&(backToKw cpos (keywordEach [] X.env)).all (λx=>x.1.isSome)
  && decide (([e,f]:List Expr).length+([]:List Keyword).length+(if([]:List Keyword).isEmpty then 0 else 1)<30))=true
 line:(apos.endLine == cpos.line)=true
 trees:backTo cpos (starEach [e,f] X.env)=[(false,eval e X.env),(false,eval f X.env)]
def IsD(H:Hp)(a:Addr):Prop:=(∃kvs,Rd H a (.dK kvs))\/∃kvs,Rd H a 'k'
theorem Vf{s:Shared}{a:Addr}(I:Inv X pins σ H s)(d:IsD H a) :
 s.TypeIs (.ref a) "dict" /\ (∀b,Value.ref a = .ref b->∃ob,s.heap.get? b=some ob/\ob.dict=none)/\(a == sysModules)=false:=by
 rcases d with⟨kvs,e⟩|⟨kvs,e⟩
 . obtain⟨_,hd,vs,_,dd⟩:=Vd I.hok e
   refine⟨dd.typeIs,λb q => ?_,hd⟩;cases q;obtain⟨ob,_,_,h1,h2,_⟩:=dd;exact⟨ob,h1,h2.2.1⟩
 . obtain⟨_,hd,xs,_,dd⟩:=XF I.hok e
   refine⟨dd.typeIs,λb q => ?_,hd⟩;cases q;obtain⟨ob,_,_,h1,h2,_⟩:=dd;exact⟨ob,h1,h2.2.1⟩
section
variable{X:Cx}{pins:List 'g'}{σ:St}{H:Hp}{s:Shared}{a:Addr}{y d:V}{u r:Value}{o:Option V}{A:Around}{E:Value->Shared->Prop}
theorem Zjq{Q:Value->Shared->Prop}(hu:A.units+1<cLine)(I:Inv X pins σ H s)(g:DGet H a y o)(ry:RelV y u)(rd:RelV d r)(h:∀w' s',Inv X pins σ H s'->RelV (o.getD d) w'->Q w' s') :
 wpAny 'e' A (call (.builtin "dict.get") [.ref a,u,r]) Q E s:=by
 rcases g with⟨kvs,k,e,ey,l⟩|⟨kvs,k,b,e,ey,eb,l⟩
 . subst ey
   obtain⟨z,hd,vs,rel,dd⟩:=Vd I.hok e;refine yY uL dd.typeIs PySem.F.entry_dict_get (PySem.F.args_dict_get_3 _ _ _) (meets_dict_get_default (ZT X.prog X.w) a (Vc ry) hd r) ⟨_,dd.mapOf,h _ _ (I.tok _) ?_⟩;rw [l];exact(rel.val k).getD rd
 . subst ey
   cases(show u=Value.ref b from ry);obtain⟨z,hd,xs,rel,dd⟩:=XF I.hok e;refine yY uL dd.typeIs PySem.F.entry_dict_get (PySem.F.args_dict_get_3 _ _ _) (meetsH_dict_get_default (tupleKind (ZT X.prog X.w)) a b hd r) ⟨yT hu,k,xs,Ve I.hok eb,dd,h _ _ (I.tok _) ?_⟩;rw [l];exact(rel.val k).getD rd
end
def QV(td ty tx:TE):TE:=λσ H Q=>td σ H λx H1=>∃a,x = .ref a/\IsD H1 a/\ty σ H1 λy H2=>tx σ H2 λz H3=>∃o,DGet H3 a y o/\Q (o.getD z) H3
section
variable{X:Cx}{o e f:Expr}{apos cpos:Pos}{td ty tx:TE}
theorem ZeI (hu:X.A.units+1<cLine) (ho:PE X o td) (he:PE X e ty) (hf:PE X f tx) (m:M2 X o "get" apos e f cpos):PE X (.Call (.Attribute o "get" apos) [e,f] [] cpos) (QV td ty tx):=by
 intro pins s σ H Q I h;refine yE m.base m.few m.line qR uL PySem.F.type_dict_get (thn (ho pins s σ H _ I h) λu s1 ⟨x,H1,I1,rx,a,ex,d,q1⟩ => ?_);subst ex;obtain rfl:u=Value.ref a:=rx;obtain⟨t1,t2,_⟩:=Vf I1 d;refine⟨t1,t2,?_⟩;rw [m.trees]
 refine qA rfl (uq (qQ (thn (he pins s1 σ H1 _ I1 q1) λiv s2 ⟨y,H2,I2,ry,q2⟩=>
  qQ (thn (hf pins s2 σ H2 _ I2 q2) λfv s3 ⟨z,H3,I3,rz,ov,g,q3⟩=>ua ?_))))
 exact Zjq hu I3 g ry rz λw' s4 I4 rw'=>⟨_,H3,I4,rw',q3⟩
end
end L2
namespace NK
open PySem PySem.Spec
def oIs:Option Int->Value->Bool
 |some k,v=>Value.isInt k v
 |none,.none=>true
 |none,_=>false
def oH:Option Int->Int
 |some k=>hashInt k
 |none=>reduceHash 4238894112
theorem Xu:∀{k:Option Int}{v:Value},oIs k v=true->(∃i t,k=some i/\v=Value.int i t)\/(k=none/\v=Value.none)
 |some i,v,h=>by
  obtain⟨t,e⟩:=Value.isInt_shape (k:=i) (v:=v) h;exact .inl ⟨i,t,rfl,e⟩
 |none,v,h=>by
  cases v<;>first|exact .inr ⟨rfl,rfl⟩|cases h
theorem ZgZ(i:Int)(t:Tok):oIs (some i) (.int i t)=true:=by simp [oIs,Value.isInt]
section
variable{prog:Program}{w:World}{A:Around}{E:Value->Shared->Prop}{s:Shared}
theorem ZcK{M:Model}{i:Int}{Q:PySem.Fin->Shared->Prop}(h:Q (.done (.ret (.int i s.toks))) { s with toks:=s.toks+1 }):wpAny M A (retInt i) Q E s:=jb (wpAny_mkInt (jf h))
theorem ZdT{Q:Int->Shared->Prop}(h:Q (oH none) { s with toks:=s.toks+1 }):wpAny 'h' A (pyHash Value.none) Q E s:=by
 show wpAny 'h' A (pyHashByItsType Value.none) Q E s;refine W.pyHash_slot (typeIs_none s) F.slot_NoneType_hash F.entry_NoneType_hash (F.args_NoneType_hash_1 _) rfl 's' ?_;exact ZcK ⟨_,_,rfl,h⟩
def oP:Option Int->PyData
 |some i => .int i
 |none => .none
theorem ZaZ{k:Option Int}(q:oIs k v=true):Reads h v (oP k) []:=by
 rcases Xu q with⟨i,t,rfl,rfl⟩|⟨rfl,rfl⟩
 . exact .int i t
 . exact .none
theorem ZfS(k:Option Int):(oP k).canLay0=true/\(oP k).depth=0:=by
 cases k<;>exact⟨rfl,rfl⟩
theorem ZfT(a b:Option Int):(oP a).eqv (oP b)=decide (a=b):=by
 cases a with
 |none=>cases b<;>simp [oP,PyData.eqv]
 |some i=>cases b with
  |none=>simp [oP,PyData.eqv]
  |some j=>simp only [oP,PyData.eqv,Option.some.injEq];exact(Bool.beq_eq_decide_eq i j)
end
def Xg(prog:Program)(w:World):KeyKind prog w (Option Int) where
 is:=oIs
 hash:=oH
 inj:=λv a b ha hb=>by
  rcases Xu ha with⟨i,t,rfl,rfl⟩|⟨rfl,rfl⟩<;>rcases Xu hb with⟨j,u,rfl,e⟩|⟨rfl,e⟩
  . injection e with e1 _;rw [e1]
  . exact nomatch e
  . exact nomatch e
  . rfl
 byValue:=λk v h=>by
  rcases Xu h with⟨i,t,rfl,rfl⟩|⟨rfl,rfl⟩<;>rfl
 pyHash:=λhv h=>by
  rcases Xu hv with⟨i,t,rfl,rfl⟩|⟨rfl,rfl⟩
  . exact wpAny_pyHash_int h
  . exact ZdT h
 eqBool:=λ{A E s a b u v Q} hu hv h=>by
  rcases Xu hu with⟨i,t,rfl,rfl⟩|⟨rfl,rfl⟩<;>rcases Xu hv with⟨j,u,rfl,rfl⟩|⟨rfl,rfl⟩
  . refine wpAny_eqBool_int ?_
    rw [show(i == j)=decide (some i=some j) by rw [Bool.beq_eq_decide_eq];simp];exact h
  . exact SeqAt.EqAt.int_none i t _ _ _ _ h
  . exact SeqAt.EqAt.none_int j u _ _ _ _ h
  . exact SeqAt.EqAt.same Value.none _ _ _ _ h
 «strs» := λk x t v h=>by
  rcases Xu h with⟨i,u,rfl,e⟩|⟨rfl,e⟩<;>exact nomatch e
abbrev El:=Sum (Option Int) (List (Option Int))
section
variable{prog:Program}{w:World}
def Xv(prog:Program)(w:World)(h:Heap):El->Value->Prop
 | .inl k,v=>oIs k v=true
 | .inr l,v=>∃b,v = .ref b/\IsTupleKey (Xg prog w) h l b
def elH(prog:Program)(w:World):El->Int
 | .inl k=>oH k
 | .inr l=>tupleKeyHash (Xg prog w) l
def elN:El->Nat
 | .inl _=>1
 | .inr l=>l.length+1
def YN:List El->Nat
 | []=>0
 |e::l=>elN e+YN l
theorem ZbI:∀a b:List El,YN (a++b)=YN a+YN b
 | [],b=>by simp [YN]
 |e::a,b=>by rw [qD,YN,YN,ZbI a b];omega
inductive Els(prog:Program)(w:World)(h:Heap):List El->List Value->Prop
 |nil:Els prog w h [] []
 |cons {e:El} {v:Value} {l:List El} {vs:List Value}:Xv prog w h e v->Els prog w h l vs->Els prog w h (e::l) (v::vs)
def IsN(prog:Program)(w:World)(h:Heap)(ks:List El)(a:Addr):Prop:=∃o items n,h.get? a=some o/\o.cls=Value.type "tuple" /\ o.data=Data.seq items n/\Els prog w h ks items.toList
theorem IsN.typeIs{s:Shared}{ks:List El}{a:Addr}(h:IsN prog w s.heap ks a):s.TypeIs (.ref a) "tuple" := by
 obtain⟨o,_,_,h1,h2,_⟩:=h;exact⟨o,h1,h2⟩
theorem Zjr{x y:El}(hx:Xv prog w h x v)(hy:Xv prog w h y v):x=y:=by
 cases x with
 |inl a=>cases y with
  |inl b=>rw [(Xg prog w).inj v a b hx hy]
  |inr b=>
   obtain⟨c,rfl,_⟩:=hy;have:=(Xg prog w).byValue a _ hx;cases this
 |inr a=>cases y with
  |inl b=>
   obtain⟨c,rfl,_⟩:=hx;have:=(Xg prog w).byValue b _ hy;cases this
  |inr b=>
   obtain⟨c,rfl,h1⟩:=hx;obtain⟨c',e,h2⟩:=hy;cases e;rw [IsTupleKey.inj h1 h2]
theorem ZcL:∀{x y:List El}{vs:List Value},Els prog w h x vs->Els prog w h y vs->x=y
 |_,_,_,.nil,.nil=>rfl
 |_,_,_,.cons a b,.cons c d=>by rw [Zjr a c,ZcL b d]
theorem ZeJ{h h':Heap}{e:El}{o:Obj}{es:Array DictEntry}{ep:Nat}(x:Xv prog w h e v)(ho:h.get? d=some o)(hd:o.data = .dict es ep)(hs:Heap.SameBut d h h'):Xv prog w h' e v:=by
 cases e with
 |inl k=>exact x
 |inr l=>
  obtain⟨b,e,q⟩:=x;exact⟨b,e,q.keeps ho hd hs⟩
theorem Za0{h h':Heap}{o:Obj}{es:Array DictEntry}{ep:Nat}(ho:h.get? d=some o)(hd:o.data = .dict es ep)(hs:Heap.SameBut d h h'):∀{l:List El}{vs:List Value},Els prog w h l vs->Els prog w h' l vs
 |_,_,.nil => .nil
 |_,_,.cons a b => .cons (ZeJ a ho hd hs) (Za0 ho hd hs b)
theorem ZdU{h h':Heap}{ks:List El}{o:Obj}{es:Array DictEntry}{ep:Nat}(x:IsN prog w h ks a)(ho:h.get? d=some o)(hd:o.data = .dict es ep)(hs:Heap.SameBut d h h'):IsN prog w h' ks a:=by
 obtain⟨o',items,n,h1,h2,h3,h4⟩:=x;refine⟨o',items,n,?_,h2,h3,Za0 ho hd hs h4⟩
 have ne:a≠d:=λz=>by
  subst z;rw [ho]at h1;cases h1;rw [hd]at h3;cases h3
 exact(hs.2 a ne).trans h1
variable{A:Around}{E:Value->Shared->Prop}{s:Shared}
theorem Zg0{e:El}{Q:Int->Shared->Prop}(hu:A.units<cLine)(x:Xv prog w s.heap e v)(h:Q (elH prog w e) { s with toks:=s.toks+elN e }):wpAny 'h' A (pyHash v) Q E s:=by
 cases e with
 |inl k=>exact(Xg prog w).pyHash x h
 |inr l=>
  obtain⟨b,rfl,q⟩:=x;exact wpAny_pyHash_tuple hu q h
def nH(prog:Program)(w:World)(ks:List El):Int:=reduceHash (Builtin.Tuple.tupleHashOf (ks.map (elH prog w)))
theorem Zjs{ks:List El}{Q:Int->Shared->Prop}(hu:A.units+1<cLine)(x:IsN prog w s.heap ks a)(h:Q (nH prog w ks) { s with toks:=s.toks+(YN ks+1) }):wpAny 'h' A (pyHash (.ref a)) Q E s:=by
 have hT:=x.typeIs;obtain⟨o,items,n,h1,h2,h3,h4⟩:=x;show wpAny 'h' A (pyHashByItsType (.ref a)) Q E s;refine W.pyHash_slot hT F.slot_tuple_hash F.entry_tuple_hash (F.args_tuple_hash_1 _) rfl (.inr 'a') ?_;unfold Builtin.«tuple.__hash__»;show wpAny 'h' A.in1 (Builtin.Tuple.tupleItemsOf (.ref a) >>= _) _ E s;refine jb (wpAny_tupleItemsOf h1 h3 (jb ?_))
 rw [<-Array.forIn_toList];refine wpAny_forIn_list _ (λrest b s'=>∃done left,ks=done++left/\Els prog w s.heap left rest/\b.toList=done.map (elH prog w)/\s'={ s with toks:=s.toks+YN done }) _ ?_ ?_ items.toList #[] ⟨[],ks,rfl,h4,rfl,rfl⟩
 . rintro v rest b s' ⟨done,left,e1,e2,e3,rfl⟩
   cases e2 with
   |cons q1 q2=>
   rename_i e l;refine jb (Zg0 (by show A.units+1<_;omega) q1 (jf ⟨done++[e],l,by rw [e1,qr];rfl,q2,?_,?_⟩))
   . rw [Array.toList_push,e3,jm];rfl
   . rw [ZbI];simp [YN,Nat.add_assoc]
 . rintro b s' ⟨done,left,e1,e2,e3,rfl⟩
   cases e2;rw [qj]at e1;subst e1;dsimp only;refine ZcK ⟨_,_,rfl,?_⟩;rw [e3];exact h
def eP:El->PyData
 | .inl k=>oP k
 | .inr l => .tuple (l.map oP)
theorem Zam:∀{l:List (Option Int)}{vs:List Value},ItemsAre (Xg prog w) l vs->ReadsAll h vs (l.map oP) []
 |_,_,.nil => .nil
 |_,_,.cons a b => .cons (as:=[]) (bs:=[]) (ZaZ a) (Zam b)
theorem ZeK{e:El}(x:Xv prog w h e v):Reads h v (eP e) []:=by
 cases e with
 |inl k=>exact ZaZ x
 |inr l=>
  obtain⟨b,rfl,o,items,n,h1,h2,h3,h4⟩:=x;exact .tuple h1 h2 h3 (Zam h4)
theorem QW:∀{l:List El}{vs:List Value},Els prog w h l vs->ReadsAll h vs (l.map eP) []
 |_,_,.nil => .nil
 |_,_,.cons a b => .cons (as:=[]) (bs:=[]) (ZeK a) (QW b)
theorem Zir:∀l:List (Option Int),PyData.canLayAll0 (l.map oP)=true/\PyData.depthAll (l.map oP)=0
 | []=>⟨rfl,rfl⟩
 |k::l=>by
  obtain⟨h1,h2⟩:=Zir l;obtain⟨h3,h4⟩:=ZfS k;exact⟨by rw [jp,PyData.canLayAll0,h1,h3];rfl,by rw [jp,PyData.depthAll,h2,h4];rfl⟩
theorem ZkU(e:El):(eP e).canLay0=true/\(eP e).depth<=1:=by
 cases e with
 |inl k=>obtain⟨h1,h2⟩:=ZfS k;exact⟨h1,by show(oP k).depth<=1;omega⟩
 |inr l=>
  obtain⟨h1,h2⟩:=Zir l;refine⟨by show PyData.canLay0 (.tuple (l.map oP))=true;rw [PyData.canLay0,h1],?_⟩;show PyData.depth (.tuple (l.map oP))<=1;rw [PyData.depth,h2];exact jk _
theorem Uu:∀l:List El,PyData.canLayAll0 (l.map eP)=true/\PyData.depthAll (l.map eP)<=1
 | []=>⟨rfl,jR _⟩
 |k::l=>by
  obtain⟨h1,h2⟩:=Uu l;obtain⟨h3,h4⟩:=ZkU k;refine⟨by rw [jp,PyData.canLayAll0,h1,h3];rfl,?_⟩;rw [jp,PyData.depthAll];exact Nat.max_le.mpr ⟨h4,h2⟩
theorem ZfU:∀a b:List (Option Int),PyData.eqvAll (a.map oP) (b.map oP)=decide (a=b)
 | [],[]=>by simp [PyData.eqvAll]
 | [],y::b=>by simp [PyData.eqvAll]
 |x::a,[]=>by simp [PyData.eqvAll]
 |x::a,y::b=>by
  rw [jp,jp,PyData.eqvAll,ZfT,ZfU a b,<-Bool.decide_and];simp
theorem ZkV(a b:El):(eP a).eqv (eP b)=decide (a=b):=by
 cases a with
 |inl x=>cases b with
  |inl y=>
   show(oP x).eqv (oP y)=_;rw [ZfT];simp
  |inr y=>cases x<;>simp [eP,oP,PyData.eqv]
 |inr x=>cases b with
  |inl y=>cases y<;>simp [eP,oP,PyData.eqv]
  |inr y=>
   show PyData.eqvAll (x.map oP) (y.map oP)=_;rw [ZfU];simp
theorem ZfV:∀a b:List El,PyData.eqvAll (a.map eP) (b.map eP)=decide (a=b)
 | [],[]=>by simp [PyData.eqvAll]
 | [],y::b=>by simp [PyData.eqvAll]
 |x::a,[]=>by simp [PyData.eqvAll]
 |x::a,y::b=>by
  rw [jp,jp,PyData.eqvAll,ZkV,ZfV a b,<-Bool.decide_and];simp
theorem Zm7{x y:List El}{Q:Bool->Shared->Prop}(hu:A.units+2<cLine)(hx:IsN prog w s.heap x a)(hy:IsN prog w s.heap y b)(h:Q (decide (x=y)) s):wpAny 'h' A (eqBool (.ref a) (.ref b)) Q E s:=by
 obtain⟨o,items,n,h1,h2,h3,h4⟩:=hx;obtain⟨o',items',n',g1,g2,g3,g4⟩:=hy;have dx:(PyData.tuple (x.map eP)).depth<=2:=by rw [PyData.depth];have:=(Uu x).2;omega
 refine SeqAt.eqBoolOverData prog w A E s _ _ (.tuple (x.map eP)) (.tuple (y.map eP)) [] [] Q (.tuple h1 h2 h3 (QW h4)) (.tuple g1 g2 g3 (QW g4)) (by rw [PyData.canLay0,(Uu x).1]) (by rw [PyData.canLay0,(Uu y).1]) 'a' ?_;show Q (PyData.eqvAll (x.map eP) (y.map eP)) s;rw [ZfV];exact h
theorem Za1 {o:Obj} {items:Array Value} {n m:Nat} {Q:Bool->Shared->Prop} (h1:s.heap.get? a=some o) (h2:o.cls=Value.type "tuple") (h3:o.data = .seq items n) (hq:∀v∈items.toList,∀Q:Bool->Shared->Prop,Q true s->wpAny 'h' A (eqIsQuiet m v) Q E s) (h:Q true s):wpAny 'h' A (eqIsQuiet (m+1) (.ref a)) Q E s:=by
 have hT:s.TypeIs (.ref a) "tuple" := ⟨o,h1,h2⟩
 rw [eqIsQuiet.eq_def];refine jb (wpAny_specialOf hT F.slot_tuple_eq.lookup ?_);refine jb (yL hT isSubtype_tuple_tuple ?_);refine jb (ye h1 h3 (jb ?_));show wpAny 'h' A (forIn items (none,()) _) _ E s;rw [<-Array.forIn_toList];refine wpAny_forIn_list _ (λrest r s'=>r.fst=none/\s'=s/\∀v∈rest,v∈items.toList) _ ?_ ?_ items.toList (none,()) ⟨rfl,rfl,λ_ z=>z⟩
 . rintro v rest r s' ⟨e1,rfl,e3⟩
   exact jb (hq v (e3 v jj) _ (jf ⟨rfl,rfl,λu hu=>e3 u (jq _ hu)⟩))
 . rintro⟨r1,r2⟩ s' ⟨e1,rfl,_⟩
   cases(show r1=none from e1);exact jf h
theorem ZcM:∀{l:List El}{vs:List Value},Els prog w h l vs->∀v∈vs,∃e,Xv prog w h e v
 |_,_,.nil,v,hv=>by cases hv
 |_,_,.cons a b,v,hv=>by
  rcases jA.mp hv with rfl|hv
  . exact⟨_,a⟩
  . exact ZcM b v hv
theorem Zg1{ks:List El}{Q:Bool->Shared->Prop}(x:IsN prog w s.heap ks a)(h:Q true s):wpAny 'h' A (eqIsQuiet 8 (.ref a)) Q E s:=by
 obtain⟨o,items,n,h1,h2,h3,h4⟩:=x;refine Za1 h1 h2 h3 (λv hv Q hQ => ?_) h;obtain⟨e,he⟩:=ZcM h4 v hv;cases e with
 |inl k=>
  rw [eqIsQuiet_byValue _ ((Xg prog w).byValue k v he)];exact jf hQ
 |inr l=>
  obtain⟨b,rfl,o',items',n',g1,g2,g3,g4⟩:=he;refine Za1 g1 g2 g3 (λu hu Q' hQ' => ?_) hQ;rw [eqIsQuiet_byValue _ (g4.byValue u hu)];exact jf hQ'
end
def Uv(prog:Program)(w:World):HeapKind prog w (List El) where
 is:=IsN prog w
 hash:=nH prog w
 draws:=λks=>YN ks+1
 room:=λA=>A.units+2<cLine
 inj:=λhx hy=>by
  obtain⟨o,items,n,h1,h2,h3,h4⟩:=hx;obtain⟨o',items',n',g1,g2,g3,g4⟩:=hy;rw [h1]at g1;cases g1;rw [h3]at g3;cases g3;exact ZcL h4 g4
 keeps:=λx ho hd hs=>ZdU x ho hd hs
 pyHash:=λhu hk h=>Zjs (ym (Nat.le_succ _) hu) hk h
 eqBool:=λhu hx hy h=>Zm7 hu hx hy h
 quiet:=λhk h=>Zg1 hk h
end NK
namespace NK
open PySem PySem.Spec L2 PyProof.Rows
def oV:Option Int->V
 |some i => .int i
 |none => .non
def elV(H:Hp):El->V->Prop
 | .inl k,v=>v=oV k
 | .inr l,v=>∃b,v = .ref b/\H b=some (.tup (l.map oV))
inductive ElsV(H:Hp):List El->List V->Prop
 |nil:ElsV H [] []
 |cons {e:El} {v:V} {l:List El} {vs:List V}:elV H e v->ElsV H l vs->ElsV H (e::l) (v::vs)
def KyH(H:Hp)(ks:List El)(b:Addr):Prop:=∃vs,H b=some (.tup vs)/\ElsV H ks vs
section
variable{P:Program}{w:World}{H:Hp}{h:Heap}
theorem ZmF{k:Option Int}(r:RelV (oV k) u):oIs k u=true:=by
 cases k with
 |none=>cases r;rfl
 |some i=>obtain⟨t,rfl⟩:∃t,u=Value.int i t:=r;exact ZgZ _ _
theorem ZfW:∀{l:List (Option Int)}{us:List Value},Vals (l.map oV) us->ItemsAre (Xg P w) l us
 | [],us,r=>by cases r;exact .nil
 |k::l,us,r=>by
  cases r with
  |cons a b=>exact .cons (ZmF a) (ZfW b)
theorem ZcN(ok:HOk P w H h):∀{ks:List El}{vs:List V}{us:List Value},ElsV H ks vs->Vals vs us->Els P w h ks us
 |_,_,_,.nil,r=>by cases r;exact .nil
 |e::_,_,_,.cons a b,r=>by
  cases r with
  |cons ra rb=>
   refine .cons ?_ (ZcN ok b rb);cases e with
   |inl k=>
    cases(show _=oV k from a);exact ZmF ra
   |inr l=>
    obtain⟨c,e,q⟩:=a;subst e;cases ra;obtain⟨_,its,r,o,h1,h2,⟨n,h3⟩,_⟩:=(show ObjOk P w H h c (.tup (l.map oV))from ok c _ q)
    exact⟨c,rfl,o,its.toArray,n,h1,h2,h3,by simpa using ZfW r⟩
theorem KyH.is{ks:List El}{b:Addr}(ok:HOk P w H h)(k:KyH H ks b):(Uv P w).is h ks b:=by
 obtain⟨vs,e,q⟩:=k;obtain⟨_,its,r,o,h1,h2,⟨n,h3⟩,_⟩:=(show ObjOk P w H h b (.tup vs)from ok b _ e)
 exact⟨o,its.toArray,n,h1,h2,h3,by simpa using ZcN ok q r⟩
end
abbrev Row:=List El×Addr×Value
def elH0:El->Int
 | .inl k=>oH k
 | .inr l=>reduceHash (Builtin.Tuple.tupleHashOf (l.map oH))
def ent(x:Row):DictEntry:={ hash:=reduceHash (Builtin.Tuple.tupleHashOf (x.1.map elH0)),key := .ref x.2.1,val:=x.2.2 }
theorem ZfX(P:Program)(w:World)(x:Row):entryOfKey (Uv P w) x=ent x:=by
 have:elH P w=elH0:=by
  funext e
  cases e with
  |inl k=>rfl
  |inr l=>rfl
 show({ hash:=reduceHash (Builtin.Tuple.tupleHashOf (x.1.map (elH P w))),key := .ref x.2.1,val:=x.2.2 }:DictEntry)=_;rw [this];rfl
def NDat(a:Addr)(xs:List Row)(h:Heap):Prop:=∃o es ep,h.get? a=some o/\o.ExactDict/\o.data = .dict es ep/\es.toList=xs.map ent
theorem NDat.stay{a:Addr}{xs:List Row}{h1 h2:Heap}(x:NDat a xs h1)(k:∀o,h1.get? a=some o->h2.get? a=some o):NDat a xs h2:=by
 obtain⟨o,es,ep,e,q⟩:=x;exact⟨o,es,ep,k o e,q⟩
theorem Zjt{xs:List Row}(x:NDat a xs h):ObjOk P w H h a (.ext (NDat a xs)):=by
 refine⟨x,?_,λh1 h2 q k=>q.stay k⟩;obtain⟨o,_,_,e,_⟩:=x;exact⟨o,e⟩
end NK
namespace DL
open PySem PySem.Spec L2
inductive D where
 |non
 |bl (b:Bool)
 |int (i:Int)
 |str (cs:List Nat)
 |lst (xs:List D)
 |tup (xs:List D)
 |obj (c:String) (ks:List String) (xs:List D)
 |dct (ks:List Key) (xs:List D)
 |dtt (ks:List (List Key)) (xs:List D)
 |dnn (xs:List D)
def nkO:D->Option (Option Int)
 | .non=>some none
 | .int i=>some (some i)
 |_=>none
def Vg:List D->Option (List (Option Int))
 | []=>some []
 |x::xs=>match nkO x,Vg xs with
  |some k,some l=>some (k::l)
  |_,_=>none
def nkE:D->Option NK.El
 | .tup xs=>(Vg xs).map .inr
 |x=>(nkO x).map .inl
def VM:List D->Option (List NK.El)
 | []=>some []
 |x::xs=>match nkE x,VM xs with
  |some k,some l=>some (k::l)
  |_,_=>none
def nkK:D->Option (List NK.El)
 | .tup xs=>VM xs
 |_=>none
def Yk:List D->List V->List NK.Row->Prop
 | [],[],[]=>True
 |k::_::xs,u::w::vs,r::rows=>nkK k=some r.1/\u = .ref r.2.1/\RelV w r.2.2/\Yk xs vs rows
 |_,_,_=>False
def NDA(a:Addr)(xs:List D)(vs:List V)(h:Heap):Prop:=∃rows,NK.NDat a rows h/\Yk xs vs rows/\(rows.map (·.1)).Nodup/\rows.length<=100000/\(a == sysModules)=false
def KL(K:Frag)(a:Addr)(vs:List V):Prop:=∃(o:Obj) (its:Array Value) (n:Nat),K.lookup a=some o/\o.cls = .type "list" /\ o.dict=none/\o.data = .seq its n/\its.size<=sizeLine/\Vals vs its.toList
structure Kn where
 c:String->Addr
 K:Frag
def Zu:D->Bool
 | .non=>true
 | .bl _=>true
 | .int _=>true
 | .str _=>true
 |_=>false
mutual
def Rep(cA:Kn)(av:Addr->Prop)(H:Hp):D->V->Prop
 | .non,v=>v = .non
 | .bl b,v=>v = .bl b
 | .int i,v=>v = .int i
 | .str cs,v=>v=S cs
 | .lst xs,v=>∃a vs,v = .ref a/\(av a->KL cA.K a vs)/\SqL cA.K H a vs/\RepL cA av H xs vs
 | .tup xs,v=>∃a vs,v = .ref a/\¬av a/\H a=some (.tup vs)/\RepL cA av H xs vs
 | .obj c ks xs,v=>∃a dx vs,v = .ref a/\¬av a/\H a=some (.ins (cA.c c) dx ((ks.map Str.ofString).zip vs))/\ks.length=xs.length/\RepL cA av H xs vs
 | .dct ks xs,v=>∃a vs,v = .ref a/\¬av a/\H a=some (.dK (ks.zip vs))/\ks.length=xs.length/\RepL cA av H xs vs
 | .dtt ks xs,v=>∃a vs,v = .ref a/\¬av a/\H a=some (.dT (ks.zip vs))/\ks.length=xs.length/\RepL cA av H xs vs
 | .dnn xs,v=>∃a vs,v = .ref a/\¬av a/\H a=some (.ext (NDA a xs vs))/\True/\RepL cA av H xs vs
def RepL(cA:Kn)(av:Addr->Prop)(H:Hp):List D->List V->Prop
 | [],vs=>vs=[]
 |x::xs,vs=>∃v r,vs=v::r/\Rep cA av H x v/\RepL cA av H xs r
end
section
variable{cA:Kn}{G:Cn}{av av':Addr->Prop}{H H':Hp}
theorem Rd.ext{a:Addr}{u:HO}(h:Rd H a u)(k:∀o,H a=some o->H' a=some o):Rd H' a u:=by
 rcases h with h|⟨o,h⟩
 . exact .inl (k _ h)
 . exact .inr ⟨o,k _ h⟩
theorem Rd.there{a:Addr}{u:HO}(h:Rd H a u):H a≠none:=by
 rcases h with h|⟨o,h⟩<;>rw [h]<;>exact λz=>by cases z
theorem ZfY{K:Frag}(n:av a->KL K a vs)(r:SqL K H a vs)(k:∀b o,¬av b->H b=some o->H' b=some o):SqL K H' a vs:=by
 by_cases h:av a
 . exact .inr (n h)
 . rcases r with r|r
   . exact .inl (Rd.ext r λo=>k a o h)
   . exact .inr r
theorem ZkW{K:Frag}(n:av a->KL K a vs)(r:SqL K H a vs)(k:∀b,av' b->av b\/H b=none):av' a->KL K a vs:=λz=>by
 rcases k a z with z|z
 . exact n z
 . rcases r with r|r
   . exact absurd z (Rd.there r)
   . exact r
mutual
theorem Rep.ext:∀{d:D}{v:V},(∀b o,¬av b->H b=some o->H' b=some o)->Rep cA av H d v->Rep cA av H' d v
 | .non,_,_,h=>h
 | .bl _,_,_,h=>h
 | .int _,_,_,h=>h
 | .str _,_,_,h=>h
 | .lst xs,v,k,h=>by
  unfold Rep at h ⊢;obtain⟨a,vs,e,n,r,l⟩:=h;exact⟨a,vs,e,n,ZfY n r k,RepL.ext k l⟩
 | .tup xs,v,k,h=>by
  unfold Rep at h ⊢;obtain⟨a,vs,e,n,r,l⟩:=h;exact⟨a,vs,e,n,k a _ n r,RepL.ext k l⟩
 | .obj c ks xs,v,k,h=>by
  unfold Rep at h ⊢;obtain⟨a,dx,vs,e,n,r,z,l⟩:=h;exact⟨a,dx,vs,e,n,k a _ n r,z,RepL.ext k l⟩
 | .dct ks xs,v,k,h=>by
  unfold Rep at h ⊢;obtain⟨a,vs,e,n,r,z,l⟩:=h;exact⟨a,vs,e,n,k a _ n r,z,RepL.ext k l⟩
 | .dtt ks xs,v,k,h=>by
  unfold Rep at h ⊢;obtain⟨a,vs,e,n,r,z,l⟩:=h;exact⟨a,vs,e,n,k a _ n r,z,RepL.ext k l⟩
 | .dnn xs,v,k,h=>by
  unfold Rep at h ⊢;obtain⟨a,vs,e,n,r,z,l⟩:=h;exact⟨a,vs,e,n,k a _ n r,z,RepL.ext k l⟩
theorem RepL.ext:∀{xs:List D}{vs:List V},(∀b o,¬av b->H b=some o->H' b=some o)->RepL cA av H xs vs->RepL cA av H' xs vs
 | [],_,_,h=>h
 |x::xs,vs,k,h=>by
  unfold RepL at h ⊢;obtain⟨v,r,e,h1,h2⟩:=h;exact⟨v,r,e,Rep.ext k h1,RepL.ext k h2⟩
end
mutual
theorem Rep.av:∀{d:D}{v:V},(∀b,av' b->av b\/H b=none)->Rep cA av H d v->Rep cA av' H d v
 | .non,_,_,h=>h
 | .bl _,_,_,h=>h
 | .int _,_,_,h=>h
 | .str _,_,_,h=>h
 | .lst xs,v,k,h=>by
  unfold Rep at h ⊢;obtain⟨a,vs,e,n,r,l⟩:=h;exact⟨a,vs,e,ZkW n r k,r,RepL.av k l⟩
 | .tup xs,v,k,h=>by
  unfold Rep at h ⊢;obtain⟨a,vs,e,n,r,l⟩:=h;exact⟨a,vs,e,λz=>(k a z).elim n (by rw [r];exact λz=>by cases z),r,RepL.av k l⟩
 | .obj c ks xs,v,k,h=>by
  unfold Rep at h ⊢;obtain⟨a,dx,vs,e,n,r,z,l⟩:=h;exact⟨a,dx,vs,e,λy=>(k a y).elim n (by rw [r];exact λz=>by cases z),r,z,RepL.av k l⟩
 | .dct ks xs,v,k,h=>by
  unfold Rep at h ⊢;obtain⟨a,vs,e,n,r,z,l⟩:=h;exact⟨a,vs,e,λy=>(k a y).elim n (by rw [r];exact λz=>by cases z),r,z,RepL.av k l⟩
 | .dtt ks xs,v,k,h=>by
  unfold Rep at h ⊢;obtain⟨a,vs,e,n,r,z,l⟩:=h;exact⟨a,vs,e,λy=>(k a y).elim n (by rw [r];exact λz=>by cases z),r,z,RepL.av k l⟩
 | .dnn xs,v,k,h=>by
  unfold Rep at h ⊢;obtain⟨a,vs,e,n,r,z,l⟩:=h;exact⟨a,vs,e,λy=>(k a y).elim n (by rw [r];exact λz=>by cases z),r,z,RepL.av k l⟩
theorem RepL.av:∀{xs:List D}{vs:List V},(∀b,av' b->av b\/H b=none)->RepL cA av H xs vs->RepL cA av' H xs vs
 | [],_,_,h=>h
 |x::xs,vs,k,h=>by
  unfold RepL at h ⊢;obtain⟨v,r,e,h1,h2⟩:=h;exact⟨v,r,e,Rep.av k h1,RepL.av k h2⟩
end
theorem Rep.same{d:D}{v:V}(k:Same H H')(h:Rep cA av H d v):Rep cA av H' d v:=h.ext λb o _=>k b o
theorem RepL.same{xs:List D}{vs:List V}(k:Same H H')(h:RepL cA av H xs vs):RepL cA av H' xs vs:=h.ext λb o _=>k b o
theorem RepL.nil:RepL cA av H [] []:=by unfold RepL;rfl
theorem RepL.cons{d:D}{v:V}{xs:List D}{vs:List V}(h:Rep cA av H d v)(t:RepL cA av H xs vs):RepL cA av H (d::xs) (v::vs):=by
 unfold RepL;exact⟨v,vs,rfl,h,t⟩
theorem RepL.uncons{d:D}{xs:List D}{vs:List V}(h:RepL cA av H (d::xs) vs):∃v r,vs=v::r/\Rep cA av H d v/\RepL cA av H xs r:=by
 unfold RepL at h;exact h
theorem RepL.nil_of{vs:List V}(h:RepL cA av H [] vs):vs=[]:=by
 unfold RepL at h;exact h
theorem RepL.length:∀{xs:List D}{vs:List V},RepL cA av H xs vs->xs.length=vs.length
 | [],vs,h=>by rw [h.nil_of];rfl
 |x::xs,vs,h=>by
  obtain⟨v,r,rfl,_,t⟩:=h.uncons;rw [jx,jx,RepL.length t]
theorem RepL.get:∀{xs:List D}{vs:List V}{i:Nat}{x:D},RepL cA av H xs vs->xs[i]? = some x->∃v,vs[i]? = some v/\Rep cA av H x v
 | [],_,_,_,_,e=>by simp at e
 |y::xs,vs,0,x,h,e=>by
  obtain⟨v,r,rfl,h1,_⟩:=h.uncons;simp at e;subst e;exact⟨v,rfl,h1⟩
 |y::xs,vs,i+1,x,h,e=>by
  obtain⟨v,r,rfl,_,t⟩:=h.uncons;obtain⟨u,h1,h2⟩:=RepL.get (i:=i) t (by simpa using e);exact⟨u,by simpa using h1,h2⟩
theorem RepL.append:∀{xs ys:List D}{vs ws:List V},RepL cA av H xs vs->RepL cA av H ys ws->RepL cA av H (xs++ys) (vs++ws)
 | [],_,vs,_,h,t=>by rw [h.nil_of];exact t
 |x::xs,ys,vs,ws,h,t=>by
  obtain⟨v,r,rfl,h1,h2⟩:=h.uncons;exact .cons h1 (RepL.append h2 t)
theorem RepL.set{d:D}{v:V}(hd:Rep cA av H d v):∀{xs:List D}{vs:List V}(i:Nat),RepL cA av H xs vs->RepL cA av H (xs.set i d) (vs.set i v)
 | [],vs,_,h=>by rw [h.nil_of];exact .nil
 |x::xs,vs,0,h=>by
  obtain⟨v',r,rfl,h1,h2⟩:=h.uncons;exact .cons hd h2
 |x::xs,vs,i+1,h=>by
  obtain⟨v',r,rfl,h1,h2⟩:=h.uncons;exact .cons h1 (RepL.set hd i h2)
def val:D->V
 | .bl b => .bl b
 | .int i => .int i
 | .str cs=>S cs
 |_ => .non
theorem Rep.val{d:D}{v:V}(hs:Zu d=true)(h:Rep cA av H d v):v=DL.val d:=by
 cases d<;>first|exact h|cases hs
theorem Rep.of_val{d:D}(hs:Zu d=true):Rep cA av H d (DL.val d):=by
 cases d<;>first|rfl|cases hs
theorem RepL.vals:∀{xs:List D}{vs:List V},xs.all Zu=true->RepL cA av H xs vs->vs=xs.map DL.val
 | [],vs,_,h=>h.nil_of
 |x::xs,vs,hs,h=>by
  rw [yI,jV]at hs;obtain⟨v,r,rfl,h1,h2⟩:=h.uncons;rw [jp,h1.val hs.1,RepL.vals hs.2 h2]
theorem RepL.of_vals:∀{xs:List D},xs.all Zu=true->RepL cA av H xs (xs.map DL.val)
 | [],_ => .nil
 |x::xs,hs=>by
  rw [yI,jV]at hs;exact .cons (.of_val hs.1) (RepL.of_vals hs.2)
def RepT(cA:Kn)(t i:Addr->Prop)(H:Hp):D->V->Prop
 | .lst xs,v=>∃a vs,v = .ref a/\(t a->KL cA.K a vs)/\SqL cA.K H a vs/\RepL cA i H xs vs
 | .tup xs,v=>∃a vs,v = .ref a/\¬t a/\H a=some (.tup vs)/\RepL cA i H xs vs
 | .obj c ks xs,v=>∃a dx vs,v = .ref a/\¬t a/\H a=some (.ins (cA.c c) dx ((ks.map Str.ofString).zip vs))/\ks.length=xs.length/\RepL cA i H xs vs
 | .dct ks xs,v=>∃a vs,v = .ref a/\¬t a/\H a=some (.dK (ks.zip vs))/\ks.length=xs.length/\RepL cA i H xs vs
 | .dtt ks xs,v=>∃a vs,v = .ref a/\¬t a/\H a=some (.dT (ks.zip vs))/\ks.length=xs.length/\RepL cA i H xs vs
 | .dnn xs,v=>∃a vs,v = .ref a/\¬t a/\H a=some (.ext (NDA a xs vs))/\True/\RepL cA i H xs vs
 |d,v=>v=DL.val d
theorem Rep.t{d:D}{v:V}(h:Rep cA av H d v):RepT cA av av H d v:=by
 cases d<;>first|exact h|(unfold Rep at h;exact h)
theorem RepT.r{d:D}{v:V}(h:RepT cA av av H d v):Rep cA av H d v:=by
 cases d<;>first|exact h|(unfold Rep;exact h)
theorem RepT.weak{t t' i i':Addr->Prop}{d:D}{v:V}(ht:∀a,t' a->t a)(hi:∀a,i' a->i a)(h:RepT cA t i H d v):RepT cA t' i' H d v:=by
 cases d with
 |lst xs=>obtain⟨a,vs,e,n,r,l⟩:=h;exact⟨a,vs,e,λz=>n (ht a z),r,l.av λb z => .inl (hi b z)⟩
 |tup xs=>obtain⟨a,vs,e,n,r,l⟩:=h;exact⟨a,vs,e,λz=>n (ht a z),r,l.av λb z => .inl (hi b z)⟩
 |obj c ks xs=>obtain⟨a,dx,vs,e,n,r,z,l⟩:=h;exact⟨a,dx,vs,e,λz=>n (ht a z),r,z,l.av λb z => .inl (hi b z)⟩
 |dct ks xs=>obtain⟨a,vs,e,n,r,z,l⟩:=h;exact⟨a,vs,e,λz=>n (ht a z),r,z,l.av λb z => .inl (hi b z)⟩
 |dtt ks xs=>obtain⟨a,vs,e,n,r,z,l⟩:=h;exact⟨a,vs,e,λz=>n (ht a z),r,z,l.av λb z => .inl (hi b z)⟩
 |dnn xs=>obtain⟨a,vs,e,n,r,z,l⟩:=h;exact⟨a,vs,e,λz=>n (ht a z),r,z,l.av λb z => .inl (hi b z)⟩
 |_=>exact h
theorem RepT.same{t i:Addr->Prop}{d:D}{v:V}(k:Same H H')(h:RepT cA t i H d v):RepT cA t i H' d v:=by
 cases d with
 |lst xs=>obtain⟨a,vs,e,n,r,l⟩:=h;exact⟨a,vs,e,n,k.seq r,l.same k⟩
 |tup xs=>obtain⟨a,vs,e,n,r,l⟩:=h;exact⟨a,vs,e,n,k a _ r,l.same k⟩
 |obj c ks xs=>obtain⟨a,dx,vs,e,n,r,z,l⟩:=h;exact⟨a,dx,vs,e,n,k a _ r,z,l.same k⟩
 |dct ks xs=>obtain⟨a,vs,e,n,r,z,l⟩:=h;exact⟨a,vs,e,n,k a _ r,z,l.same k⟩
 |dtt ks xs=>obtain⟨a,vs,e,n,r,z,l⟩:=h;exact⟨a,vs,e,n,k a _ r,z,l.same k⟩
 |dnn xs=>obtain⟨a,vs,e,n,r,z,l⟩:=h;exact⟨a,vs,e,n,k a _ r,z,l.same k⟩
 |_=>exact h
end
abbrev Env:=List (Option D)
structure Cn where
 cA:Kn
 pin:Nat->Option (Addr ⊕ V)
def AV(av:Addr->Prop)(A:Nat->Option Addr)(a:Addr):Prop:=av a\/∃i,A i=some a
def Own(cA:Kn)(av:Addr->Prop)(H:Hp):D->Addr->Prop
 | .lst xs,a=>∃vs,H a=some (.lst vs)/\RepL cA av H xs vs
 | .obj c ks xs,a=>∃dx vs,H a=some (.ins (cA.c c) dx ((ks.map Str.ofString).zip vs))/\ks.length=xs.length/\RepL cA av H xs vs
 | .dct ks xs,a=>∃vs,H a=some (.dK (ks.zip vs))/\ks.length=xs.length/\RepL cA av H xs vs
 | .dtt ks xs,a=>∃vs,H a=some (.dT (ks.zip vs))/\ks.length=xs.length/\RepL cA av H xs vs
 | .dnn xs,a=>∃vs,H a=some (.ext (NDA a xs vs))/\True/\RepL cA av H xs vs
 |_,_=>False
structure ER(G:Cn)(ow:List Nat)(H0:Hp)(av:Addr->Prop)(A:Nat->Option Addr)(σ:St)(H:Hp)(δ:Env):Prop where
 same:Same H0 H
 avd:∀a,av a->H0 a≠none
 fr:∀i a,A i=some a->H0 a=none
 inj:∀i j a,A i=some a->A j=some a->i=j
 live:∀i a,A i=some a->H a≠none
 dom:∀i,A i≠none->i∈ow
 dom':∀i∈ow,A i≠none
 len:σ.length=δ.length
 pin:∀i a,G.2 i=some (.inl a)->A i=some a
 kept:∀i v,G.2 i=some (.inr v)->σ[i]? = some (some v)
 var:∀(i:Nat)(d:D),δ[i]? = some (some d)->∃v,σ[i]? = some (some v)/\(A i=none->Rep G.1 (AV av A) H d v)/\(∀a,A i=some a->v = .ref a/\Own G.1 (AV av A) H d a)
inductive Ql where
 |cl|tp|dt
def RepQ(cA:Kn)(av:Addr->Prop)(A:Nat->Option Addr)(H:Hp):Ql->D->V->Prop
 | .cl,d,v=>RepT cA (AV av A) (AV av A) H d v
 | .tp,d,v=>RepT cA av (AV av A) H d v
 | .dt,d,v=>RepT cA av av H d v
def Ql.it:Ql->Ql
 | .dt => .dt
 |_ => .cl
section
variable{cA:Kn}{G:Cn}{ow:List Nat}{H0 H H':Hp}{av:Addr->Prop}{A:Nat->Option Addr}{σ:St}{δ:Env}
def Ql.iv(q:Ql)(av:Addr->Prop)(A:Nat->Option Addr):Addr->Prop:=match q with
 | .dt=>av
 |_=>AV av A
theorem RepQ.tp{q:Ql}{d:D}{v:V}(h:RepQ cA av A H q d v):RepT cA av (q.iv av A) H d v:=by
 cases q with
 |cl=>exact h.weak (λa => .inl) λa z=>z
 |tp=>exact h
 |dt=>exact h
theorem RepQ.any{q:Ql}{d:D}{v:V}(h:RepQ cA av A H q d v):Rep cA av H d v:=by
 cases q with
 |cl=>exact(h.weak (λa => .inl) λa => .inl).r
 |tp=>exact(h.weak (λa z=>z) λa => .inl).r
 |dt=>exact h.r
theorem RepQ.same{q:Ql}{d:D}{v:V}(k:Same H H')(h:RepQ cA av A H q d v):RepQ cA av A H' q d v:=by
 cases q<;>exact RepT.same k h
theorem ER.mono(E:ER G ow H0 av A σ H δ)(k:Same H H'):ER G ow H0 av A σ H' δ:=by
 refine⟨E.same.trans k,E.avd,E.fr,E.inj,λi a e => ?_,E.dom,E.dom',E.len,E.pin,E.kept,λi d e => ?_⟩
 . have:=E.live i a e
   cases q:H a with
   |none=>exact absurd q this
   |some o=>rw [k a o q];exact λz=>by cases z
 . obtain⟨v,h1,h2,h3⟩:=E.var i d e
   refine⟨v,h1,λz=>(h2 z).same k,λa z=>⟨(h3 a z).1,?_⟩⟩;have:=(h3 a z).2;cases d with
   |lst xs=>obtain⟨vs,q1,q2⟩:=this;exact⟨vs,k _ _ q1,q2.same k⟩
   |obj c ks xs=>obtain⟨dx,vs,q1,q0,q2⟩:=this;exact⟨dx,vs,k _ _ q1,q0,q2.same k⟩
   |dct ks xs=>obtain⟨vs,q1,q0,q2⟩:=this;exact⟨vs,k _ _ q1,q0,q2.same k⟩
   |dtt ks xs=>obtain⟨vs,q1,q0,q2⟩:=this;exact⟨vs,k _ _ q1,q0,q2.same k⟩
   |dnn xs=>obtain⟨vs,q1,q0,q2⟩:=this;exact⟨vs,k _ _ q1,q0,q2.same k⟩
   |_=>exact this
theorem ER.avl(E:ER G ow H0 av A σ H δ):∀a,AV av A a->H a≠none:=λa h=>by
 rcases h with h|⟨i,h⟩
 . have:=E.avd a h
   cases q:H0 a with
   |none=>exact absurd q this
   |some o=>rw [E.same a o q];exact λz=>by cases z
 . exact E.live i a h
theorem ER.avH(E:ER G ow H0 av A σ H δ):∀a,av a->H a≠none:=λa h=>E.avl a (.inl h)
end
def VE(G:Cn)(ow:List Nat)(te:TE)(q:Ql)(ε:Env->Option D):Prop:=
 ∀H0 av A σ H δ,ER G ow H0 av A σ H δ->∀d,ε δ=some d->∀Q:VK,(∀v H',Same H H'->RepQ G.1 av A H' q d v->Q v H')->te σ H Q
def VF(G:Cn)(ow:List Nat)(te:TE)(ε:Env->Option D):Prop:=
 ∀H0 av A σ H δ,ER G ow H0 av A σ H δ->∀d,ε δ=some d->∀Q:VK,(∀p vs xs H1,Same H H1->H1 p=none->RepL G.1 (AV av A) H1 xs vs->d = .lst xs->Q (.ref p) (upd H1 p (.lst vs)))->te σ H Q
def VT(G:Cn)(ow:List Nat)(tt:TT)(τ:Env->Option Bool):Prop:=
 ∀H0 av A σ H δ,ER G ow H0 av A σ H δ->∀b,τ δ=some b->∀Q:Bool->Hp->Prop,(∀H',Same H H'->Q b H')->tt σ H Q
def RepQL(cA:Kn)(av:Addr->Prop)(A:Nat->Option Addr)(H:Hp)(q:Ql):List D->List V->Prop
 | [],vs=>vs=[]
 |x::xs,vs=>∃v r,vs=v::r/\RepQ cA av A H q x v/\RepQL cA av A H q xs r
def VA(G:Cn)(ow:List Nat)(ta:TA)(q:Ql)(α:Env->Option (List D)):Prop:=
 ∀H0 av A σ H δ,ER G ow H0 av A σ H δ->∀ds,α δ=some ds->∀Q:List V->Hp->Prop,(∀vs H',Same H H'->RepQL G.1 av A H' q ds vs->Q vs H')->ta σ H Q
section
variable{cA:Kn}{G:Cn}{ow:List Nat}
theorem RepQL.cl{av:Addr->Prop}{A:Nat->Option Addr}{H:Hp}:∀{xs:List D}{vs:List V},RepQL cA av A H .cl xs vs->RepL cA (AV av A) H xs vs
 | [],_,h=>by unfold RepL;exact h
 |x::xs,vs,h=>by
  obtain⟨v,r,e,h1,h2⟩:=h;subst e;exact .cons (RepT.r h1) (RepQL.cl h2)
theorem RepQL.any{av:Addr->Prop}{A:Nat->Option Addr}{H:Hp}{q:Ql}:∀{xs:List D}{vs:List V},RepQL cA av A H q xs vs->RepL cA av H xs vs
 | [],_,h=>by unfold RepL;exact h
 |x::xs,vs,h=>by
  obtain⟨v,r,e,h1,h2⟩:=h;subst e;exact .cons h1.any (RepQL.any h2)
theorem Yu{H:Hp}(h:H p=none):Same H (upd H p o):=ZeC h
theorem VF.cl{te:TE}{ε:Env->Option D}(h:VF G ow te ε):VE G ow te .cl ε:=λH0 av A σ H δ E d e Q k=>
 h H0 av A σ H δ E d e Q λp vs xs H1 s hp l hd=>by
  subst hd;refine k _ _ (s.trans (Yu hp)) ⟨p,vs,rfl,λz=>((E.mono s).avl p z hp).elim,SqL.of Zi,l.same (Yu hp)⟩
def Za(i:Nat)(δ:Env):Option D:=match δ[i]? with
 |some (some d)=>some d
 |_=>none
theorem Z9{i:Nat}{δ:Env}{d:D}(h:Za i δ=some d):δ[i]? = some (some d):=by
 unfold Za at h;cases e:δ[i]? with
 |none=>rw [e]at h;cases h
 |some o=>
  rw [e]at h;cases o with
  |none=>cases h
  |some x=>exact congrArg (some∘some) (jo h)
theorem VN(i:Nat)(hi:(ow.contains i)=false:=by rfl):VE G ow (Zl i) .cl (Za i):=λH0 av A σ H δ E d e Q k=>by
 obtain⟨v,h1,h2,_⟩:=E.var i d (Z9 e)
 have hn:A i=none:=by
  cases q:A i with
  |none=>rfl
  |some a=>
   have:=E.dom i (by rw [q];exact λz=>by cases z);simp at hi;exact absurd this hi
 exact⟨v,h1,k v H 'q' (h2 hn).t⟩
theorem Zju(i:Nat)(hi:(ow.contains i)=true):VE G ow (Zl i) .tp (Za i):=λH0 av A σ H δ E d e Q k=>by
 obtain⟨v,h1,_,h3⟩:=E.var i d (Z9 e);have hi':i∈ow:=by simpa using hi
 cases q:A i with
 |none=>exact absurd q (E.dom' i hi')
 |some a=>
  obtain⟨rfl,o⟩:=h3 a q;have na:¬av a:=λz=>E.avd a z (E.fr i a q)
  refine⟨_,h1,k _ H 'q' ?_⟩;cases d with
  |lst xs=>obtain⟨vs,q1,q2⟩:=o;exact⟨a,vs,rfl,λz=>(na z).elim,SqL.of q1,q2⟩
  |obj c ks xs=>obtain⟨dx,vs,q1,q0,q2⟩:=o;exact⟨a,dx,vs,rfl,na,q1,q0,q2⟩
  |dct ks xs=>obtain⟨vs,q1,q0,q2⟩:=o;exact⟨a,vs,rfl,na,q1,q0,q2⟩
  |dtt ks xs=>obtain⟨vs,q1,q0,q2⟩:=o;exact⟨a,vs,rfl,na,q1,q0,q2⟩
  |dnn xs=>obtain⟨vs,q1,q0,q2⟩:=o;exact⟨a,vs,rfl,na,q1,q0,q2⟩
  |_=>exact False.elim o
def eC(d:D)(_:Env):Option D:=some d
theorem ZmG{v:V}(hs:Zu d=true)(hv:v=val d):VE G ow (tC v) .cl (eC d):=λH0 av A σ H δ E d' e Q k=>by
 have e':d=d':=jo e;subst e' hv;exact k _ H 'q' (Rep.of_val hs).t
def Yv(cA:Kn)(r:R2)(f:D->D->Option D):Prop:=
 ∀(t t' i:Addr->Prop)(H:Hp)(x y:D)(vx vy:V)(d:D),(∀a,i a->H a≠none)->RepT cA t i H x vx->RepT cA t' i H y vy->f x y=some d->∀Q:VK,(∀v H',Same H H'->Rep cA i H' d v->Q v H')->r vx vy H Q
def eOp(f:D->D->Option D)(a b:Env->Option D)(δ:Env):Option D:=match a δ with
 |some x=>match b δ with
  |some y=>f x y
  |none=>none
 |none=>none
theorem Uw{f:D->D->Option D}{a b:Env->Option D}{d:D}(h:eOp f a b δ=some d):∃x y,a δ=some x/\b δ=some y/\f x y=some d:=by
 unfold eOp at h;cases ea:a δ with
 |none=>rw [ea]at h;cases h
 |some x=>
  rw [ea]at h;cases eb:b δ with
  |none=>rw [eb]at h;cases h
  |some y=>rw [eb]at h;exact⟨x,y,rfl,rfl,h⟩
def Ql.jn:Ql->Ql->Ql
 | .dt,_ => .dt
 |_,.dt => .dt
 |_,_ => .cl
theorem YY{r:R2}{qa qb:Ql}(hr:Yv G.1 r f)(ha:VE G ow ta qa a)(hb:VE G ow tb qb b):VE G ow (tOp r ta tb) (qa.jn qb) (eOp f a b):=λH0 av A σ H δ E d e Q k=>by
 obtain⟨x,y,ex,ey,ed⟩:=Uw e;refine ha H0 av A σ H δ E x ex _ λvx H1 s1 r1=>hb H0 av A σ H1 δ (E.mono s1) y ey _ λvy H2 s2 r2 => ?_
 have E2:=(E.mono s1).mono s2;have r1':=(r1.same s2).tp;have r2':=r2.tp;have key:∀i:Addr->Prop,(∀a,i a->H2 a≠none)->RepT G.1 av i H2 x vx->RepT G.1 av i H2 y vy->(∀v H',Same H2 H'->Rep G.1 i H' d v->Q v H')->r vx vy H2 Q:=λi hi h1 h2 h3=>hr av av i H2 x y vx vy d hi h1 h2 ed Q h3
 have toav:∀{dd:D}{v:V},RepT G.1 av (AV av A) H2 dd v->RepT G.1 av av H2 dd v:=λh=>h.weak (λa z=>z) λa => .inl
 cases qa with
 |dt=>
  refine key av E2.avH r1' ?_ λv H' s3 r3=>k v H' ((s1.trans s2).trans s3) r3.t
  cases qb with
  |dt=>exact r2'
  |cl=>exact toav r2'
  |tp=>exact toav r2'
 |cl=>
  cases qb with
  |dt=>exact key av E2.avH (toav r1') r2' λv H' s3 r3=>k v H' ((s1.trans s2).trans s3) r3.t
  |cl=>exact key _ E2.avl r1' r2' λv H' s3 r3=>k v H' ((s1.trans s2).trans s3) r3.t
  |tp=>exact key _ E2.avl r1' r2' λv H' s3 r3=>k v H' ((s1.trans s2).trans s3) r3.t
 |tp=>
  cases qb with
  |dt=>exact key av E2.avH (toav r1') r2' λv H' s3 r3=>k v H' ((s1.trans s2).trans s3) r3.t
  |cl=>exact key _ E2.avl r1' r2' λv H' s3 r3=>k v H' ((s1.trans s2).trans s3) r3.t
  |tp=>exact key _ E2.avl r1' r2' λv H' s3 r3=>k v H' ((s1.trans s2).trans s3) r3.t
end
mutual
def toP:D->PyData
 | .non => .none
 | .bl b => .bool b
 | .int i => .int i
 | .str cs => .str (tx cs)
 | .lst xs => .list (YZ xs)
 | .tup xs => .tuple (YZ xs)
 | .obj _ _ _ => .dict []
 | .dct _ _ => .dict []
 | .dtt _ _ => .dict []
 | .dnn _ => .dict []
def YZ:List D->List PyData
 | []=>[]
 |x::xs=>toP x::YZ xs
end
section
variable{X:Cx}{cA:Kn}
mutual
theorem VO{s:Shared}(hK:cA.K=X.K)(I:Inv X pins σ H s):∀(d:D)(v:V)(u:Value),PyData.canLay0 (toP d)=true->Rep cA av H d v->RelV v u->∃as,Reads s.heap u (toP d) as
 | .non,v,u,_,h,r=>by
  cases(show v = .non from h);cases r;exact⟨_,.none⟩
 | .bl b,v,u,_,h,r=>by
  cases(show v = .bl b from h);cases r;exact⟨_,.bool b⟩
 | .int i,v,u,_,h,r=>by
  cases(show v = .int i from h);obtain⟨t,rfl⟩:=r;exact⟨_,.int i t⟩
 | .str cs,v,u,_,h,r=>by
  cases(show v=S cs from h);obtain⟨t,rfl⟩:=r;exact⟨_,.str _ t⟩
 | .lst xs,v,u,c,h,r=>by
  unfold Rep at h;obtain⟨a,vs,rfl,_,rd,l⟩:=h;cases r;obtain⟨its,rv,⟨ob,n,e,hc,hd,hs⟩,z⟩:=I.list (show SqL X.K H a vs from hK▸rd);obtain⟨as,ra⟩:=QX hK I xs vs its (by unfold toP PyData.canLay0 at c;exact c) l rv;unfold toP;exact⟨_,.list e hc hs (by simpa using ra)⟩
 | .tup xs,v,u,c,h,r=>by
  unfold Rep at h;obtain⟨a,vs,rfl,_,rd,l⟩:=h;cases r;obtain⟨z,its,rv,ob,e,hc,⟨n,hd⟩,_⟩:=(show ObjOk X.prog X.w H s.heap a (.tup vs)from I.hok a _ rd)
  obtain⟨as,ra⟩:=QX hK I xs vs its (by unfold toP PyData.canLay0 at c;exact c) l rv;unfold toP;exact⟨_,.tuple e hc hd (by simpa using ra)⟩
 | .obj c' ks xs,v,u,c,h,r=>by
  unfold toP PyData.canLay0 at c;cases c
 | .dct ks xs,v,u,c,h,r=>by
  unfold toP PyData.canLay0 at c;cases c
 | .dtt ks xs,v,u,c,h,r=>by
  unfold toP PyData.canLay0 at c;cases c
 | .dnn xs,v,u,c,h,r=>by
  unfold toP PyData.canLay0 at c;cases c
theorem QX{s:Shared}(hK:cA.K=X.K)(I:Inv X pins σ H s):∀(xs:List D)(vs:List V)(us:List Value),PyData.canLayAll0 (YZ xs)=true->RepL cA av H xs vs->Vals vs us->∃as,ReadsAll s.heap us (YZ xs) as
 | [],vs,us,_,h,r=>by
  rw [h.nil_of]at r;cases r;exact⟨_,.nil⟩
 |x::xs,vs,us,c,h,r=>by
  obtain⟨v,rr,rfl,h1,h2⟩:=h.uncons;cases r with
  |cons r1 r2=>
   unfold YZ PyData.canLayAll0 at c;rw [jV]at c;obtain⟨a1,q1⟩:=VO hK I x v _ c.1 h1 r1;obtain⟨a2,q2⟩:=QX hK I xs rr _ c.2 h2 r2;unfold YZ;exact⟨_,.cons q1 q2⟩
end
end
def eqD(x y:D):Option D:=
 if Zu x&&Zu y&&XB (val x) (val y)then some (.bl (decide (val x=val y)))
 else if SeqAt.shaped (toP x)&&SeqAt.shaped (toP y)then some (.bl (PyData.eqv (toP x) (toP y)))else none
def neD(x y:D):Option D:=match eqD x y with
 |some (.bl b)=>some (.bl (!b))
 |_=>none
def Ux(cA:Kn)(neg:Bool):R2:=λx y H Q=>∃av av' dx dy b,Rep cA av H dx x/\Rep cA av' H dy y/\eqD dx dy=some (.bl b)/\Q (.bl (neg != b)) H
section
variable{X:Cx}{cA:Kn}
theorem ZfZ(hu:X.A.units+64<cLine)(hK:cA.K=X.K:=by rfl):OpR X (compareOp .Eq) (Ux cA false):=by
 intro pins s σ H x y v u Q I rx ry h;obtain⟨av,av',dx,dy,b,hx,hy,e,q⟩:=h;unfold eqD at e
 by_cases h1:(Zu dx&&Zu dy&&XB (val dx) (val dy))=true
 . rw [je h1]at e
   simp only [jV]at h1;obtain⟨⟨s1,s2⟩,s3⟩:=h1;have e1:=hx.val s1;have e2:=hy.val s2;subst e1 e2;have e':decide (val dx=val dy)=b:=by simpa using e
   exact Zim pins s σ H _ _ v u Q I rx ry ⟨s3,by rw [e'];simpa using q⟩
 . rw [jg h1]at e
   by_cases h2:(SeqAt.shaped (toP dx)&&SeqAt.shaped (toP dy))=true
   . rw [je h2]at e
     rw [jV]at h2;obtain⟨as,ra⟩:=VO hK I dx x v (yZ h2.1) hx rx;obtain⟨bs,rb⟩:=VO hK I dy y u (yZ h2.2) hy ry;have e':PyData.eqv (toP dx) (toP dy)=b:=by simpa using e
     exact PyProof.Rows.eq_dataH ra rb h2.1 h2.2 hu (by rw [e'];exact⟨.bl b,H,I,rfl,by simpa using q⟩)
   . rw [jg h2]at e
     cases e
theorem Zjv(hu:X.A.units+64<cLine)(hK:cA.K=X.K:=by rfl):OpR X (compareOp .NotEq) (Ux cA true):=by
 intro pins s σ H x y v u Q I rx ry h;obtain⟨av,av',dx,dy,b,hx,hy,e,q⟩:=h;unfold eqD at e
 by_cases h1:(Zu dx&&Zu dy&&XB (val dx) (val dy))=true
 . rw [je h1]at e
   simp only [jV]at h1;obtain⟨⟨s1,s2⟩,s3⟩:=h1;have e1:=hx.val s1;have e2:=hy.val s2;subst e1 e2;have e':decide (val dx=val dy)=b:=by simpa using e
   exact ZkJ pins s σ H _ _ v u Q I rx ry ⟨s3,by rw [e'];simpa using q⟩
 . rw [jg h1]at e
   by_cases h2:(SeqAt.shaped (toP dx)&&SeqAt.shaped (toP dy))=true
   . rw [je h2]at e
     rw [jV]at h2;obtain⟨as,ra⟩:=VO hK I dx x v (yZ h2.1) hx rx;obtain⟨bs,rb⟩:=VO hK I dy y u (yZ h2.2) hy ry;have e':PyData.eqv (toP dx) (toP dy)=b:=by simpa using e
     exact PyProof.Rows.ne_dataH ra rb h2.1 h2.2 hu (by rw [e'];exact⟨.bl (!b),H,I,rfl,by simpa using q⟩)
   . rw [jg h2]at e
     cases e
theorem RepT.av0{t i:Addr->Prop}{H:Hp}{d:D}{v:V}(h:RepT cA t i H d v):Rep cA (λ_=>False) H d v:=(h.weak (λ_ z=>z.elim) λ_ z=>z.elim).r
theorem Zf0{x y d:D}(h:eqD x y=some d):∃b,d = .bl b:=by
 unfold eqD at h
 split at h
 . exact⟨_,(jo h).symm⟩
 . split at h
   . exact⟨_,(jo h).symm⟩
   . cases h
theorem ZkX:Yv cA (Ux cA false) eqD:=λt t' i H x y vx vy d _ hx hy e Q k=>by
 obtain⟨b,rfl⟩:=Zf0 e;exact⟨_,_,x,y,b,hx.av0,hy.av0,e,k _ H 'q' (by cases b<;>rfl)⟩
theorem ZkY:Yv cA (Ux cA true) neD:=λt t' i H x y vx vy d _ hx hy e Q k=>by
 unfold neD at e;cases he:eqD x y with
 |none=>rw [he]at e;cases e
 |some z=>
  obtain⟨b,rfl⟩:=Zf0 he;rw [he]at e;have e':D.bl (!b)=d:=jo e;subst e';exact⟨_,_,x,y,b,hx.av0,hy.av0,he,k _ H 'q' (by cases b<;>rfl)⟩
def VP(x:List Nat)(n:Int):List Nat:=(List.replicate n.toNat x).flatten
theorem Za2(x:List Nat):∀(k:Nat)(acc:Array Nat),(List.replicate k x.toArray).foldl (· ++ ·) acc=acc++(List.replicate k x).flatten.toArray
 |0,acc=>by simp
 |k+1,acc=>by
  rw [qy,qy,uf,Za2 x k,qS];simp
theorem Zjw(x:List Nat)(n:Int):Txt.mul (tx x) n=tx (VP x n):=by
 unfold Txt.mul VP
 by_cases h1:n<1
 . rw [je h1]
   have:n.toNat=0:=by omega
   rw [this];rfl
 . rw [jg h1]
   by_cases h2:(n == 1||(tx x).length == 0)=true
   . rw [je h2]
     rw [Bool.or_eq_true]at h2;rcases h2 with h2|h2
     . have:n=1:=by simpa using h2
       subst this;simp
     . have : x = [] := by
        have:(tx x).length=0:=by simpa using h2
        rw [YX]at this;exact List.eq_nil_of_length_eq_zero this
       subst this;simp
   . rw [jg h2]
     have:=Za2 x n.toNat #[];rw [this];simp
def rMulS:R2:=λx y H Q=>∃a n,x=S a/\y = .int n/\(n<2 ^ 63 /\ -(2 ^ 63)<=n/\a.length*n.toNat<=sizeLine)/\Q (S (VP a n)) H
theorem op_mulS:OpR X (binaryOp .Mult) rMulS:=by
 intro pins s σ H x y v u Q I rx ry h;obtain⟨a,n,rfl,rfl,⟨h1,h2,h3⟩,q⟩:=h;obtain⟨t,rfl⟩:=rx;obtain⟨t',rfl⟩:=ry;refine SB.mul ⟨?_,λhn hc => ?_,λhn hc => ?_⟩ λt' k=>⟨S (VP a n),H,I.tok _,⟨_,by rw [Zjw]⟩,q⟩
 . have e1:decide (n < -(2 ^ 63:Int))=false:=jF 'a'
   have e2:decide (n ≥ 2 ^ 63)=false:=jF 'a';rw [e1,e2];rfl
 . rw [YX]
   have hs:sizeLine=16777216:=j7;intro hgt
   have h5:(a.length:Int)*n<=16777216:=by
    have:(a.length:Int)*n=((a.length*n.toNat:Nat):Int):=by
     rw [ug,qH 'a']
    rw [this];omega
   have h6:(2 ^ 63-1) / n<(a.length:Int):=hgt
   have h7:(2 ^ 63-1:Int)<(a.length:Int)*n:=by
    have:=Int.lt_mul_of_ediv_lt (show(0:Int)<n by omega) h6;rw [Int.mul_comm];rw [Int.mul_comm]at this;exact this
   omega
 . rw [YX]
   show decide (a.length*n.toNat>sizeLine)=false;exact jF 'a'
instance (i j:Int):Decidable (CMul i j):=by unfold CMul;infer_instance
instance (i j:Int):Decidable (Zmy i j):=by unfold Zmy;infer_instance
def addD:D->D->Option D
 | .int i,.int j=>some (.int (i+j))
 | .str a,.str b=>if a.length+b.length<=sizeLine then some (.str (a++b))else none
 |_,_=>none
def subD:D->D->Option D
 | .int i,.int j=>some (.int (i-j))
 |_,_=>none
def ZJ(p:Int->Int->Bool):D->D->Option D
 | .int i,.int j=>some (.bl (p i j))
 |_,_=>none
theorem Zjx:Yv cA ZkQ addD:=λt t' i H x y vx vy d _ hx hy e Q k=>by
 cases x<;>cases y<;>first|(cases e;done)|skip
 . cases(show vx=_ from hx);cases(show vy=_ from hy)
   cases e;exact .inl ⟨_,_,rfl,rfl,k _ H 'q' rfl⟩
 . cases(show vx=_ from hx);cases(show vy=_ from hy)
   rename_i a b;dsimp only [addD]at e
   by_cases hz:a.length+b.length<=sizeLine
   . rw [je hz]at e
     cases e;exact .inr (.inl ⟨_,_,rfl,rfl,hz,k _ H 'q' rfl⟩)
   . rw [jg hz]at e;cases e
theorem Zjy:Yv cA (rI0 λi j => .int (i-j)) subD:=λt t' i H x y vx vy d _ hx hy e Q k=>by
 cases x<;>cases y<;>first|(cases e;done)|skip
 cases(show vx=_ from hx);cases(show vy=_ from hy);cases e;exact⟨_,_,rfl,rfl,k _ H 'q' rfl⟩
theorem Zjz{p:Int->Int->Bool}:Yv cA (rI0 λi j => .bl (p i j)) (ZJ p):=λt t' i H x y vx vy d _ hx hy e Q k=>by
 cases x<;>cases y<;>first|(cases e;done)|skip
 cases(show vx=_ from hx);cases(show vy=_ from hy);cases e;exact⟨_,_,rfl,rfl,k _ H 'q' rfl⟩
def inD(neg:Bool):D->D->Option D
 | .str [c],.str b=>some (.bl (neg != decide (c∈b)))
 |x,.lst ys=>if Zu x&&ys.all Zu then some (.bl (if neg then !(inV (val x) (ys.map val))else inV (val x) (ys.map val)))else none
 |x,.tup ys=>if Zu x&&ys.all Zu then some (.bl (if neg then !(inV (val x) (ys.map val))else inV (val x) (ys.map val)))else none
 |_,_=>none
theorem Uy:Zu d=true->YA (val d)=true:=by
 intro h;cases d<;>first|rfl|cases h
theorem Uz:∀{xs:List D},xs.all Zu=true->(xs.map val).all YA=true
 | [],_=>rfl
 |x::xs,h=>by
  rw [yI,jV]at h;rw [jp,yI,Uy h.1,Uz h.2];rfl
theorem Zg2{v:V}(hs:Zu d=true)(h:RepT cA t i H d v):v=val d:=by
 cases d<;>first|exact h|cases hs
theorem ZkZ{neg:Bool}:Yv cA (Ur cA.K neg) (inD neg):=λt t' i H x y vx vy d _ hx hy e Q k=>by
 have seq:∀ys,(y = .lst ys\/y = .tup ys)->(if Zu x&&ys.all Zu then some (D.bl (if neg then !(inV (val x) (ys.map val))else inV (val x) (ys.map val)))else none)=some d->Ur cA.K neg vx vy H Q:=λys hy' e=>by
  by_cases hz:(Zu x&&ys.all Zu)=true
  . rw [je hz]at e
    rw [jV]at hz;have ex:=Zg2 hz.1 hx;subst ex;cases e;rcases hy' with rfl|rfl
    . obtain⟨a,vs,rfl,_,rd,l⟩:=hy
      have ev:=l.vals hz.2;subst ev;exact .inr ⟨a,_,rfl,.inl rd,Uy hz.1,Uz hz.2,k _ H 'q' rfl⟩
    . obtain⟨a,vs,rfl,_,rd,l⟩:=hy
      have ev:=l.vals hz.2;subst ev;exact .inr ⟨a,_,rfl,.inr (SqT.of rd),Uy hz.1,Uz hz.2,k _ H 'q' rfl⟩
  . rw [jg hz]at e;cases e
 cases y with
 |lst ys=>exact seq ys 's' (by cases x<;>first|exact e|(rename_i cs;cases cs<;>first|exact e|(rename_i c r;cases r<;>exact e)))
 |tup ys=>exact seq ys (.inr rfl) (by cases x<;>first|exact e|(rename_i cs;cases cs<;>first|exact e|(rename_i c r;cases r<;>exact e)))
 |str b=>
  cases x with
  |str cs=>
   cases cs with
   |nil=>cases e
   |cons c r=>
    cases r with
    |cons _ _=>cases e
    |nil=>
     cases(show vx=_ from hx);cases(show vy=_ from hy);cases e;exact .inl ⟨c,b,rfl,rfl,k _ H 'q' rfl⟩
  |_=>cases e
 |_=>cases x<;>first|(cases e;done)|(rename_i cs;cases cs<;>first|(cases e;done)|(rename_i c r;cases r<;>cases e))
def ixD:D->D->Option D
 | .lst xs,.int i=>atI xs i
 | .tup xs,.int i=>atI xs i
 | .str cs,.int i=>if cs.length<=sizeLine then(atI cs i).map λc => .str [c]else none
 |_,_=>none
theorem UA{i:Int}{d:D}(l:RepL cA av H xs vs)(h:atI xs i=some d):∃v,atI vs i=some v/\Rep cA av H d v:=by
 unfold atI at h ⊢;rw [l.length]at h;cases e:ixN vs.length i with
 |none=>rw [e]at h;cases h
 |some j=>
  rw [e]at h;exact l.get h
theorem Zk0:Yv cA (Xf cA.K) ixD:=λt t' i H x y vx vy d _ hx hy e Q k=>by
 cases y<;>first|(cases x<;>cases e;done)|skip
 rename_i j;cases(show vy=_ from hy);cases x<;>first|(cases e;done)|skip
 . cases(show vx=_ from hx)
   rename_i cs;dsimp only [ixD]at e
   by_cases hz:cs.length<=sizeLine
   . rw [je hz]at e
     cases ea:atI cs j with
     |none=>rw [ea]at e;cases e
     |some c=>
      rw [ea]at e;cases e;exact .inr (.inr ⟨cs,j,c,rfl,rfl,hz,ea,k _ H 'q' rfl⟩)
   . rw [jg hz]at e;cases e
 . obtain⟨a,vs,rfl,_,rd,l⟩:=hx
   obtain⟨v,h1,h2⟩:=UA l e;exact .inl ⟨a,vs,j,v,rfl,rfl,rd,h1,k v H 'q' h2⟩
 . obtain⟨a,vs,rfl,_,rd,l⟩:=hx
   obtain⟨v,h1,h2⟩:=UA l e;exact .inr (.inl ⟨a,vs,j,v,rfl,rfl,SqT.of rd,h1,k v H 'q' h2⟩)
end
section
variable{cA:Kn}{G:Cn}{ow:List Nat}
def bD:Option D->Option Bool
 |some (.bl b)=>some b
 |_=>none
theorem Zg3{o:Option D}{b:Bool}(h:bD o=some b):o=some (.bl b):=by
 cases o with
 |none=>cases h
 |some d=>cases d<;>first|(cases h;rfl)|cases h
def xB(ε:Env->Option D)(δ:Env):Option Bool:=bD (ε δ)
theorem Zm8(h:VE G ow te q ε):VT G ow (XC te) (xB ε):=λH0 av A σ H δ E b e Q k=>
 h H0 av A σ H δ E _ (Zg3 e) _ λv H' s r=>⟨b,by cases q<;>exact r,k H' s⟩
def XG(τ:Env->Option Bool)(δ:Env):Option Bool:=match τ δ with
 |some b=>some (!b)
 |none=>none
theorem ZjA(h:VT G ow t τ):VT G ow (Zmt t) (XG τ):=λH0 av A σ H δ E b e Q k=>by
 unfold XG at e;cases he:τ δ with
 |none=>rw [he]at e;cases e
 |some c=>
  rw [he]at e;cases e;exact h H0 av A σ H δ E c he _ λH' s=>k H' s
def YB(τ υ:Env->Option Bool)(δ:Env):Option Bool:=match τ δ with
 |some true=>υ δ
 |some false=>some false
 |none=>none
def xOr(τ υ:Env->Option Bool)(δ:Env):Option Bool:=match τ δ with
 |some true=>some true
 |some false=>υ δ
 |none=>none
theorem ZjB(h:VT G ow t τ)(h':VT G ow u υ):VT G ow (Zms t u) (YB τ υ):=λH0 av A σ H δ E b e Q k=>by
 unfold YB at e;cases he:τ δ with
 |none=>rw [he]at e;cases e
 |some c=>
  rw [he]at e;refine h H0 av A σ H δ E c he _ λH' s => ?_
  cases c with
  |true=>exact X8 (h' H0 av A σ H' δ (E.mono s) b e _ λH2 s2=>k H2 (s.trans s2))
  |false=>cases e;exact X7 (k H' s)
theorem Zk1(h:VT G ow t τ)(h':VT G ow u υ):VT G ow (tOr t u) (xOr τ υ):=λH0 av A σ H δ E b e Q k=>by
 unfold xOr at e;cases he:τ δ with
 |none=>rw [he]at e;cases e
 |some c=>
  rw [he]at e;refine h H0 av A σ H δ E c he _ λH' s => ?_
  cases c with
  |true=>cases e;exact X8 (k H' s)
  |false=>exact X7 (h' H0 av A σ H' δ (E.mono s) b e _ λH2 s2=>k H2 (s.trans s2))
theorem Zf1:VT G ow tYes (λ_=>some true):=λH0 av A σ H δ E b e Q k=>by
 cases e;exact k H 'q'
theorem blq{b:Bool}:RepQ cA av A H q (.bl b) (.bl b):=by cases q<;>exact rfl
theorem qbl{b:Bool}{v:V}(h:RepQ cA av A H q (.bl b) v):v = .bl b:=by cases q<;>exact h
def Xh(a b:Env->Option D)(δ:Env):Option D:=match a δ with
 |some (.bl true)=>b δ
 |some (.bl false)=>some (.bl false)
 |_=>none
def Vh(a:Env->Option D)(δ:Env):Option D:=match a δ with
 |some (.bl b)=>some (.bl (!b))
 |_=>none
theorem ZjC(ha:VE G ow ta qa a)(hb:VE G ow tb qb b):VE G ow (Zii ta tb) qb (Xh a b):=λH0 av A σ H δ E d e Q k=>by
 unfold Xh at e;cases he:a δ with
 |none=>rw [he]at e;cases e
 |some x=>
  rw [he]at e;cases x<;>first|(cases e;done)|skip
  rename_i c;refine ha H0 av A σ H δ E _ he _ λv H' s r=>⟨c,qbl r,?_⟩
  cases c with
  |true=>exact X8 (hb H0 av A σ H' δ (E.mono s) d e _ λv2 H2 s2 r2=>k v2 H2 (s.trans s2) r2)
  |false=>cases e;exact X7 (k _ H' s blq)
theorem ZjD(ha:VE G ow ta qa a):VE G ow (Zij ta) .cl (Vh a):=λH0 av A σ H δ E d e Q k=>by
 unfold Vh at e;cases he:a δ with
 |none=>rw [he]at e;cases e
 |some x=>
  rw [he]at e;cases x<;>first|(cases e;done)|skip
  cases e;exact ha H0 av A σ H δ E _ he _ λv H' s r=>⟨_,qbl r,k _ H' s blq⟩
def QY:D->Bool
 | .non=>true
 |_=>false
theorem ZcO{v:V}(h:Rep cA av H d v):decide (v = .non)=QY d:=by
 cases d with
 |non=>cases(show v=_ from h);rfl
 |bl b=>cases(show v=_ from h);rfl
 |int i=>cases(show v=_ from h);rfl
 |str cs=>cases(show v=_ from h);rfl
 |lst xs=>unfold Rep at h;obtain⟨a,vs,rfl,_⟩:=h;rfl
 |tup xs=>unfold Rep at h;obtain⟨a,vs,rfl,_⟩:=h;rfl
 |obj c ks xs=>unfold Rep at h;obtain⟨a,dx,vs,rfl,_⟩:=h;rfl
 |dct ks xs=>unfold Rep at h;obtain⟨a,vs,rfl,_⟩:=h;rfl
 |dtt ks xs=>unfold Rep at h;obtain⟨a,vs,rfl,_⟩:=h;rfl
 |dnn xs=>unfold Rep at h;obtain⟨a,vs,rfl,_⟩:=h;rfl
def XH(a:Env->Option D)(δ:Env):Option D:=match a δ with
 |some d=>some (.bl (QY d))
 |none=>none
def Xi(a:Env->Option D)(δ:Env):Option D:=match a δ with
 |some d=>some (.bl (!QY d))
 |none=>none
theorem ZjE(ha:VE G ow ta qa a):VE G ow (Zmr ta) .cl (XH a):=λH0 av A σ H δ E d e Q k=>by
 unfold XH at e;cases he:a δ with
 |none=>rw [he]at e;cases e
 |some x=>
  rw [he]at e;cases e;refine ha H0 av A σ H δ E _ he _ λv H' s r => ?_
  rw [ZcO r.any];exact k _ H' s blq
theorem Zg4(ha:VE G ow ta qa a):VE G ow (Zih ta) .cl (Xi a):=λH0 av A σ H δ E d e Q k=>by
 unfold Xi at e;cases he:a δ with
 |none=>rw [he]at e;cases e
 |some x=>
  rw [he]at e;cases e;refine ha H0 av A σ H δ E _ he _ λv H' s r => ?_
  rw [ZcO r.any];exact k _ H' s blq
def eNil(_:Env):Option (List D):=some []
def Zb(a:Env->Option D)(r:Env->Option (List D))(δ:Env):Option (List D):=match a δ with
 |some x=>match r δ with
  |some xs=>some (x::xs)
  |none=>none
 |none=>none
theorem UB:VA G ow tNil q eNil:=λH0 av A σ H δ E ds e Q k=>by
 cases e;exact k [] H 'q' rfl
theorem UC(ha:VE G ow te q a)(hr:VA G ow ta q r):VA G ow (Zy te ta) q (Zb a r):=λH0 av A σ H δ E ds e Q k=>by
 unfold Zb at e;cases he:a δ with
 |none=>rw [he]at e;cases e
 |some x=>
  rw [he]at e;cases hr':r δ with
  |none=>rw [hr']at e;cases e
  |some xs=>
   rw [hr']at e;cases e;exact ha H0 av A σ H δ E x he _ λv H1 s1 r1=>hr H0 av A σ H1 δ (E.mono s1) xs hr' _ λvs H2 s2 r2=>k _ H2 (s1.trans s2) ⟨v,vs,rfl,r1.same s2,r2⟩
theorem RepQL.length{av:Addr->Prop}{A:Nat->Option Addr}{H:Hp}{q:Ql}{xs:List D}{vs:List V}(h:RepQL cA av A H q xs vs):xs.length=vs.length:=h.any.length
def Zo(α:Env->Option (List D))(δ:Env):Option D:=match α δ with
 |some xs=>if xs.length<=sizeLine then some (.lst xs)else none
 |none=>none
theorem ZjF(h:VA G ow t .cl α):VF G ow (Xr t) (Zo α):=λH0 av A σ H δ E d e Q k=>by
 unfold Zo at e;cases he:α δ with
 |none=>rw [he]at e;cases e
 |some xs=>
  rw [he]at e
  by_cases hz:xs.length<=sizeLine
  . have e':D.lst xs=d:=by simpa [hz]using e
    exact h H0 av A σ H δ E xs he _ λvs H1 s1 r1=>⟨by rw [<-r1.length];exact hz,λp hp=>k p vs xs H1 s1 hp r1.cl e'.symm⟩
  . simp [hz]at e
def ZD(α:Env->Option (List D))(δ:Env):Option D:=match α δ with
 |some xs=>if xs.length<=sizeLine then some (.tup xs)else none
 |none=>none
theorem ZjG(h:VA G ow t .cl α):VE G ow (Vz t) .cl (ZD α):=λH0 av A σ H δ E d e Q k=>by
 unfold ZD at e;cases he:α δ with
 |none=>rw [he]at e;cases e
 |some xs=>
  rw [he]at e
  by_cases hz:xs.length<=sizeLine
  . have e':D.tup xs=d:=by simpa [hz]using e
    subst e';refine h H0 av A σ H δ E xs he _ λvs H1 s1 r1=>⟨by rw [<-r1.length];exact hz,λp hp=>k _ _ (s1.trans (Yu hp)) ⟨p,vs,rfl,λz=>(E.mono s1).avl p z hp,Zi,r1.cl.same (Yu hp)⟩⟩
  . simp [hz]at e
def Xw(cA:Kn)(i:Addr->Prop)(H:Hp):List D->List V->Prop
 | [],vs=>vs=[]
 |x::xs,vs=>∃v r,vs=v::r/\(∃t,RepT cA t i H x v)/\Xw cA i H xs r
theorem RepQL.il{av:Addr->Prop}{A:Nat->Option Addr}{H:Hp}{q:Ql}:∀{xs:List D}{vs:List V},RepQL cA av A H q xs vs->Xw cA (q.iv av A) H xs vs
 | [],_,h=>h
 |x::xs,vs,h=>by
  obtain⟨v,r,e,h1,h2⟩:=h;exact⟨v,r,e,⟨_,h1.tp⟩,RepQL.il h2⟩
def XI(cA:Kn)(r:List V->Hp->VK->Prop)(f:List D->Option D):Prop:=
 ∀(i:Addr->Prop)(H:Hp)(ds:List D)(vs:List V)(d:D),(∀a,i a->H a≠none)->Xw cA i H ds vs->f ds=some d->∀Q:VK,(∀v H',Same H H'->Rep cA i H' d v->Q v H')->r vs H Q
def eCB(f:List D->Option D)(α:Env->Option (List D))(δ:Env):Option D:=match α δ with
 |some ds=>f ds
 |none=>none
theorem UD{r:List V->Hp->VK->Prop}{q:Ql}(hr:XI G.1 r f)(h:VA G ow t q α):VE G ow (tCB r t) q.it (eCB f α):=λH0 av A σ H δ E d e Q k=>by
 unfold eCB at e;cases he:α δ with
 |none=>rw [he]at e;cases e
 |some ds=>
  rw [he]at e;refine h H0 av A σ H δ E ds he _ λvs H1 s1 r1 => ?_
  have E1:=E.mono s1;cases q with
  |cl=>exact hr _ H1 ds vs d E1.avl r1.il e _ λv H' s r=>k v H' (s1.trans s) r.t
  |tp=>exact hr _ H1 ds vs d E1.avl r1.il e _ λv H' s r=>k v H' (s1.trans s) r.t
  |dt=>exact hr _ H1 ds vs d E1.avH r1.il e _ λv H' s r=>k v H' (s1.trans s) r.t
theorem il1{x:D}{vs:List V}(h:Xw cA i H [x] vs):∃v t,vs=[v]/\RepT cA t i H x v:=by
 obtain⟨v,r,rfl,⟨t,h1⟩,h2⟩:=h;cases(show r=[]from h2);exact⟨v,t,rfl,h1⟩
theorem il2{x y:D}{vs:List V}(h:Xw cA i H [x,y] vs):∃v u t t',vs=[v,u]/\RepT cA t i H x v/\RepT cA t' i H y u:=by
 obtain⟨v,r,rfl,⟨t,h1⟩,u,r',rfl,⟨t',h2⟩,h3⟩:=h;cases(show r'=[]from h3);exact⟨v,u,t,t',rfl,h1,h2⟩
def lenD:List D->Option D
 | [.str a]=>if a.length<=sizeLine then some (.int a.length)else none
 | [.lst xs]=>some (.int xs.length)
 | [.tup xs]=>some (.int xs.length)
 |_=>none
theorem ZjH:XI cA (VC cA.K) lenD:=λi H ds vs d _ h e Q k=>by
 cases ds with
 |nil=>cases e
 |cons x r=>
  cases r with
  |cons _ _=>cases x<;>cases e
  |nil=>
   obtain⟨v,t,rfl,hx⟩:=il1 h;cases x<;>first|(cases e;done)|skip
   . rename_i a
     dsimp only [lenD]at e
     by_cases hz:a.length<=sizeLine
     . rw [je hz]at e
       cases e;exact .inl ⟨a,by rw [show v=S a from hx],hz,k _ H 'q' rfl⟩
     . rw [jg hz]at e;cases e
   . obtain⟨a,ws,rfl,_,rd,l⟩:=hx
     cases e;exact .inr ⟨a,ws,rfl,.inl rd,k _ H 'q' (by rw [l.length];rfl)⟩
   . obtain⟨a,ws,rfl,_,rd,l⟩:=hx
     cases e;exact .inr ⟨a,ws,rfl,.inr (SqT.of rd),k _ H 'q' (by rw [l.length];rfl)⟩
def minD:List D->Option D
 | [.int i,.int j]=>some (.int (if j<i then j else i))
 |_=>none
def maxD:List D->Option D
 | [.int i,.int j]=>some (.int (if j>i then j else i))
 |_=>none
theorem Zg5{ds:List D}{d:D}(e:minD ds=some d):∃i j,ds=[.int i,.int j]/\d = .int (if j<i then j else i):=by
 unfold minD at e
 split at e
 . exact⟨_,_,rfl,(jo e).symm⟩
 . cases e
theorem Zg6{ds:List D}{d:D}(e:maxD ds=some d):∃i j,ds=[.int i,.int j]/\d = .int (if j>i then j else i):=by
 unfold maxD at e
 split at e
 . exact⟨_,_,rfl,(jo e).symm⟩
 . cases e
theorem ZjI:XI cA (λxs H Q=>∃i j,xs=[.int i,.int j]/\Q (.int (if j<i then j else i)) H) minD:=λi H ds vs d _ h e Q k=>by
 obtain⟨a,b,rfl,rfl⟩:=Zg5 e;obtain⟨v,u,t,t',rfl,h1,h2⟩:=il2 h;cases(show v=_ from h1);cases(show u=_ from h2);exact⟨a,b,rfl,k _ H 'q' rfl⟩
theorem ZjJ:XI cA (λxs H Q=>∃i j,xs=[.int i,.int j]/\Q (.int (if j>i then j else i)) H) maxD:=λi H ds vs d _ h e Q k=>by
 obtain⟨a,b,rfl,rfl⟩:=Zg6 e;obtain⟨v,u,t,t',rfl,h1,h2⟩:=il2 h;cases(show v=_ from h1);cases(show u=_ from h2);exact⟨a,b,rfl,k _ H 'q' rfl⟩
def intD:List D->Option D
 | [.str a]=>if a.length<=640/\a≠[]/\a.all Zm1=true then some (.int (Zm2 a:Nat))else none
 | [.bl b]=>some (.int (if b then 1 else 0))
 |_=>none
def ZM:List D->Option D
 | [.lst xs]=>some (.tup xs)
 | [.tup xs]=>some (.tup xs)
 |_=>none
def Zis:List D->Option D
 | [.lst xs]=>some (.lst xs)
 | [.tup xs]=>some (.lst xs)
 |_=>none
theorem ZeL(h:VA G ow t .cl α):VE G ow (tCB (ZfQ G.1.K) t) .cl (eCB ZM α):=λH0 av A σ H δ E d e Q k=>by
 unfold eCB at e;cases he:α δ with
 |none=>rw [he]at e;cases e
 |some ds=>
  rw [he]at e;refine h H0 av A σ H δ E ds he _ λvs H1 s1 r1 => ?_
  have E1:=E.mono s1;have e:ZM ds=some d:=e;unfold ZM at e
  split at e
  . rename_i xs
    cases e;obtain⟨v,r,rfl,⟨a,ws,rfl,_,rd,l⟩,h2⟩:=r1;cases(show r=[]from h2);exact⟨a,ws,rfl,.inl ⟨rd,λp hp=>k _ _ (s1.trans (Yu hp)) ⟨p,ws,rfl,λz=>E1.avl p z hp,Zi,l.same (Yu hp)⟩⟩⟩
  . rename_i xs
    cases e;obtain⟨v,r,rfl,⟨a,ws,rfl,na,rd,l⟩,h2⟩:=r1;cases(show r=[]from h2);exact⟨a,ws,rfl,.inr ⟨SqT.of rd,k _ H1 s1 ⟨a,ws,rfl,na,rd,l⟩⟩⟩
  . cases e
end
inductive Out where
 |nx (δ:Env)
 |rt (d:D)
 |bk (δ:Env)
 |ct (δ:Env)
def Wants(G:Cn)(owN owB owC:List Nat)(H0:Hp)(av:Addr->Prop)(De:Ends):Out->Prop
 | .nx δ'=>∀A' σ' H',ER G owN H0 av A' σ' H' δ'->De.nx σ' H'
 | .rt d=>∀v H',Same H0 H'->Rep G.1 av H' d v->De.rt v H'
 | .bk δ'=>∀A' σ' H',ER G owB H0 av A' σ' H' δ'->De.bk σ' H'
 | .ct δ'=>∀A' σ' H',ER G owC H0 av A' σ' H' δ'->De.ct σ' H'
def VS(G:Cn)(ow owN owB owC:List Nat)(ts:TS)(φ:Env->Option Out):Prop:=
 ∀H0 av A σ H δ,ER G ow H0 av A σ H δ->∀o,φ δ=some o->∀De:Ends,Wants G owN owB owC H0 av De o->ts De σ H
def VG(G:Cn)(ow ow':List Nat)(g:TG)(γ:D->Env->Option Env):Prop:=
 ∀H0 av A σ H δ,ER G ow H0 av A σ H δ->∀d v,Rep G.1 (AV av A) H d v->∀δ',γ d δ=some δ'->∀Q:L2.St->Hp->Prop,(∀A' σ' H',Same H H'->ER G ow' H0 av A' σ' H' δ'->Q σ' H')->g v σ H Q
def sub(a b:List Nat):Bool:=a.all λx=>b.contains x
theorem UE{a b:List Nat}(h:sub a b=true):∀x∈a,x∈b:=λx hx=>by
 have:=jT.mp h x hx;simpa using this
section
variable{cA:Kn}{G:Cn}{ow owN owB owC ow1 ow2:List Nat}{H0 H H':Hp}{av:Addr->Prop}{A:Nat->Option Addr}{σ:L2.St}{δ:Env}
theorem VQ{α:Type}{l:List (Option α)}{i j:Nat}{x y:α}(h:(l.set i (some x))[j]? = some (some y)):(j=i/\y=x/\i<l.length)\/(j≠i/\l[j]? = some (some y)):=by
 by_cases e:j=i
 . subst e
   by_cases hl:j<l.length
   . rw [jB hl]at h
     exact .inl ⟨rfl,(jo (jo h)).symm,hl⟩
   . rw [yq (by simpa using hl)]at h
     cases h
 . rw [jl (jO e)]at h
   exact .inr ⟨e,h⟩
theorem ER.set{i:Nat}{d:D}{v:V}(E:ER G ow H0 av A σ H δ)(h:Rep G.1 (AV av A) H d v)(hw:∀j,j∈ow1 ↔ j∈ow/\j≠i)(hn:G.2 i=none) :
 ER G ow1 H0 av (λj=>if j=i then none else A j) (σ.set i (some v)) H (δ.set i (some d)):=by
 have less:∀b,AV av (λj=>if j=i then none else A j) b->AV av A b:=λb z=>by
  rcases z with z|⟨j,z⟩
  . exact .inl z
  . by_cases e:j=i
    . simp [e]at z
    . simp [e]at z;exact .inr ⟨j,z⟩
 refine⟨E.same,E.avd,λj a e => ?_,λj k a e1 e2 => ?_,λj a e => ?_,λj e => ?_,λj hj => ?_,by simp [E.len],λj a e=>(by
  have q:j≠i:=λz=>by rw [z,hn]at e;cases e
  simp only [q,qP];exact E.pin j a e),(λj v' e=>by
  have q:j≠i:=λz=>by rw [z,hn]at e;cases e
  rw [jl (jO q)];exact E.kept j v' e),λj d' e => ?_⟩
 . by_cases q:j=i
   . simp [q]at e
   . simp [q]at e;exact E.fr j a e
 . by_cases q:j=i
   . simp [q]at e1
   . by_cases q2:k=i
     . simp [q2]at e2
     . simp [q]at e1;simp [q2]at e2;exact E.inj j k a e1 e2
 . by_cases q:j=i
   . simp [q]at e
   . simp [q]at e;exact E.live j a e
 . by_cases q:j=i
   . simp [q]at e
   . simp [q]at e;exact(hw j).mpr ⟨E.dom j e,q⟩
 . obtain⟨h1,h2⟩:=(hw j).mp hj
   simp [h2];exact E.dom' j h1
 . rcases VQ e with⟨rfl,rfl,hl⟩|⟨q,e'⟩
   . refine⟨v,?_,λ_=>h.av λb z => .inl (less b z),λa z=>by simp at z⟩
     rw [jB (by rw [E.len];exact hl)]
   . obtain⟨v',h1,h2,h3⟩:=E.var j d' e'
     refine⟨v',by rw [jl (jO q)];exact h1,λz => ?_,λa z => ?_⟩
     . simp [q]at z
       exact(h2 z).av λb z => .inl (less b z)
     . simp [q]at z
       obtain⟨r1,r2⟩:=h3 a z;refine⟨r1,?_⟩;cases d' with
       |lst xs=>obtain⟨vs,q1,q2⟩:=r2;exact⟨vs,q1,q2.av λb z => .inl (less b z)⟩
       |obj c ks xs=>obtain⟨dx,vs,q1,q0,q2⟩:=r2;exact⟨dx,vs,q1,q0,q2.av λb z => .inl (less b z)⟩
       |dct ks xs=>obtain⟨vs,q1,q0,q2⟩:=r2;exact⟨vs,q1,q0,q2.av λb z => .inl (less b z)⟩
       |dtt ks xs=>obtain⟨vs,q1,q0,q2⟩:=r2;exact⟨vs,q1,q0,q2.av λb z => .inl (less b z)⟩
       |dnn xs=>obtain⟨vs,q1,q0,q2⟩:=r2;exact⟨vs,q1,q0,q2.av λb z => .inl (less b z)⟩
       |_=>exact r2
theorem ER.own{i:Nat}{xs:List D}{vs:List V}{p:Addr}(E:ER G ow H0 av A σ H δ)(hp:H p=none)(l:RepL G.1 (AV av A) H xs vs)(hw:∀j,j∈ow1 ↔ j∈ow\/j=i)(hn:G.2 i=none) :
 ER G ow1 H0 av (λj=>if j=i then some p else A j) (σ.set i (some (.ref p))) (upd H p (.lst vs)) (δ.set i (some (.lst xs))):=by
 have hs:Same H (upd H p (.lst vs)):=Yu hp
 have less:∀b,AV av (λj=>if j=i then some p else A j) b->AV av A b\/H b=none:=λb z=>by
  rcases z with z|⟨j,z⟩
  . exact .inl (.inl z)
  . by_cases e:j=i
    . simp [e]at z;subst z;exact .inr hp
    . simp [e]at z;exact .inl (.inr ⟨j,z⟩)
 have np:∀j a,A j=some a->a≠p:=λj a e z=>by subst z;exact E.live j a e hp
 have h0:H0 p=none:=by
  cases q:H0 p with
  |none=>rfl
  |some o=>rw [E.same p o q]at hp;cases hp
 refine⟨E.same.trans hs,E.avd,λj a e => ?_,λj k a e1 e2 => ?_,λj a e => ?_,λj e => ?_,λj hj => ?_,by simp [E.len],λj a e=>(by
  have q:j≠i:=λz=>by rw [z,hn]at e;cases e
  simp only [q,qP];exact E.pin j a e),(λj v' e=>by
  have q:j≠i:=λz=>by rw [z,hn]at e;cases e
  rw [jl (jO q)];exact E.kept j v' e),λj d' e => ?_⟩
 . by_cases q:j=i
   . simp [q]at e;subst e;exact h0
   . simp [q]at e;exact E.fr j a e
 . by_cases q:j=i
   . by_cases q2:k=i
     . rw [q,q2]
     . simp [q]at e1;simp [q2]at e2
       exact absurd e1.symm (np k a e2)
   . by_cases q2:k=i
     . simp [q]at e1;simp [q2]at e2
       exact absurd e2.symm (np j a e1)
     . simp [q]at e1;simp [q2]at e2;exact E.inj j k a e1 e2
 . by_cases q:j=i
   . simp [q]at e;subst e;rw [Zi];exact λz=>by cases z
   . simp [q]at e
     rw [Zc (np j a e)];exact E.live j a e
 . by_cases q:j=i
   . exact(hw j).mpr (.inr q)
   . simp [q]at e;exact(hw j).mpr (.inl (E.dom j e))
 . by_cases q:j=i
   . simp [q]
   . simp [q]
     exact E.dom' j (((hw j).mp hj).resolve_right q)
 . rcases VQ e with⟨rfl,rfl,hl⟩|⟨q,e'⟩
   . refine⟨.ref p,?_,λz=>by simp at z,λa z => ?_⟩
     . rw [jB (by rw [E.len];exact hl)]
     . simp at z
       subst z;exact⟨rfl,vs,Zi,(l.av less).same hs⟩
   . obtain⟨v',h1,h2,h3⟩:=E.var j d' e'
     refine⟨v',by rw [jl (jO q)];exact h1,λz => ?_,λa z => ?_⟩
     . simp [q]at z
       exact((h2 z).av less).same hs
     . simp [q]at z
       obtain⟨r1,r2⟩:=h3 a z;refine⟨r1,?_⟩;cases d' with
       |lst xs=>obtain⟨vs',q1,q2⟩:=r2;exact⟨vs',hs _ _ q1,(q2.av less).same hs⟩
       |obj c ks xs=>obtain⟨dx,vs',q1,q0,q2⟩:=r2;exact⟨dx,vs',hs _ _ q1,q0,(q2.av less).same hs⟩
       |dct ks xs=>obtain⟨vs',q1,q0,q2⟩:=r2;exact⟨vs',hs _ _ q1,q0,(q2.av less).same hs⟩
       |dtt ks xs=>obtain⟨vs',q1,q0,q2⟩:=r2;exact⟨vs',hs _ _ q1,q0,(q2.av less).same hs⟩
       |dnn xs=>obtain⟨vs',q1,q0,q2⟩:=r2;exact⟨vs',hs _ _ q1,q0,(q2.av less).same hs⟩
       |_=>exact r2
theorem ER.put{i:Nat}{a:Addr}{d d':D}(E:ER G ow H0 av A σ H δ)(hi:A i=some a)(hd:δ[i]? = some (some d))(hk:∀b o,b≠a->H b=some o->H' b=some o)(hl:H' a≠none)(ho:Own G.1 (AV av A) H' d' a) :
 ER G ow H0 av A σ H' (δ.set i (some d')):=by
 have kk:∀b o,¬AV av A b->H b=some o->H' b=some o:=λb o n e=>hk b o (λz=>n (.inr ⟨i,by rw [z];exact hi⟩)) e
 refine⟨λb o e=>hk b o (λz => ?_) (E.same b o e),E.avd,E.fr,E.inj,λj b e => ?_,E.dom,E.dom',by simp [E.len],E.pin,E.kept,λj d'' e => ?_⟩
 . rw [z,E.fr i a hi]at e;cases e
 . by_cases q:b=a
   . subst q;exact hl
   . have:=E.live j b e
     cases e':H b with
     |none=>exact absurd e' this
     |some o=>rw [hk b o q e'];exact λz=>by cases z
 . rcases VQ e with⟨rfl,rfl,hl'⟩|⟨q,e'⟩
   . obtain⟨v,h1,_,h3⟩:=E.var j d hd
     obtain⟨r1,_⟩:=h3 a hi
     exact⟨v,h1,λz=>(by rw [hi]at z;cases z),λb z=>by
      rw [hi]at z;cases z;exact⟨r1,ho⟩⟩
   . obtain⟨v',h1,h2,h3⟩:=E.var j d'' e'
     refine⟨v',h1,λz=>(h2 z).ext kk,λb z => ?_⟩;obtain⟨r1,r2⟩:=h3 b z;have nb:b≠a:=λw=>q (E.inj j i a (by rw [<-w];exact z) hi)
     refine⟨r1,?_⟩;cases d'' with
     |lst xs=>obtain⟨vs,q1,q2⟩:=r2;exact⟨vs,hk _ _ nb q1,q2.ext kk⟩
     |obj c ks xs=>obtain⟨dx,vs,q1,q0,q2⟩:=r2;exact⟨dx,vs,hk _ _ nb q1,q0,q2.ext kk⟩
     |dct ks xs=>obtain⟨vs,q1,q0,q2⟩:=r2;exact⟨vs,hk _ _ nb q1,q0,q2.ext kk⟩
     |dtt ks xs=>obtain⟨vs,q1,q0,q2⟩:=r2;exact⟨vs,hk _ _ nb q1,q0,q2.ext kk⟩
     |dnn xs=>obtain⟨vs,q1,q0,q2⟩:=r2;exact⟨vs,hk _ _ nb q1,q0,q2.ext kk⟩
     |_=>exact r2
theorem ER.freeze(i:Nat)(E:ER G ow H0 av A σ H δ)(hw:∀j,j∈ow1 ↔ j∈ow/\j≠i)(hn:G.2 i=none):ER G ow1 H0 av (λj=>if j=i then none else A j) σ H δ:=by
 have less:∀b,AV av (λj=>if j=i then none else A j) b->AV av A b:=λb z=>by
  rcases z with z|⟨j,z⟩
  . exact .inl z
  . by_cases e:j=i
    . simp [e]at z
    . simp [e]at z;exact .inr ⟨j,z⟩
 refine⟨E.same,E.avd,λj a e => ?_,λj k a e1 e2 => ?_,λj a e => ?_,λj e => ?_,λj hj => ?_,E.len,λj a e=>(by
  have q:j≠i:=λz=>by rw [z,hn]at e;cases e
  simp only [q,qP];exact E.pin j a e),E.kept,λj d' e => ?_⟩
 . by_cases q:j=i
   . simp [q]at e
   . simp [q]at e;exact E.fr j a e
 . by_cases q:j=i
   . simp [q]at e1
   . by_cases q2:k=i
     . simp [q2]at e2
     . simp [q]at e1;simp [q2]at e2;exact E.inj j k a e1 e2
 . by_cases q:j=i
   . simp [q]at e
   . simp [q]at e;exact E.live j a e
 . by_cases q:j=i
   . simp [q]at e
   . simp [q]at e;exact(hw j).mpr ⟨E.dom j e,q⟩
 . obtain⟨h1,h2⟩:=(hw j).mp hj
   simp [h2];exact E.dom' j h1
 . obtain⟨v',h1,h2,h3⟩:=E.var j d' e
   refine⟨v',h1,λz => ?_,λa z => ?_⟩
   . by_cases q:j=i
     . subst q
       cases hA:A j with
       |none=>exact(h2 hA).av λb z => .inl (less b z)
       |some a=>
        obtain⟨rfl,r2⟩:=h3 a hA
        have na:¬AV av (λk=>if k=j then none else A k) a:=λz=>by
         rcases z with z|⟨k,z⟩
         . exact E.avd a z (E.fr j a hA)
         . by_cases qk:k=j
           . simp [qk]at z
           . simp [qk]at z;exact qk (E.inj k j a z hA)
        cases d' with
        |lst xs=>obtain⟨vs,q1,q2⟩:=r2;unfold Rep;exact⟨a,vs,rfl,λz=>(na z).elim,SqL.of q1,q2.av λb z => .inl (less b z)⟩
        |obj c ks xs=>obtain⟨dx,vs,q1,q0,q2⟩:=r2;unfold Rep;exact⟨a,dx,vs,rfl,na,q1,q0,q2.av λb z => .inl (less b z)⟩
        |dct ks xs=>obtain⟨vs,q1,q0,q2⟩:=r2;unfold Rep;exact⟨a,vs,rfl,na,q1,q0,q2.av λb z => .inl (less b z)⟩
        |dtt ks xs=>obtain⟨vs,q1,q0,q2⟩:=r2;unfold Rep;exact⟨a,vs,rfl,na,q1,q0,q2.av λb z => .inl (less b z)⟩
        |dnn xs=>obtain⟨vs,q1,q0,q2⟩:=r2;unfold Rep;exact⟨a,vs,rfl,na,q1,q0,q2.av λb z => .inl (less b z)⟩
        |_=>exact False.elim r2
     . simp [q]at z
       exact(h2 z).av λb z => .inl (less b z)
   . by_cases q:j=i
     . simp [q]at z
     . simp [q]at z
       obtain⟨r1,r2⟩:=h3 a z;refine⟨r1,?_⟩;cases d' with
       |lst xs=>obtain⟨vs,q1,q2⟩:=r2;exact⟨vs,q1,q2.av λb z => .inl (less b z)⟩
       |obj c ks xs=>obtain⟨dx,vs,q1,q0,q2⟩:=r2;exact⟨dx,vs,q1,q0,q2.av λb z => .inl (less b z)⟩
       |dct ks xs=>obtain⟨vs,q1,q0,q2⟩:=r2;exact⟨vs,q1,q0,q2.av λb z => .inl (less b z)⟩
       |dtt ks xs=>obtain⟨vs,q1,q0,q2⟩:=r2;exact⟨vs,q1,q0,q2.av λb z => .inl (less b z)⟩
       |dnn xs=>obtain⟨vs,q1,q0,q2⟩:=r2;exact⟨vs,q1,q0,q2.av λb z => .inl (less b z)⟩
       |_=>exact r2
open Classical in
noncomputable def cut(A:Nat->Option Addr)(H:Hp):Hp:=λb=>if ∃i,A i=some b then none else H b
theorem ZbJ{b:Addr}{o:HO}(h:cut A H b=some o):H b=some o/\¬∃i,A i=some b:=by
 unfold cut at h
 by_cases e:∃i,A i=some b
 . rw [je e]at h;cases h
 . rw [jg e]at h;exact⟨h,e⟩
theorem VR{b:Addr}(e:¬∃i,A i=some b):cut A H b=H b:=by
 unfold cut;rw [jg e]
theorem ER.cut(E:ER G ow H0 av A σ H δ):ER G ow (DL.cut A H) av A σ H δ:=by
 refine⟨λb o e=>(ZbJ e).1,λa z => ?_,λi a e => ?_,E.inj,E.live,E.dom,E.dom',E.len,E.pin,E.kept,E.var⟩
 . rw [VR λ⟨i,e⟩=>E.avd a z (E.fr i a e)]
   exact E.avH a z
 . unfold DL.cut
   rw [je ⟨i,e⟩]
theorem ER.sub0(E:ER G ow H0 av A σ H δ):Same H0 (DL.cut A H):=λb o e=>by
 rw [VR λ⟨i,z⟩=>by rw [E.fr i b z]at e;cases e];exact E.same b o e
theorem ER.uncut{A':Nat->Option Addr}{σ':L2.St}{δ':Env}(E:ER G ow H0 av A σ H δ)(E':ER G ow1 (DL.cut A H) av A' σ' H' δ'):ER G ow1 H0 av A' σ' H' δ':=
 ⟨E.sub0.trans E'.same,E.avd,λi a e=>E.sub0.free (E'.fr i a e),E'.inj,E'.live,E'.dom,E'.dom',E'.len,E'.pin,E'.kept,E'.var⟩
def sNext(δ:Env):Option Out:=some (.nx δ)
theorem Yb:VS G ow ow owB owC tNext sNext:=λH0 av A σ H δ E o e De k=>by
 cases e;exact k A σ H E
def Zd(φ ψ:Env->Option Out)(δ:Env):Option Out:=match φ δ with
 |some (.nx δ')=>ψ δ'
 |r=>r
theorem Zk(h1:VS G ow ow1 owB owC t φ)(h2:VS G ow1 owN owB owC u ψ):VS G ow owN owB owC (ZB t u) (Zd φ ψ):=λH0 av A σ H δ E o e De k=>by
 unfold Zd at e;cases he:φ δ with
 |none=>rw [he]at e;cases e
 |some o1=>
  rw [he]at e;refine h1 H0 av A σ H δ E o1 he _ ?_;cases o1 with
  |nx δ'=>exact λA' σ' H' E'=>h2 H0 av A' σ' H' δ' E' o e De k
  |rt d=>cases e;exact k
  |bk δ'=>cases e;exact k
  |ct δ'=>cases e;exact k
def sIf(τ:Env->Option Bool)(φ ψ:Env->Option Out)(δ:Env):Option Out:=match τ δ with
 |some true=>φ δ
 |some false=>ψ δ
 |none=>none
theorem ZX(hc:VT G ow c τ)(h1:VS G ow owN owB owC t φ)(h2:VS G ow owN owB owC u ψ):VS G ow owN owB owC (QE c t u) (sIf τ φ ψ):=λH0 av A σ H δ E o e De k=>by
 unfold sIf at e;cases he:τ δ with
 |none=>rw [he]at e;cases e
 |some b=>
  rw [he]at e;refine hc H0 av A σ H δ E b he _ λH' s => ?_
  cases b with
  |true=>exact X8 (h1 H0 av A σ H' δ (E.mono s) o e De k)
  |false=>exact X7 (h2 H0 av A σ H' δ (E.mono s) o e De k)
def Zt(ε:Env->Option D)(δ:Env):Option Out:=match ε δ with
 |some d=>some (.rt d)
 |none=>none
theorem ZU(h:VE G ow te q ε):VS G ow owN owB owC (Xp te) (Zt ε):=λH0 av A σ H δ E o e De k=>by
 unfold Zt at e;cases he:ε δ with
 |none=>rw [he]at e;cases e
 |some d=>
  rw [he]at e;cases e;exact h H0 av A σ H δ E d he _ λv H' s r=>k v H' (E.same.trans s) r.any
def Ze(i:Nat)(ε:Env->Option D)(δ:Env):Option Out:=match ε δ with
 |some d=>some (.nx (δ.set i (some d)))
 |none=>none
theorem UF{i:Nat}(h1:sub ow1 ow=true)(h2:ow1.contains i=false)(h3:sub ow (i::ow1)=true):∀j,j∈ow1 ↔ j∈ow/\j≠i:=λj=>by
 constructor
 . intro h
   refine⟨UE h1 j h,λe => ?_⟩;subst e;have:j∉ow1:=by simpa using h2
   exact this h
 . rintro⟨h,n⟩
   rcases jA.mp (UE h3 j h)with e|e
   . exact absurd e n
   . exact e
theorem QZ{i:Nat}(h1:sub ow1 (i::ow)=true)(h2:ow1.contains i=true)(h3:sub ow ow1=true):∀j,j∈ow1 ↔ j∈ow\/j=i:=λj=>by
 constructor
 . intro h
   rcases jA.mp (UE h1 j h)with e|e
   . exact .inr e
   . exact .inl e
 . rintro(h|rfl)
   . exact UE h3 j h
   . simpa using h2
theorem Zw(i:Nat)(h:VE G ow te .cl ε)(hn:G.2 i=none:=by rfl)(h1:sub owN ow=true:=by rfl)(h2:owN.contains i=false:=by rfl)(h3:sub ow (i::owN)=true:=by rfl):VS G ow owN owB owC (ZG te (Zs i)) (Ze i ε):=λH0 av A σ H δ E o e De k=>by
 unfold Ze at e;cases he:ε δ with
 |none=>rw [he]at e;cases e
 |some d=>
  rw [he]at e;cases e;exact h H0 av A σ H δ E d he _ λv H' s r=>k _ _ H' ((E.mono s).set (RepT.r r) (UF h1 h2 h3) hn)
theorem Yl(i:Nat)(h:VF G ow te ε)(hn:G.2 i=none:=by rfl)(h1:sub owN (i::ow)=true:=by rfl)(h2:owN.contains i=true:=by rfl)(h3:sub ow owN=true:=by rfl):VS G ow owN owB owC (ZG te (Zs i)) (Ze i ε):=λH0 av A σ H δ E o e De k=>by
 unfold Ze at e;cases he:ε δ with
 |none=>rw [he]at e;cases e
 |some d=>
  rw [he]at e;cases e;refine h H0 av A σ H δ E d he _ λp vs xs H1 s hp l hd => ?_
  subst hd;exact k _ _ _ ((E.mono s).own hp l (QZ h1 h2 h3) hn)
def ZE(i:Nat)(ε:Env->Option D)(δ:Env):Option Out:=match Za i δ with
 |some (.lst xs)=>match ε δ with
  |some d=>if xs.length<sizeLine then some (.nx (δ.set i (some (.lst (xs++[d])))))else none
  |none=>none
 |_=>none
theorem YH{K:Frag}(i:Nat)(hi:ow.contains i=true)(h:VE G ow te .cl ε):VS G ow ow owB owC (XA (tBM K "list" rAppend (Zl i) (Zy te tNil))) (ZE i ε):=λH0 av A σ H δ E o e De k=>by
 unfold ZE at e;cases hv:Za i δ with
 |none=>rw [hv]at e;cases e
 |some x=>
  rw [hv]at e;cases x<;>first|(cases e;done)|skip
  rename_i xs;dsimp only at e;cases he:ε δ with
  |none=>rw [he]at e;cases e
  |some d=>
   rw [he]at e;dsimp only at e
   by_cases hz:xs.length<sizeLine
   . rw [je hz]at e
     cases e;have hi':i∈ow:=by simpa using hi
     cases hA:A i with
     |none=>exact absurd hA (E.dom' i hi')
     |some a=>
      obtain⟨v,h1,_,h3⟩:=E.var i _ (Z9 hv);obtain⟨rfl,vs,q1,q2⟩:=h3 a hA;refine⟨_,h1,.inl ⟨rfl,vs,SqL.of q1⟩,h H0 av A σ H δ E d he _ λv H' s r => ?_⟩;have E':=E.mono s;have q1':=s _ _ q1;refine⟨a,vs,v,rfl,rfl,q1',by rw [<-q2.length];exact hz,k A σ _ (E'.put hA (Z9 hv) (λb o hb e=>by rw [Zc hb];exact e) (by rw [Zi];exact λz=>by cases z) ⟨_,Zi,?_⟩)⟩
      have ex:∀b o,¬AV av A b->H' b=some o->upd H' a (.lst (vs++[v])) b=some o:=λb o n e=>by
       rw [Zc λz=>n (.inr ⟨i,by rw [z];exact hA⟩)];exact e
      exact((q2.same s).append (.cons (RepT.r r) .nil)).ext ex
   . rw [jg hz]at e;cases e
theorem VS.frz{t:TS}{φ:Env->Option Out}(i:Nat)(h:VS G ow1 owN owB owC t φ)(hn:G.2 i=none:=by rfl)(h1:sub ow1 ow=true:=by rfl)(h2:ow1.contains i=false:=by rfl)(h3:sub ow (i::ow1)=true:=by rfl):VS G ow owN owB owC t φ:=λH0 av A σ H δ E o e De k=>
 h H0 av _ σ H δ (E.freeze i (UF h1 h2 h3) hn) o e De k
theorem VS.frzN{t:TS}{φ:Env->Option Out}(i:Nat)(h:VS G ow owN owB owC t φ)(hn:G.2 i=none)(h1:sub ow1 owN=true)(h2:ow1.contains i=false)(h3:sub owN (i::ow1)=true):VS G ow ow1 owB owC t φ:=λH0 av A σ H δ E o e De k=>
 h H0 av A σ H δ E o e De (by
  cases o with
  |nx δ'=>exact λA' σ' H' E'=>k _ σ' H' (E'.freeze i (UF h1 h2 h3) hn)
  |rt d=>exact k
  |bk δ'=>exact k
  |ct δ'=>exact k)
def Zj(i:Nat)(d:D)(δ:Env):Option Env:=some (δ.set i (some d))
theorem ZcP(i:Nat)(hi:ow.contains i=false:=by rfl)(hn:G.2 i=none:=by rfl):VG G ow ow (Zs i) (Zj i):=λH0 av A σ H δ E d v r δ' e Q k=>by
 cases e
 exact k _ _ H 'q' (E.set r (λj=>by
  have:i∉ow:=by simpa using hi
  exact⟨λh=>⟨h,λz=>this (z▸h)⟩,λh=>h.1⟩) hn)
def VGs(G:Cn)(ow ow':List Nat)(g:TGs)(γ:List D->Env->Option Env):Prop:=
 ∀H0 av A σ H δ,ER G ow H0 av A σ H δ->∀ds vs,RepL G.1 (AV av A) H ds vs->∀δ',γ ds δ=some δ'->∀Q:L2.St->Hp->Prop,(∀A' σ' H',Same H H'->(∀b,AV av A' b->AV av A b)->ER G ow' H0 av A' σ' H' δ'->Q σ' H')->g vs σ H Q
def gsNil(ds:List D)(δ:Env):Option Env:=match ds with
 | []=>some δ
 |_=>none
theorem Zg7:VGs G ow ow gNil gsNil:=λH0 av A σ H δ E ds vs r δ' e Q k=>by
 cases ds with
 |nil=>cases e;exact⟨r.nil_of,k A σ H 'q' (λ_ z=>z) E⟩
 |cons _ _=>cases e
def Zz(i:Nat)(γs:List D->Env->Option Env)(ds:List D)(δ:Env):Option Env:=match ds with
 |d::r=>γs r (δ.set i (some d))
 | []=>none
theorem ZeM(i:Nat)(hi:ow.contains i=false)(hn:G.2 i=none)(h:VGs G ow ow gs γs):VGs G ow ow (YE (Zs i) gs) (Zz i γs):=λH0 av A σ H δ E ds vs r δ' e Q k=>by
 cases ds with
 |nil=>cases e
 |cons d ds=>
  obtain⟨v,vr,rfl,r1,r2⟩:=r.uncons;refine⟨v,vr,rfl,?_⟩
  have less:∀b,AV av (λj=>if j=i then none else A j) b->AV av A b:=λb z=>by
   rcases z with z|⟨j,z⟩
   . exact .inl z
   . by_cases e:j=i
     . simp [e]at z
     . simp [e]at z;exact .inr ⟨j,z⟩
  have E1:ER G ow H0 av (λj=>if j=i then none else A j) (σ.set i (some v)) H (δ.set i (some d)):=E.set r1 (λj=>by
   have:i∉ow:=by simpa using hi
   exact⟨λh=>⟨h,λz=>this (z▸h)⟩,λh=>h.1⟩) hn
  exact h H0 av _ _ H _ E1 ds vr (r2.av λb z => .inl (less b z)) δ' e Q λA' σ' H' s l E'=>k A' σ' H' s (λb z=>less b (l b z)) E'
def ZY(n:Nat)(γs:List D->Env->Option Env)(d:D)(δ:Env):Option Env:=match d with
 | .tup ds=>if ds.length=n then γs ds δ else none
 |_=>none
theorem ZjK{K:Frag}{n:Nat}(h:VGs G ow ow gs γs):VG G ow ow (Xq K n gs) (ZY n γs):=λH0 av A σ H δ E d v r δ' e Q k=>by
 cases d<;>first|(cases e;done)|skip
 rename_i ds;dsimp only [ZY]at e
 by_cases hz:ds.length=n
 . rw [je hz]at e
   unfold Rep at r;obtain⟨a,vs,rfl,_,rd,l⟩:=r;exact⟨a,vs,rfl,SqT.of rd,by rw [<-l.length];exact hz,h H0 av A σ H δ E ds vs l δ' e Q λA' σ' H' s _ E'=>k A' σ' H' s E'⟩
 . rw [jg hz]at e;cases e
def VU(cA:Kn)(iv:Addr->Prop)(J:It)(xs:List D)(H0:Hp):Prop:=∀H,Same H0 H ->
 (∀i,i<xs.length->J.go i H) /\
 (∀(i:Nat)x v H',xs[i]? = some x->J.yld i H v H'->Same H H'/\∀av':Addr->Prop,(∀b,av' b->H b≠none)->(∀b,av' b->iv b\/H0 b=none)->Rep cA av' H' x v) /\
 (∀i,xs.length<=i->J.stop i H)
def VI(G:Cn)(ow:List Nat)(wi:TI)(ι:Env->Option (List D)):Prop:=
 ∀H0 av A σ H δ,ER G ow H0 av A σ H δ->∀xs,ι δ=some xs->∀R:It->Hp->Prop,(∀J H1,Same H H1->VU G.1 (AV av A) J xs (DL.cut A H1)->R J H1)->wi σ H R
def ZK(γ:D->Env->Option Env)(φ:Env->Option Out):List D->Env->Option Out
 | [],δ=>some (.nx δ)
 |x::r,δ=>match γ x δ with
  |none=>none
  |some δ1=>match φ δ1 with
   |none=>none
   |some (.nx δ2)=>ZK γ φ r δ2
   |some (.ct δ2)=>ZK γ φ r δ2
   |some (.bk δ2)=>some (.nx δ2)
   |some (.rt d)=>some (.rt d)
def Zq(ι:Env->Option (List D))(γ:D->Env->Option Env)(φ:Env->Option Out)(δ:Env):Option Out:=match ι δ with
 |some xs=>ZK γ φ xs δ
 |none=>none
theorem ZQ(hi:VI G ow wi ι)(hg:VG G ow ow g γ)(hb:VS G ow ow ow ow tb φ):VS G ow ow owB owC (Yt wi g tb) (Zq ι γ φ):=λH0 av A σ H δ E o e De k=>by
 unfold Zq at e;cases he:ι δ with
 |none=>rw [he]at e;cases e
 |some xs=>
  rw [he]at e;have e:ZK γ φ xs δ=some o:=e;refine hi H0 av A σ H δ E xs he _ λJ H1 s1 W => ?_
  have E1:=E.mono s1;refine⟨λi m σ' H'=>m=xs.length-i/\i<=xs.length/\∃A' δ',ER G ow (DL.cut A H1) av A' σ' H' δ'/\ZK γ φ (xs.drop i) δ'=some o,⟨xs.length,by simp,jR _,A,δ,E1.cut,e⟩,?_⟩
  rintro i m σ' H' ⟨rfl,hle,A',δ',E',e'⟩
  obtain⟨w1,w2,w3⟩:=W H' E'.same
  by_cases hlt:i<xs.length
  . refine .inr ⟨w1 i hlt,λσ2 H2=>∃A2 δ2,ER G ow (DL.cut A H1) av A2 σ2 H2 δ2/\ZK γ φ (xs.drop (i+1)) δ2=some o,λσ2 H2 ⟨A2,δ2,E2,e2⟩=>⟨xs.length-(i+1),by omega,rfl,hlt,A2,δ2,E2,e2⟩,λv H2 y => ?_⟩
    have hx:xs[i]? = some xs[i]:=jd hlt;obtain⟨s2,rep⟩:=w2 i _ v H2 hx y;have E2:=E'.mono s2
    have rep':Rep G.1 (AV av A') H2 xs[i] v:=rep _ E'.avl λb z=>by
     rcases z with z|⟨j,z⟩
     . exact .inl (.inl z)
     . exact .inr (E'.fr j b z)
    rw [uu hlt]at e';unfold ZK at e';cases hγ:γ xs[i] δ' with
    |none=>rw [hγ]at e';cases e'
    |some δ1=>
     rw [hγ]at e';dsimp only at e';refine hg _ av A' σ' H2 δ' E2 _ v rep' δ1 hγ _ λA3 σ3 H3 s3 E3 => ?_
     cases hφ:φ δ1 with
     |none=>rw [hφ]at e';cases e'
     |some o1=>
      rw [hφ]at e';refine hb _ av A3 σ3 H3 δ1 E3 o1 hφ _ ?_;cases o1 with
      |nx δ2=>exact λA4 σ4 H4 E4=>⟨A4,δ2,E4,e'⟩
      |ct δ2=>exact λA4 σ4 H4 E4=>⟨A4,δ2,E4,e'⟩
      |bk δ2=>cases e';exact λA4 σ4 H4 E4=>k A4 σ4 H4 (E1.uncut E4)
      |rt d=>cases e';exact λv H4 s4 r4=>k v H4 (E1.sub0.trans s4) r4
  . have ei:i=xs.length:=by omega
    subst ei;rw [List.drop_length]at e';cases e';exact .inl ⟨w3 _ (jk _),k A' σ' H' (E1.uncut E')⟩
def ZN(τ:Env->Option Bool)(φ:Env->Option Out):Nat->Env->Option Out
 |0,_=>none
 |n+1,δ=>match τ δ with
  |none=>none
  |some false=>some (.nx δ)
  |some true=>match φ δ with
   |none=>none
   |some (.nx δ2)=>ZN τ φ n δ2
   |some (.ct δ2)=>ZN τ φ n δ2
   |some (.bk δ2)=>some (.nx δ2)
   |some (.rt d)=>some (.rt d)
theorem UG:∀(n k:Nat)(δ:Env)(o:Out),ZN τ φ n δ=some o->ZN τ φ (n+k) δ=some o
 |0,_,_,_,h=>by cases h
 |n+1,k,δ,o,h=>by
  rw [Nat.add_right_comm];unfold ZN at h ⊢;cases ht:τ δ with
  |none=>rw [ht]at h;cases h
  |some b=>
   rw [ht]at h;cases b with
   |false=>exact h
   |true=>
    dsimp only at h ⊢;cases hp:φ δ with
    |none=>rw [hp]at h;cases h
    |some o1=>
     rw [hp]at h;cases o1 with
     |nx δ2=>exact UG n k δ2 o h
     |ct δ2=>exact UG n k δ2 o h
     |bk δ2=>exact h
     |rt d=>exact h
open Classical in
noncomputable def YO(τ:Env->Option Bool)(φ:Env->Option Out)(δ:Env):Option Out:=if h:∃n o,ZN τ φ n δ=some o then ZN τ φ (Classical.choose h) δ else none
theorem Q0{n:Nat}{o:Out}(h:ZN τ φ n δ=some o):YO τ φ δ=some o:=by
 have hx:∃n o,ZN τ φ n δ=some o:=⟨n,o,h⟩
 unfold YO;rw [dif_pos hx];obtain⟨o',ho'⟩:=Classical.choose_spec hx;have h1:=UG _ n δ o' ho';have h2:=UG _ (Classical.choose hx) δ o h;rw [Nat.add_comm,h2]at h1;rw [ho',h1]
theorem Zbs{o:Out}(h:YO τ φ δ=some o):∃n,ZN τ φ n δ=some o:=by
 unfold YO at h
 split at h
 . exact⟨_,h⟩
 . cases h
theorem ZbK(hc:VT G ow c τ)(hb:VS G ow ow ow ow tb φ):VS G ow ow owB owC (QF c tb) (YO τ φ):=λH0 av A σ H δ E o e De k=>by
 obtain⟨n,e⟩:=Zbs e;refine⟨λm σ' H'=>∃A' δ',ER G ow H0 av A' σ' H' δ'/\ZN τ φ m δ'=some o,⟨n,A,δ,E,e⟩,?_⟩
 rintro m σ' H' ⟨A',δ',E',e'⟩
 cases m with
 |zero=>cases e'
 |succ m=>
  unfold ZN at e';cases ht:τ δ' with
  |none=>rw [ht]at e';cases e'
  |some b=>
   rw [ht]at e';refine hc H0 av A' σ' H' δ' E' b ht _ λH2 s2 => ?_
   have E2:=E'.mono s2;cases b with
   |false=>cases e';exact X7 (k A' σ' H2 E2)
   |true=>
    dsimp only at e';refine X8 ⟨λσ3 H3=>∃A3 δ3,ER G ow H0 av A3 σ3 H3 δ3/\ZN τ φ m δ3=some o,λσ3 H3 ⟨A3,δ3,E3,e3⟩=>⟨m,uB _,A3,δ3,E3,e3⟩,?_⟩;cases hφ:φ δ' with
    |none=>rw [hφ]at e';cases e'
    |some o1=>
     rw [hφ]at e';refine hb H0 av A' σ' H2 δ' E2 o1 hφ _ ?_;cases o1 with
     |nx δ2=>exact λA4 σ4 H4 E4=>⟨A4,δ2,E4,e'⟩
     |ct δ2=>exact λA4 σ4 H4 E4=>⟨A4,δ2,E4,e'⟩
     |bk δ2=>cases e';exact k
     |rt d=>cases e';exact k
end
section
variable{cA:Kn}{G:Cn}{ow owN owB owC:List Nat}
def ZF(ε:Env->Option D)(δ:Env):Option (List D):=match ε δ with
 |some (.lst xs)=>some xs
 |some (.tup xs)=>some xs
 |some (.str cs)=>some (cs.map λc => .str [c])
 |_=>none
theorem RepL.cut{av:Addr->Prop}{A:Nat->Option Addr}{H:Hp}{d:List D}{v:List V}(h:RepL cA (AV av A) H d v):RepL cA (AV av A) (DL.cut A H) d v:=h.ext λb o n e=>by
 rw [VR λ⟨i,z⟩=>n (.inr ⟨i,z⟩)];exact e
theorem Zch(rd:SqL cA.K H0 a vs)(l:RepL cA iv H0 xs vs):VU cA iv (Itl cA.K a) xs H0:=λH s=>by
 have rd':SqL cA.K H a vs:=s.seq rd;refine⟨λi hi => ?_,λi x v H' hx y => ?_,λi hi=>⟨vs,rd',by rw [<-l.length];exact hi⟩⟩
 . obtain⟨v,hv,_⟩:=l.get (jd hi)
   exact⟨vs,v,rd',hv⟩
 . obtain⟨rfl,hy⟩:=y
   obtain⟨v',hv,r⟩:=l.get hx;rw [hy vs rd']at hv;cases hv;exact⟨Same.refl _,λav' _ h2=>(r.av h2).same s⟩
theorem ZdV{K:Frag}{H0:Hp}(rd:H0 a=some (.tup vs))(l:RepL cA iv H0 xs vs):VU cA iv (Itt K a) xs H0:=λH s=>by
 have rd':SqT K H a vs:=SqT.of (s _ _ rd);refine⟨λi hi => ?_,λi x v H' hx y => ?_,λi hi=>⟨vs,rd',by rw [<-l.length];exact hi⟩⟩
 . obtain⟨v,hv,_⟩:=l.get (jd hi)
   exact⟨vs,v,rd',hv⟩
 . obtain⟨rfl,hy⟩:=y
   obtain⟨v',hv,r⟩:=l.get hx;rw [hy vs rd']at hv;cases hv;exact⟨Same.refl _,λav' _ h2=>(r.av h2).same s⟩
theorem ZdW{cs:List Nat}:VU cA iv (Its cs) (cs.map λc => .str [c]) H0:=λH s=>by
 refine⟨λi hi=>(show i<cs.length by simpa using hi),λi x v H' hx y => ?_,λi hi=>(show cs.length<=i by simpa using hi)⟩;obtain⟨rfl,c,hc,rfl⟩:=y;rw [ji,hc]at hx;cases hx;exact⟨Same.refl _,λ_ _ _=>rfl⟩
theorem Zf2(h:VE G ow tl .cl ε):VI G ow (XE G.1.K tl) (ZF ε):=λH0 av A σ H δ E xs e R k=>by
 unfold ZF at e;cases he:ε δ with
 |none=>rw [he]at e;cases e
 |some d=>
  rw [he]at e;refine h H0 av A σ H δ E d he _ λv H1 s r => ?_
  cases d<;>first|(cases e;done)|skip
  . cases e
    exact .inr (.inr ⟨_,r,k _ H1 s ZdW⟩)
  . cases e
    obtain⟨a,vs,rfl,na,rd,l⟩:=r;exact .inl ⟨a,vs,rfl,rd,k _ H1 s (Zch (ZfY na rd λb o n e=>by rw [VR λ⟨i,z⟩=>n (.inr ⟨i,z⟩)];exact e) l.cut)⟩
  . cases e
    obtain⟨a,vs,rfl,na,rd,l⟩:=r;exact .inr (.inl ⟨a,vs,rfl,SqT.of rd,k _ H1 s (ZdV (by rw [VR λ⟨i,z⟩=>na (.inr ⟨i,z⟩)];exact rd) l.cut)⟩)
def Ym(lo c:Int)(n:Nat):List D:=(List.range n).map λk => .int (lo+(k:Nat)*c)
theorem Za3{lo:Int}{n:Nat}:VU cA iv (Itr lo n) (Ym lo 1 n) H0:=λH s=>by
 refine⟨λi hi=>(show i<n by simpa [Ym]using hi),λi x v H' hx y => ?_,λi hi=>(show n<=i by simpa [Ym]using hi)⟩;obtain⟨rfl,rfl⟩:=y;have hi:i<n:=by have:=(jt.mp hx).1;simpa [Ym]using this
 have:x = .int (lo+i):=by
  unfold Ym at hx;rw [ji,j1 hi]at hx;have:=jo hx;rw [<-this];show D.int (lo+(i:Int)*1)=_;rw [Int.mul_one]
 subst this;exact⟨Same.refl _,λ_ _ _=>rfl⟩
def Zr(α:Env->Option (List D))(δ:Env):Option (List D):=match α δ with
 |some [.int j]=>if -(2 ^ 62)<=j/\j<2 ^ 62 then some (Ym 0 1 j.toNat)else none
 |some [.int i,.int j]=>if -(2 ^ 62)<=i/\i<2 ^ 62 /\ -(2 ^ 62)<=j/\j<2 ^ 62 then some (Ym i 1 (j-i).toNat)else none
 |some [.int i,.int j,.int c]=>if c≠0/\c.natAbs<1073741824/\Builtin.Range.small i j c=true then some (Ym i c (Builtin.Range.rangeSize i j c).toNat)else none
 |_=>none
theorem ql1{x:Int}{vs:List V}(h:RepQL cA av A H q [.int x] vs):vs=[.int x]:=by
 obtain⟨v,r,rfl,h1,h2⟩:=h;have:=h1.any;cases(show v=_ from this);cases(show r=[]from h2);rfl
theorem ql2{x y:Int}{vs:List V}(h:RepQL cA av A H q [.int x,.int y] vs):vs=[.int x,.int y]:=by
 obtain⟨v,r,rfl,h1,h2⟩:=h;have:=h1.any;cases(show v=_ from this);rw [ql1 h2]
theorem Zg8{a:Env->Option (List D)}(h:VA G ow ta q a)(hl:∀δ ds,a δ=some ds->ds.length=1):VI G ow (Zik ta) (Zr a):=λH0 av A σ H δ E xs e R k=>by
 unfold Zr at e;cases he:a δ with
 |none=>rw [he]at e;cases e
 |some ds=>
  rw [he]at e;refine h H0 av A σ H δ E ds he _ λvs H1 s r => ?_
  have hln:=hl δ ds he
  split at e
  . rename_i j he2
    cases he2
    by_cases hz : -(2 ^ 62)<=j/\j<2 ^ 62
    . rw [je hz]at e
      cases e;exact⟨j,ql1 r,hz.1,hz.2,k _ H1 s Za3⟩
    . rw [jg hz]at e;cases e
  . rename_i he2;cases he2;simp at hln
  . rename_i he2;cases he2;simp at hln
  . cases e
theorem Zg9{a:Env->Option (List D)}(h:VA G ow ta q a)(hl:∀δ ds,a δ=some ds->ds.length=2):VI G ow (Zil ta) (Zr a):=λH0 av A σ H δ E xs e R k=>by
 unfold Zr at e;cases he:a δ with
 |none=>rw [he]at e;cases e
 |some ds=>
  rw [he]at e;refine h H0 av A σ H δ E ds he _ λvs H1 s r => ?_
  have hln:=hl δ ds he
  split at e
  . rename_i he2;cases he2;simp at hln
  . rename_i i j he2
    cases he2
    by_cases hz : -(2 ^ 62)<=i/\i<2 ^ 62 /\ -(2 ^ 62)<=j/\j<2 ^ 62
    . rw [je hz]at e
      cases e;exact⟨i,j,ql2 r,hz,k _ H1 s Za3⟩
    . rw [jg hz]at e;cases e
  . rename_i he2;cases he2;simp at hln
  . cases e
theorem Zha{ds:List D}(h:eNil δ=some ds):ds.length=0:=by cases h;rfl
theorem ZbL{r:Env->Option (List D)}{n:Nat}(hr:∀δ ds,r δ=some ds->ds.length=n):∀δ ds,Zb a r δ=some ds->ds.length=n+1:=λδ ds h=>by
 unfold Zb at h;cases ha:a δ with
 |none=>rw [ha]at h;cases h
 |some x=>
  rw [ha]at h;cases hr':r δ with
  |none=>rw [hr']at h;cases h
  |some xs=>rw [hr']at h;cases h;rw [jx,hr δ xs hr']
theorem ZmH:∀δ ds,Zb a eNil δ=some ds->ds.length=1:=ZbL λ_ _=>Zha
theorem Zm9:∀δ ds,Zb a (Zb b eNil) δ=some ds->ds.length=2:=ZbL ZmH
def Y0(n:Nat)(δ:Env)(js:List Nat):Env:=List.replicate n none++js.map λj=>(δ[j]?).getD none
def Yh(γ:D->Env->Option Env)(τ:Env->Option Bool)(ε:Env->Option D)(δ0:Env):List D->Option (List D)
 | []=>some []
 |x::r=>match γ x δ0 with
  |none=>none
  |some δ1=>match τ δ1 with
   |none=>none
   |some false=>Yh γ τ ε δ0 r
   |some true=>match ε δ1 with
    |none=>none
    |some y=>match Yh γ τ ε δ0 r with
     |none=>none
     |some ys=>some (y::ys)
def ZV(ι:Env->Option (List D))(γ:D->Env->Option Env)(τ:Env->Option Bool)(ε:Env->Option D)(n:Nat)(js:List Nat)(δ:Env):Option D:=match ι δ with
 |none=>none
 |some xs=>match Yh γ τ ε (Y0 n δ js) xs with
  |none=>none
  |some ys=>if ys.length<=sizeLine then some (.lst ys)else none
theorem ER.blk{H0 H:Hp}{av:Addr->Prop}{A:Nat->Option Addr}{σ:L2.St}{δ:Env}(n:Nat)(js:List Nat)(hjs:js.all (λj => !ow.contains j)=true)(E:ER G ow H0 av A σ H δ) :
 ER ⟨G.1,λ_=>none⟩ [] H (AV av A) (λ_=>none) (L2.blk n σ js) H (Y0 n δ js):=by
 refine⟨Same.refl H,E.avl,λ_ _ z=>(by cases z),λ_ _ _ z=>(by cases z),λ_ _ z=>(by cases z),λ_ z=>absurd rfl z,λ_ z=>(by cases z),?_,λ_ _ z=>(by cases z),λ_ _ z=>(by cases z),λi d e => ?_⟩
 . unfold L2.blk Y0 XD
   rw [jc,jc,jH,jH,ja,ja]
 . unfold Y0 at e
   by_cases hi:i<n
   . rw [jD (by simpa using hi),j5,je hi]at e
     cases e
   . rw [jG (by simpa using hi),jH,ji]at e
     cases hj:js[i-n]? with
     |none=>rw [hj]at e;cases e
     |some j=>
      rw [hj]at e;have e':(δ[j]?).getD none=some d:=jo e
      have e2:δ[j]? = some (some d):=by
       cases q:δ[j]? with
       |none=>rw [q]at e';cases e'
       |some z=>rw [q]at e';exact congrArg some e'
      obtain⟨v,h1,h2,_⟩:=E.var j d e2
      have hjo:A j=none:=by
       cases q:A j with
       |none=>rfl
       |some a=>
        have h3:=E.dom j (by rw [q];exact λz=>by cases z);have h4:=jT.mp hjs j (jI hj);simp at h4;exact absurd h3 h4
      refine⟨v,?_,λ_=>(h2 hjo).av λb z => ?_,λ_ z=>(by cases z)⟩
      . unfold L2.blk XD
        rw [jG (by simpa using hi),jH,ji,hj];show some ((σ[j]?).getD none)=_;rw [h1];rfl
      . rcases z with z|⟨_,z⟩
        . exact .inl z
        . cases z
theorem ZcQ {n:Nat} {js:List Nat}
 (hjs:js.all (λj => !ow.contains j)=true) (hi:VI G ow wi ι) (hg:VG ⟨G.1,λ_=>none⟩ [] [] g γ) (ht:VT ⟨G.1,λ_=>none⟩ [] tt τ) (he:VE ⟨G.1,λ_=>none⟩ [] te .cl ε):VF G ow (VB wi g tt te n js) (ZV ι γ τ ε n js):=λH0 av A σ H δ E d e Q k=>by
 unfold ZV at e;cases hι:ι δ with
 |none=>rw [hι]at e;cases e
 |some xs=>
  rw [hι]at e;dsimp only at e;cases hc:Yh γ τ ε (Y0 n δ js) xs with
  |none=>rw [hc]at e;cases e
  |some full=>
   rw [hc]at e;dsimp only at e
   by_cases hz:full.length<=sizeLine
   . rw [je hz]at e
     have ed:D.lst full=d:=jo e;refine hi H0 av A σ H δ E xs hι _ λJ H1 s1 W => ?_
     have E1:=E.mono s1
     refine⟨λi m ys H'=>m=xs.length-i/\i<=xs.length/\Same H1 H'/\∃done rest,RepL G.1 (AV av A) H' done ys/\Yh γ τ ε (Y0 n δ js) (xs.drop i)=some rest/\done++rest=full,
      ⟨xs.length,by simp,jR _,Same.refl _,[],full,.nil,hc,rfl⟩,?_⟩
     rintro i m ys H' ⟨rfl,hle,s',done,rest,rl,hr,hf⟩
     have E':=E1.mono s';have sc:Same (DL.cut A H1) H':=λb o z=>s' b o (ZbJ z).1
     obtain⟨w1,w2,w3⟩:=W H' sc
     by_cases hlt:i<xs.length
     . refine .inr ⟨w1 i hlt,λv H2 y => ?_⟩
       have hx:xs[i]? = some xs[i]:=jd hlt;obtain⟨s2,rep⟩:=w2 i _ v H2 hx y;have rep':Rep G.1 (AV av A) H2 xs[i] v:=rep _ E'.avl λb z => .inl z
       have E2:=E'.mono s2;have EB:ER ⟨G.1,λ_=>none⟩ [] H2 (AV av A) (λ_=>none) (L2.blk n σ js) H2 (Y0 n δ js):=E2.blk n js hjs
       have triv:∀(A':Nat->Option Addr){σ':L2.St}{H3:Hp}{δ':Env},ER ⟨G.1,λ_=>none⟩ [] H2 (AV av A) A' σ' H3 δ'->∀b,AV (AV av A) A' b ↔ AV av A b:=λA' {σ' H3 δ'} E3 b=>by
        constructor
        . rintro(z|⟨j,z⟩)
          . exact z
          . have:=E3.dom j (by rw [z];exact λz=>by cases z)
            cases this
        . exact λz => .inl z
       rw [uu hlt]at hr;unfold Yh at hr;cases hγ:γ xs[i] (Y0 n δ js)with
       |none=>rw [hγ]at hr;cases hr
       |some δ1=>
        rw [hγ]at hr;dsimp only at hr;refine hg _ _ _ _ H2 _ EB _ v (rep'.av λb z => .inl ((triv _ EB b).mp z)) δ1 hγ _ λA3 σ3 H3 s3 E3 => ?_
        cases hτ:τ δ1 with
        |none=>rw [hτ]at hr;cases hr
        |some c=>
         rw [hτ]at hr;refine ht _ _ A3 σ3 H3 δ1 E3 c hτ _ λH4 s4 => ?_
         have E4:=E3.mono s4;cases c with
         |false=>
          exact X7 ⟨xs.length-(i+1),by omega,rfl,hlt,(s'.trans s2).trans (s3.trans s4),done,rest,rl.same ((s2.trans s3).trans s4),hr,hf⟩
         |true=>
          dsimp only at hr;cases hε:ε δ1 with
          |none=>rw [hε]at hr;cases hr
          |some yd=>
           rw [hε]at hr;dsimp only at hr;cases hr':Yh γ τ ε (Y0 n δ js) (xs.drop (i+1))with
           |none=>rw [hr']at hr;cases hr
           |some rest'=>
            rw [hr']at hr;have hrr:yd::rest'=rest:=jo hr;subst hrr;refine X8 (he _ _ A3 σ3 H4 δ1 E4 yd hε _ λvy H5 s5 r5 => ?_);have sall:Same H' H5:=((s2.trans s3).trans s4).trans s5;refine⟨?_,xs.length-(i+1),by omega,rfl,hlt,s'.trans sall,done++[yd],rest',(rl.same sall).append (.cons ((RepT.r r5).av λb z => .inl ((triv _ E4 b).mpr z)) .nil),hr',by rw [<-hf];simp⟩
            have:=congrArg List.length hf;rw [jc,jx]at this;have:=rl.length;omega
     . have ei:i=xs.length:=by omega
       subst ei;rw [List.drop_length]at hr;cases hr;refine .inl ⟨w3 _ (jk _),λp hp=>k p ys full H' (s1.trans s') hp (by rw [<-hf,qj];exact rl) ed.symm⟩
   . rw [jg hz]at e;cases e
def spD(cA:Kn)(n:Nat)(m:List D->Option D):Sp:=λvs H Q _=>∃av ds d,(∀a,av a->H a≠none)/\RepL cA av H ds vs/\ds.length=n/\m ds=some d/\∀v H',Same H H'->Rep cA av H' d v->Q v H'
def Zn(n:Nat)(m:List D->Option D)(dds:List D)(α:Env->Option (List D))(δ:Env):Option D:=match α δ with
 |some ds=>if(ds++dds).length=n then m (ds++dds)else none
 |none=>none
def Ql.cq:Ql->Ql
 | .cl => .cl
 |_ => .dt
theorem Q1{n:Nat}{q:Ql}{E0:XK}(dds:List D)(hd:dds.all Zu=true)(h:VA G ow t q α):VE G ow (Um (spD G.1 n m) (dds.map val) E0 t) q.cq (Zn n m dds α):=λH0 av A σ H δ E d e Q k=>by
 unfold Zn at e;cases he:α δ with
 |none=>rw [he]at e;cases e
 |some ds=>
  rw [he]at e;dsimp only at e
  by_cases hz:(ds++dds).length=n
  . rw [je hz]at e
    refine h H0 av A σ H δ E ds he _ λvs H1 s1 r1 => ?_
    have E1:=E.mono s1;cases q with
    |cl=>exact⟨AV av A,ds++dds,d,E1.avl,r1.cl.append (.of_vals hd),hz,e,λv H' s r=>k v H' (s1.trans s) r.t⟩
    |tp=>exact⟨av,ds++dds,d,E1.avH,r1.any.append (.of_vals hd),hz,e,λv H' s r=>k v H' (s1.trans s) r.t⟩
    |dt=>exact⟨av,ds++dds,d,E1.avH,r1.any.append (.of_vals hd),hz,e,λv H' s r=>k v H' (s1.trans s) r.t⟩
  . rw [jg hz]at e;cases e
def run(N:Nat)(φ:Env->Option Out)(ds:List D):Option D:=match φ (ds.map some++List.replicate (N-ds.length) none)with
 |some (.rt d)=>some d
 |some (.nx _)=>some .non
 |_=>none
theorem ZdX{N:List Str}{ds:List D}(r:RepL cA av H ds vs){i:Nat}{d:D}(h:(ds.map some++List.replicate (N.length-ds.length) none)[i]? = some (some d)) :
 ∃v,(L2.start N vs)[i]? = some (some v)/\Rep cA av H d v:=by
 by_cases hi:i<ds.length
 . rw [jD (by simpa using hi),ji]at h
   cases hd:ds[i]? with
   |none=>rw [hd]at h;cases h
   |some x=>
    rw [hd]at h;cases h;obtain⟨v,hv,rv⟩:=r.get hd;refine⟨v,?_,rv⟩;unfold L2.start;have:i<vs.length:=by rw [<-r.length];exact hi
    rw [jD (by simpa using this),ji,hv];rfl
 . rw [jG (by simpa using hi),j5]at h
   split at h<;>cases h
theorem Q2{N:List Str}{ds:List D}{av:Addr->Prop}{H:Hp}(ha:∀a,av a->H a≠none)(r:RepL cA av H ds vs) :
 ER ⟨cA,λ_=>none⟩ [] H av (λ_=>none) (L2.start N vs) H (ds.map some++List.replicate (N.length-ds.length) none):=by
 refine⟨Same.refl H,ha,λ_ _ z=>(by cases z),λ_ _ _ z=>(by cases z),λ_ _ z=>(by cases z),λ_ z=>absurd rfl z,λ_ z=>(by cases z),?_,λ_ _ z=>(by cases z),λ_ _ z=>(by cases z),λi d e => ?_⟩
 . unfold L2.start
   rw [jc,jc,ja,ja,jH,jH,r.length]
 . obtain⟨v,h1,h2⟩:=ZdX r e
   refine⟨v,h1,λ_=>h2.av λb z => ?_,λ_ z=>(by cases z)⟩;rcases z with z|⟨_,z⟩
   . exact .inl z
   . cases z
def Q3(K:Frag):List V->Hp->VK->Prop:=λxs H Q=>Zm6 K xs H Q\/∃p vs c cv b,xs=[.ref p,c]/\(∀v,RelV c v->v=cv)/\KL K p vs/\kitOne K (.type "list") cv=some b/\Q (.bl b) H
theorem ZjL{X:Cx}{K:Frag}(hK:X.K=K:=by rfl):CallR X (.builtin "isinstance") (Q3 K):=by
 subst hK;intro pins s σ H xs us Q I rs h;rcases h with h|⟨p,vs,c,cv,b,rfl,hc,⟨o,its,n,hk,h1,_⟩,e,q⟩
 . exact ZeB pins s σ H xs us Q I rs h
 . obtain⟨u,w',rfl,rx,rc⟩:=Ul rs
   have ec:=hc _ rc;subst ec;cases(show u=Value.ref p from rx);exact qu PySem.W.kitx_list I.kIn ⟨o,I.kIn p o hk,h1⟩ e (λz=>nomatch z) λtk=>⟨.bl b,H,I.tok tk,rfl,q⟩
def kind:D->String
 | .non => "NoneType"
 | .bl _ => "bool"
 | .int _ => "int"
 | .str _ => "str"
 | .lst _ => "list"
 | .tup _ => "tuple"
 | .obj c _ _=>c
 | .dct _ _ => "dict"
 | .dtt _ _ => "dict"
 | .dnn _ => "dict"
def plainKinds:List String:=["NoneType", "bool", "int", "str", "list", "tuple"]
def UH(tab:List (String×Bool)):D->Option Bool
 | .obj c _ _=>if plainKinds.contains c then none else tab.lookup c
 | .dct _ _=>none
 | .dtt _ _=>none
 | .dnn _=>none
 |d=>tab.lookup (kind d)
def Xj(tab:List (String×Bool))(a:Env->Option D)(δ:Env):Option D:=match a δ with
 |some d=>match UH tab d with
  |some b=>some (.bl b)
  |none=>none
 |none=>none
structure ClsI(K:Frag)(C:Addr):Prop where
 cl:Cls K C
 ha:findIn K (.ref C) "__class__" = some (some (.builtin "object.__class__"))
 hn:PySem.W.specialIn K (.builtin "object.__class__") "__get__" = some (some (.builtin "getset_descriptor.__get__"))
 htk:PySem.W.takesIn K (.builtin "object.__class__")=some true
 hm:mroIn K C (.type "object")=some true
structure IsiOk(K:Frag)(cA:Kn)(cv:Value)(tab:List (String×Bool)):Prop where
 plain:∀k∈plainKinds,∀b,tab.lookup k=some b->kitOne K (.type k) cv=some b
 own:∀(c:String)b,plainKinds.contains c=false->tab.lookup c=some b->kitOne K (.ref (cA.c c)) cv=some b/\ClsI K (cA.c c)
theorem Q4{β:Type}{c:String}{b:β}:∀{tab:List (String×β)},tab.lookup c=some b->(c,b)∈tab
 | [],h=>by simp at h
 |(c',b')::r,h=>by
  rw [jS]at h;cases hc:c == c' with
  |true=>
   rw [hc]at h;cases h;rw [eq_of_beq hc];exact jj
  |false=>
   rw [hc]at h;exact jq _ (Q4 h)
theorem ZcR{K:Frag}{cA:Kn}{tab:List (String×Bool)}(h:∀p∈tab,if plainKinds.contains p.1=true then kitOne K (.type p.1) cv=some p.2 else kitOne K (.ref (cA.c p.1)) cv=some p.2/\ClsI K (cA.c p.1)):IsiOk K cA cv tab where
 plain:=λk hk b hl=>by
  have:=h _ (Q4 hl)
  rwa [je (by simpa using hk)]at this
 own:=λc b hc hl=>by
  have:=h _ (Q4 hl)
  rwa [jg (by simpa using hc)]at this
theorem Zf3{cv:Value}{tab:List (String×Bool)}(hc:∀v,RelV c v->v=cv)(I:IsiOk G.1.K G.1 cv tab)(ha:VE G ow ta q a) :
 VE G ow (tCB (Q3 G.1.K) (Zy ta (Zy (tC c) tNil))) .cl (Xj tab a):=λH0 av A σ H δ E d e Q k=>by
 unfold Xj at e;cases he:a δ with
 |none=>rw [he]at e;cases e
 |some x=>
  rw [he]at e;dsimp only at e;cases ht:UH tab x with
  |none=>rw [ht]at e;cases e
  |some b=>
   rw [ht]at e;cases e;refine ha H0 av A σ H δ E x he _ λv H1 s r => ?_
   have r':=r.any;have fin:∀t,TyOf G.1.K H1 v t->kitOne G.1.K t cv=some b->Q3 G.1.K [v,c] H1 Q:=λt ty e => .inl ⟨v,c,cv,t,b,rfl,hc,ty,e,k _ H1 s rfl⟩
   cases x with
   |non=>cases(show v=_ from r');exact fin _ .non (I.plain _ 'b' b (by exact ht))
   |bl y=>cases(show v=_ from r');exact fin _ (.bl y) (I.plain _ 'b' b (by exact ht))
   |int y=>cases(show v=_ from r');exact fin _ (.int y) (I.plain _ 'b' b (by exact ht))
   |str y=>cases(show v=_ from r');exact fin _ (.str _) (I.plain _ 'b' b (by exact ht))
   |lst y=>
    unfold Rep at r';obtain⟨p,vs,rfl,_,rd,_⟩:=r';rcases rd with(rd|⟨o,rd⟩)|rd
    . exact fin _ (.lst rd) (I.plain _ 'b' b (by exact ht))
    . exact fin _ (.frz rd) (I.plain _ 'b' b (by exact ht))
    . exact .inr ⟨p,vs,c,cv,b,rfl,hc,rd,I.plain _ 'b' b (by exact ht),k _ H1 s rfl⟩
   |tup y=>
    unfold Rep at r';obtain⟨p,vs,rfl,_,rd,_⟩:=r';exact fin _ (.tup rd) (I.plain _ 'b' b (by exact ht))
   |dct ks y=>cases ht
   |dtt ks y=>cases ht
   |dnn y=>cases ht
   |obj c' ks y=>
    unfold Rep at r';obtain⟨p,dx,vs,rfl,_,rd,_⟩:=r';dsimp only [UH]at ht;cases hp:plainKinds.contains c' with
    |true=>rw [hp,je rfl]at ht;cases ht
    |false=>
    rw [hp,jg jy]at ht;obtain⟨h1,h2⟩:=I.own c' b hp ht;exact fin _ (.ins rd h2.cl h2.ha h2.hn h2.htk h2.hm) h1
end
end DL
namespace L2
open PySem PySem.Spec
section
variable{X:Cx}
theorem ZaA:∀{l:List (List Nat)}{us:List Value},Vals (l.map S) us->PyProof.Rows.StrsAre us (l.map tx)
 | [],us,r=>by
  rw [uE]at r;cases r;exact .nil
 |a::l,us,r=>by
  rw [jp]at r;cases r with
  |cons r1 r2=>
   obtain⟨t,rfl⟩:=r1;exact .cons _ t (ZaA r2)
theorem Zhb{K:Frag}(hK:X.K=K:=by rfl):MtR X "str.join" (λx xs H Q=>∃sep p l,x=S sep/\xs=[.ref p]/\SqL K H p (l.map S)/\(l.map List.length).sum+l.length*sep.length<=sizeLine/\Q (S (Xd sep l)) H):=by
 subst hK;intro pins s σ H x xs v us Q I rx rs h;obtain⟨sep,p,l,rfl,rfl,hq,hz,q⟩:=h;obtain⟨t,rfl⟩:=rx;obtain⟨u,rfl,rp⟩:=YF rs;cases rp;obtain⟨its,rv,pl,_⟩:=I.list hq;have hs:sizeLine=16777216:=j7;refine PyProof.Rows.join_list (ys:=l.map tx) pl.isList (by simpa using ZaA rv) ?_ λt' k=>⟨S (Xd sep l),H,I.tok _,⟨t',?_⟩,q⟩
 . have e : ((l.map tx).map (·.length)) = l.map List.length := by
    rw [jZ];exact qV λa _=>YX a
   rw [e,ja,YX];omega
 . have:=QR sep l
   show Value.str (Builtin.Str.glued (tx sep) (l.map tx)) t'=_;rw [StrLaws.glued_eq_join,QR]
end
end L2
namespace DL
open PySem PySem.Spec L2
section
variable{cA:Kn}{G:Cn}{ow:List Nat}
def Q5(cA:Kn)(r:V->List V->Hp->VK->Prop)(f:List Nat->List D->Option D):Prop:=
 ∀(i:Addr->Prop)(H:Hp)(a:List Nat)(ds:List D)(vs:List V)(d:D),(∀a,i a->H a≠none)->Xw cA i H ds vs->f a ds=some d->∀Q:VK,(∀v H',Same H H'->Rep cA i H' d v->Q v H')->r (S a) vs H Q
def eBM(f:List Nat->List D->Option D)(a:Env->Option D)(α:Env->Option (List D))(δ:Env):Option D:=match a δ with
 |some (.str cs)=>match α δ with
  |some ds=>f cs ds
  |none=>none
 |_=>none
theorem Zk2{K:Frag}{r:V->List V->Hp->VK->Prop}{f:List Nat->List D->Option D}{q0 q:Ql}(hr:Q5 G.1 r f)(ha:VE G ow to q0 a)(h:VA G ow t q α) :
 VE G ow (tBM K "str" r to t) q.it (eBM f a α):=λH0 av A σ H δ E d e Q k=>by
 unfold eBM at e;cases hx:a δ with
 |none=>rw [hx]at e;cases e
 |some x=>
  rw [hx]at e;cases x<;>first|(cases e;done)|skip
  rename_i cs;dsimp only at e;cases he:α δ with
  |none=>rw [he]at e;cases e
  |some ds=>
   rw [he]at e;refine ha H0 av A σ H δ E _ hx _ λv H1 s1 r1 => ?_
   have e1:v=S cs:=r1.any;subst e1;refine⟨rfl,h H0 av A σ H1 δ (E.mono s1) ds he _ λvs H2 s2 r2 => ?_⟩;have E2:=(E.mono s1).mono s2;have s12:=s1.trans s2;cases q with
   |cl=>exact hr _ H2 cs ds vs d E2.avl r2.il e _ λv H' s r=>k v H' (s12.trans s) r.t
   |tp=>exact hr _ H2 cs ds vs d E2.avl r2.il e _ λv H' s r=>k v H' (s12.trans s) r.t
   |dt=>exact hr _ H2 cs ds vs d E2.avH r2.il e _ λv H' s r=>k v H' (s12.trans s) r.t
def strs? : List D->Option (List (List Nat))
 | []=>some []
 | .str a::r=>match strs? r with
  |some l=>some (a::l)
  |none=>none
 |_=>none
theorem ZcS:∀{xs:List D}{l:List (List Nat)},strs? xs=some l->xs=l.map D.str
 | [],l,h=>by cases h;rfl
 |x::xs,l,h=>by
  cases x<;>first|(cases h;done)|skip
  rename_i a;unfold strs? at h;cases hr:strs? xs with
  |none=>rw [hr]at h;cases h
  |some r=>
   rw [hr]at h;cases h;rw [jp,ZcS hr]
def joinD(sep:List Nat):List D->Option D
 | [.lst xs]=>match strs? xs with
  |some l=>if(l.map List.length).sum+l.length*sep.length<=sizeLine then some (.str (Xd sep l))else none
  |none=>none
 |_=>none
theorem Zhc:Q5 cA (λx xs H Q=>∃sep p l,x=S sep/\xs=[.ref p]/\SqL cA.K H p (l.map S)/\(l.map List.length).sum+l.length*sep.length<=sizeLine/\Q (S (Xd sep l)) H) joinD:=λi H a ds vs d _ h e Q k=>by
 unfold joinD at e
 split at e
 . rename_i xs
   cases hs:strs? xs with
   |none=>rw [hs]at e;cases e
   |some l=>
    rw [hs]at e;dsimp only at e
    by_cases hz:(l.map List.length).sum+l.length*a.length<=sizeLine
    . rw [je hz]at e
      cases e;obtain⟨v,t,rfl,p,ws,rfl,_,rd,ll⟩:=il1 h;have ex:=ZcS hs;subst ex;have ev:=ll.vals (by rw [yC];exact jT.mpr λ_ _=>rfl);rw [jZ]at ev;subst ev;exact⟨a,p,l,rfl,rfl,rd,hz,k _ H 'q' rfl⟩
    . rw [jg hz]at e;cases e
 . cases e
end
end DL
namespace L2
open PySem PySem.Spec
structure FunX(K:Frag)(x qual:Str)(st:Stmt)(f:Addr)(fd:FuncData):Prop where
 ex:∃(oc:Value) (od:Option Addr) (dV kV doc pm:Value) (an:Option Addr) (cdv ct:Value) (osl:Array (Option Value)),
  fd=fnOf x qual (defArgs st) (defBody st) (defScope st) dV kV doc pm an cdv ct/\K.lookup f=some ⟨oc,od,.func fd,osl⟩/\codeIn K cdv qual=true
theorem Fun.x{K:Frag}{x qual:Str}{st:Stmt}{f:Addr}{fd:FuncData}(F:Fun K x qual st f fd):FunX K x qual st f fd:=by
 obtain⟨oc,od,kV,doc,pm,an,cdv,ct,osl,h⟩:=F.ex;exact⟨oc,od,.none,kV,doc,pm,an,cdv,ct,osl,h⟩
section
variable{P:Program}{w:World}{K:Frag}{mg:Str->Option Value}{base:Heap}
theorem FunX.ok {x qual:Str} {st:Stmt} {f:Addr} {fd:FuncData} {N ps:List Str} {k:Nat} {sp:Sp} (F:FunX K x qual st f fd) (S:FnScope N ps (defScope st)) (len:∀vs H Q E,sp vs H Q E->vs.length=ps.length)
 (hbody:∀(cdv:Value)(A:Around)(outer:List Env)(s:Shared)(H:Hp)(vs:List V)(Q:VK)(E:XK),Room k (A.deeper (PyProof.Rows.envOfC qual (defScope st) s.heap.objs.size f cdv))->sp vs H Q E ->
   ∃t,PSs (Yd CX0 P w K mg base N qual (defScope st) f cdv A outer s H E).nox (defBody st) t/\t { nx:=λ_ H'=>Q .non H',rt:=Q } (start N vs) H):FnOk P w K mg base CX0 (k+1) f fd ps sp:=by
 obtain⟨oc,od,dV,kV,doc,pm,an,cdv,ct,osl,rfl,lk,hcd⟩:=F.ex;refine Zin lk hcd S len λA outer s H vs Q E hr hsp => ?_
 obtain⟨t,h,q⟩:=hbody cdv A outer s H vs Q E hr hsp;exact⟨t,h.nox,q⟩
end
end L2
namespace DL
open PySem PySem.Spec L2
section
variable{cA:Kn}{G:Cn}{ow owN owB owC:List Nat}
section
variable{P:Program}{w:World}{K:Frag}{mg:Str->Option Value}{base:Heap}
theorem Zk3 {st:Stmt} {N ps:List Str} {k:Nat} (F:FunX K x qual st f fd) (S:FnScope N ps (defScope st))
 (hbody:∀(cdv:Value)(A:Around)(outer:List PySem.Env)(s:Shared)(H:Hp)(E:XK),Room k (A.deeper (PyProof.Rows.envOfC qual (defScope st) s.heap.objs.size f cdv)) ->
   ∃t,PSs (Yd CX0 P w K mg base N qual (defScope st) f cdv A outer s H E).nox (defBody st) t/\∃owN,VS ⟨cA,λ_=>none⟩ [] owN [] [] t φ):FnOk P w K mg base CX0 (k+1) f fd ps (spD cA ps.length (run N.length φ)):=by
 refine F.ok S (λvs H Q E h => ?_) λcdv A outer s H vs Q E hr h => ?_
 . obtain⟨av,ds,d,_,r,hl,_⟩:=h
   rw [<-r.length,hl]
 . obtain⟨av,ds,d,ha,r,hl,hm,q⟩:=h
   obtain⟨t,ht,owN,hv⟩:=hbody cdv A outer s H E hr;refine⟨t,ht,?_⟩;unfold run at hm;cases hφ:φ (ds.map some++List.replicate (N.length-ds.length) none)with
   |none=>rw [hφ]at hm;cases hm
   |some o=>
    rw [hφ]at hm;refine hv H av _ _ H _ (Q2 ha r) o hφ _ ?_;cases o with
    |nx δ'=>cases hm;exact λA' σ' H' E'=>q .non H' E'.same rfl
    |rt d'=>cases hm;exact λv H' s' r'=>q v H' s' r'
    |bk δ'=>cases hm
    |ct δ'=>cases hm
end
end
section
variable{cA:Kn}{P:Program}{w:World}{K:Frag}{mg:Str->Option Value}{base:Heap}
theorem Yw {st:Stmt} {N ps:List Str} {k:Nat} {body:List Stmt} {scope:Scope} {n:Nat} {m:List D->Option D} (F:FunX K x qual st f fd) (S:FnScope N ps (defScope st)) (hS:defScope st=scope) (hB:defBody st=body)
 (hbody:∀(cdv:Value)(A:Around)(outer:List PySem.Env)(s:Shared)(H:Hp)(E:XK),Room k (A.deeper (PyProof.Rows.envOfC qual scope s.heap.objs.size f cdv)) ->
   ∃t,PSs (Yd CX0 P w K mg base N qual scope f cdv A outer s H E).nox body t/\∃owN,VS ⟨cA,λ_=>none⟩ [] owN [] [] t φ)  (hm:m=run N.length φ) (hn:ps.length=n):FnOk P w K mg base CX0 (k+1) f fd ps (spD cA n m):=by
 subst hS hB hm hn;exact Zk3 F S hbody
end
end DL
namespace DL
open PySem PySem.Spec L2 PyProof.Rows
def YI:List D->Option (List Int)
 | []=>some []
 | .int b::r=>match YI r with
  |some bs=>some (b::bs)
  |none=>none
 |_=>none
theorem Q6:∀{xs:List D}{bs:List Int},YI xs=some bs->xs=bs.map D.int
 | [],bs,h=>by cases h;rfl
 |x::xs,bs,h=>by
  cases x<;>first|(cases h;done)|skip
  rename_i b;unfold YI at h;cases hr:YI xs with
  |none=>rw [hr]at h;cases h
  |some cs=>
   rw [hr]at h;cases h;rw [jp,Q6 hr]
theorem intsD_map(bs:List Int):YI (bs.map D.int)=some bs:=by
 induction bs with
 |nil=>rfl
 |cons b bs ih=>rw [jp,YI,ih]
theorem Q7:∀(ns:List Int)(its:List Value),Vals (ns.map V.int) its->IntsAre its ns
 | [],its,h=>by cases h;exact .nil
 |n::ns,its,h=>by
  cases h with
  |cons r1 r2=>
   obtain⟨t,rfl⟩:=r1;exact .cons _ _ (Q7 ns _ r2)
end DL
namespace L2
open PySem PySem.Spec PyProof.Rows
section
variable{X:Cx}{scope:Scope}{tn cn:List Str}{js:List Nat}{tg iter elt:Expr}{ifs:List Expr}{pos spos pos':Pos}{wi:TI}{g:TG}{tt:TT}{te:TE}
theorem Q8 {i:Nat} {x:Str} (hN:X.N.Nodup) (hi:X.N[i]? = some x) (hx:X.env.scope.names.lookup x=some .local) (hc:X.calm=true) (S:CompSc X scope tn cn js) (hI:PI X tg iter wi)
 (hg:∀C s₂ H₂ fp,PG (YG X scope (tn++cn) C s₂ H₂ fp) tg g) (ht:∀C s₂ H₂ fp,PTs (YG X scope (tn++cn) C s₂ H₂ fp) ifs tt) (he:∀C s₂ H₂ fp,PE (YG X scope (tn++cn) C s₂ H₂ fp) elt te)
 (hsw:swapsWith (.ListComp elt [⟨tg,iter,ifs,0⟩] scope pos) (some (.Name x pos')) spos.line X.env=pure true:=by rfl)
 (hs:∀x,foldedSetIterable iter X.env x=pure x:=by intro _;rfl) :
 PS X (.Assign [.Name x pos'] (.ListComp elt [⟨tg,iter,ifs,0⟩] scope pos) spos) (ZG (VB wi g tt te tn.length js) (Zs i)):=by
 intro pins s σ H D I h;rw [exec_Assign_Name_used _ _ _ _ hsw];refine jb (wpAny_standAt (jb ?_));show wpAny _ X.A (do let _ <-comprehension (.ListComp elt [⟨tg,iter,ifs,0⟩] scope pos) scope X.env _ (newList []) false (eval iter X.env) (some (assign (.Name x pos') X.env))) _ _ s
 refine jb (qJ (wpAny_comprehension_free (use:=some (assign (.Name x pos') X.env)) (Q:=λ_ s'=>SP X pins D .next s') (cl:=Yj X.env.cells scope.names []) rfl hs (Zae (S.clos I.ok)) S.kind S.names
  (thn (hI pins s σ H _ I h) λv s1 h1=>thn h1 λitv s2 h2 => ?_)) (λ_ s' hq=>jf (jf hq)) λ_ _ e=>e)
 obtain⟨it,fp,tnx,J,H2,e,I2,T,st2,f2,W,⟨m0,w0⟩,turn⟩:=h2;subst e;refine Zaz (RR:=λacc C=>compPost 'e' X.A X.xe (some (assign (.Name x pos') X.env)) (λ_ s'=>SP X pins D .next s') acc C) (W:=W) (m0:=m0) hc S hg ht he I2 T st2 f2 w0 λi' m ys H w => ?_
 rcases turn i' m ys H w with⟨stop,qn⟩|r
 . refine .inl ⟨stop,λC D' s its n σ' hC hD hDC hv hz I' => ?_⟩
   obtain⟨m',hn,_⟩:=id I'.loc;have pd:=I'.pin (D',{ cls := .type "list",data := .seq its.toArray n }) (jw _ jj);have hCf:H C=none:=I'.free;have I1:Inv X pins σ (upd H D' (.lst ys)) { s with heap:=s.heap }:=ZbG S I2 hC hD hDC f2 I' hv hz (Heap.SameBut.refl _ _);show wpAny _ X.A (assign (.Name x pos') X.env (.ref D')) _ _ _;have hlC:X.env.locals≠C:=λz=>absurd (z▸I2.lt) (Nat.not_lt.mpr hC)
   have hcC:∀y c,X.env.cells.lookup y=some c->c≠C:=λy c e z=>by
    obtain⟨v',o',q,_⟩:=I2.cell y c e;exact absurd (jz q) (Nat.not_lt.mpr (z▸hC))
   refine wpAny_assign_Name (J7 I1 hN hi (.inl hx) (v:=.ref D') rfl (λs3 I3 ⟨a,hsb,ha⟩ => ?_) (.inr hx))
   have hCa:C≠a:=by
    rcases ha with rfl|ha
    . exact jO hlC
    . exact jO (hcC _ _ ha)
   refine⟨m',hn.sameBut hsb hCa,λh' hs' => ?_⟩;have hCn:upd H D' (.lst ys) C=none:=by rw [Zc (jO hDC)];exact hCf
   have I4:Inv X pins (σ.set i (some (.ref D'))) (upd H D' (.lst ys)) { s3 with heap:=h',toks:=s3.toks }:=I3.turned (it:=C) (λb o hb e=>(hs'.2 b hb).trans e) hCn (jO hlC) (.inr (jL (jL I2.ok.above (uk I2.lt)) hC)) (λy c e=>hcC y c e) λp hp z=>by
    have:=(I2.pin p hp).1;exact absurd (jz this) (Nat.not_lt.mpr (z▸hC))
   exact⟨_,_,I4,qn D' pd.2.1⟩
 . exact .inr r
end
end L2
namespace DL
open PySem PySem.Spec L2
variable{cA:Kn}
end DL
namespace DL
open PySem PySem.Spec L2 PyProof.Rows
def Wd(i:Int):Prop:=i.natAbs<2 ^ 8000
instance (i:Int):Decidable (Wd i):=by unfold Wd;infer_instance
def CMulW(i j:Int):Prop:=(Wd i/\Wd j)\/CMul i j
instance (i j:Int):Decidable (CMulW i j):=by unfold CMulW;infer_instance
def Vi(_ j:Int):Prop:=j≠0/\Wd j
instance (i j:Int):Decidable (Vi i j):=by unfold Vi;infer_instance
instance (i j:Int):Decidable (Zmz i j):=by unfold Zmz;infer_instance
theorem Zf4{i:Int}(h:Wd i)(h0:i≠0):i.natAbs.log2<8000:=(Nat.log2_lt 'a').mpr h
theorem CMulW.ok{i j:Int}(h:CMulW i j):IntMulOk i j:=by
 rcases h with⟨h1,h2⟩|h
 . have bits : ∀ {a : Int}, Wd a -> Builtin.Int.intBits a <= 2 ^ 20 := fun {a} ha => by
    unfold Builtin.Int.intBits
    by_cases h0:a=0
    . subst h0;decide
    . have:=Zf4 ha h0
      have e:(2:Nat) ^ 20=1048576:=by decide
      rw [e]
      split<;>omega
   exact .of_bits (bits h1) (bits h2)
 . exact h.ok
section
variable{X:Cx}{cA:Kn}
theorem op_mulW:OpR X (binaryOp .Mult) (rI CMulW λi j => .int (i*j)):=opI λ_ _ _ _ _ _ _ hc q=>mul_int q hc.ok
theorem ZeN:OpR X (binaryOp .FloorDiv) (rI Vi λi j => .int (i.fdiv j)):=opI λ_ _ _ _ _ _ _ hc q=>floordiv_int hc.1 q (.inl (PyProof.noPylong_of_log2 (Nat.lt_trans (Zf4 hc.2 hc.1) 'b')))
def fdivW:D->D->Option D
 | .int i,.int j=>if Vi i j then some (.int (i.fdiv j))else none
 |_,_=>none
def modW:D->D->Option D
 | .int i,.int j=>if j≠0 then some (.int (i.fmod j))else none
 |_,_=>none
theorem Zit{C:Int->Int->Prop} [∀i j,Decidable (C i j)]{g:Int->Int->Int}{f:D->D->Option D}(hf:∀x y d,f x y=some d->∃i j,x = .int i/\y = .int j/\C i j/\d = .int (g i j)):Yv cA (rI C λi j => .int (g i j)) f:=λt t' i H x y vx vy d _ hx hy e Q k=>by
 obtain⟨a,b,rfl,rfl,hc,rfl⟩:=hf x y d e;cases(show vx=_ from hx);cases(show vy=_ from hy);exact⟨_,_,rfl,rfl,hc,k _ H 'q' rfl⟩
theorem ZeO:Yv cA (rI Vi λi j => .int (i.fdiv j)) fdivW:=Zit λx y d e=>by
 cases x<;>cases y<;>first|(cases e;done)|skip
 rename_i a b;dsimp only [fdivW]at e
 by_cases hz:Vi a b
 . rw [je hz]at e;cases e;exact⟨_,_,rfl,rfl,hz,rfl⟩
 . rw [jg hz]at e;cases e
theorem Zhd:Yv cA (rI (λ_ j=>j≠0) λi j => .int (i.fmod j)) modW:=Zit λx y d e=>by
 cases x<;>cases y<;>first|(cases e;done)|skip
 rename_i a b;dsimp only [modW]at e
 by_cases hz:b≠0
 . rw [je hz]at e;cases e;exact⟨_,_,rfl,rfl,hz,rfl⟩
 . rw [jg hz]at e;cases e
end
end DL
namespace L2
open PySem PySem.Spec PyProof.Rows
section
variable{X:Cx}
def Ziu(K:Frag):R2:=λx y H Q=>∃l b xs zs,x = .ref l/\y = .ref b/\SqL K H l xs/\SqL K H b zs/\xs.length+zs.length<=sizeLine/\∀p,H p=none->Q (.ref p) (upd H p (.lst (xs++zs)))
theorem Zhe:OpR X (binaryOp .Add) (Ziu X.K):=by
 intro pins s σ H x y v u Q I rx ry h;obtain⟨l,b,xs,zs,rfl,rfl,hH,hB,hz,q⟩:=h;cases rx;cases ry;obtain⟨its,r,pl,_⟩:=I.list hH;obtain⟨its2,r2,pl2,_⟩:=I.list hB;obtain⟨⟨c1,d1,da1,sl1⟩,n1,g1,e1,e2,e3⟩:=pl;obtain⟨⟨c2,d2,da2,sl2⟩,n2,g2,f1,f2,f3⟩:=pl2;dsimp only at e1 e2 e3 f1 f2 f3;subst e1 e2 e3 f1 f2 f3;have hl:=r.length;have hl2:=r2.length;refine concat_meets ⟨_,g1,rfl⟩ ⟨_,g2,rfl⟩ noFill_list_add seq_list_add PySem.F.slot_list_add PySem.F.entry_list_add (PySem.F.args_list_add_2 _ _) (list_addW l b its.toArray its2.toArray n1 n2 none none sl1 sl2 (by rw [jM,jM];omega)) ⟨g1,g2,?_⟩
 have ea:its.toArray++its2.toArray=(its++its2).toArray:=by simp
 rw [ea];exact⟨.ref _,_,I.lnew (t':=s.toks) (r.append r2) (by rw [jc];omega),rfl,q _ I.fresh⟩
def Ziv(K:Frag):R2:=λx y H Q=>∃l k xs,x = .ref l/\y = .int k/\SqL K H l xs /\ -(2 ^ 63)<=k/\k<2 ^ 63/\xs.length*k.toNat<=sizeLine/\∀p,H p=none->Q (.ref p) (upd H p (.lst (List.replicate k.toNat xs).flatten))
theorem Zhf:OpR X (binaryOp .Mult) (Ziv X.K):=by
 intro pins s σ H x y v u Q I rx ry h;obtain⟨l,k,xs,rfl,rfl,hH,h1,h2,hz,q⟩:=h;cases rx;obtain⟨t,rfl⟩:=ry;obtain⟨its,r,pl,_⟩:=I.list hH;obtain⟨⟨c1,d1,da1,sl1⟩,n1,g1,e1,e2,e3⟩:=pl;dsimp only at e1 e2 e3;subst e1 e2 e3;have hl:=r.length;have hlen:its.toArray.size*k.toNat<=sizeLine:=by rw [jM,<-hl];exact hz
 have hcap:¬its.toArray.size*k.toNat>(2 ^ 63-1) / 8:=by
  have:(sizeLine:Nat)<=(2 ^ 63-1) / 8:=by decide
  omega
 have hfit:¬(!Builtin.List.listFitsIndex k)=true:=by
  rw [fitsIndex_both h1 h2];exact jy
 have hlong:¬Builtin.List.listTooLong (its.toArray.size*k.toNat)=true:=by
  rw [ZbE hlen];exact jy
 have hnew:List.foldl (λx1 x2=>x1++x2) #[] (List.replicate (if its.toArray.isEmpty=true then 0 else k.toNat) its.toArray)=(List.replicate k.toNat its).flatten.toArray:=by
  have f0:∀m:Nat,List.foldl (λx1 x2=>x1++x2) #[] (List.replicate m its.toArray)=(List.replicate m its).flatten.toArray:=λm=>by
   have:=ZaT its m [];rw [ue]at this;exact this
  rw [f0];cases its with
  |nil=>simp
  |cons a r'=>rw [jg 'c']
 refine wpAny_binaryOp_repeat_ref (T:="list") (U:="int") 'b' ⟨_,g1,rfl⟩ (λs'=>typeIs_int s' k t) noFill_list_mul F.fills_int_mul F.slot_int_rmul repeat_list F.slot_int_index.lookup
  (call_meets F.slot_int_rmul (typeIs_int s k t) F.entry_int_rmul (F.args_int_rmul_2 _ _) (lm_int_rmul_list_any k t l its.toArray n1 none sl1)
    ⟨g1,rfl,⟨_,g1,rfl⟩,call_meets F.slot_list_mul ⟨_,g1,rfl⟩ F.entry_list_mul (F.args_list_mul_2 _ _) (lm_list_mul_any l its.toArray n1 none sl1 k t hfit hcap hlong) ⟨g1,?_⟩⟩)
 rw [hnew];exact⟨.ref _,_,I.lnew (t':=s.toks) (r.rep k.toNat) (by rw [ZgR,qN];exact hz),rfl,q _ I.fresh⟩
def VV(K:Frag):R2:=λx y H Q=>rI0 (λi j => .int (i+j)) x y H Q\/rAddS x y H Q\/Ziu K x y H Q
theorem Zhg:OpR X (binaryOp .Add) (VV X.K):=op_add.or (op_addS.or Zhe)
theorem ZjM{K:Frag}(hK:X.K=K:=by rfl):OpR X (binaryOp .Add) (VV K):=hK▸Zhg
def Q9(K:Frag):R2:=λx y H Q=>rI DL.CMulW (λi j => .int (i*j)) x y H Q\/DL.rMulS x y H Q\/Ziv K x y H Q
theorem Zhh:OpR X (binaryOp .Mult) (Q9 X.K):=DL.op_mulW.or (DL.op_mulS.or Zhf)
theorem ZjN{K:Frag}(hK:X.K=K:=by rfl):OpR X (binaryOp .Mult) (Q9 K):=hK▸Zhh
end
end L2
namespace DL
open PySem PySem.Spec L2
section
variable{cA:Kn}{G:Cn}{ow owB owC:List Nat}
theorem ZcT{i:Addr->Prop}{H:Hp}(hi:∀a,i a->H a≠none)(hp:H p=none)(l:RepL cA i H xs vs):Rep cA i (upd H p (.lst vs)) (.lst xs) (.ref p):=by
 unfold Rep;exact⟨p,vs,rfl,λz=>(hi p z hp).elim,SqL.of Zi,l.same (Yu hp)⟩
def addX:D->D->Option D
 | .lst a,.lst b=>if a.length+b.length<=sizeLine then some (.lst (a++b))else none
 |x,y=>addD x y
theorem Zhi:Yv cA (VV cA.K) addX:=λt t' i H x y vx vy d hi hx hy e Q k=>by
 have old:addD x y=some d->VV cA.K vx vy H Q:=λe=>by
  rcases(Zjx (cA:=cA) t t' i H x y vx vy d hi hx hy e Q k)with h|h|h
  . exact .inl h
  . exact .inr (.inl h)
  . obtain⟨l,b,xs,zs,e1,e2,h1,h2,h3,h4⟩:=h
    exact .inr (.inr ⟨l,b,xs,zs,e1,e2,SqL.of h1,SqL.of h2,h3,h4⟩)
 cases x with
 |lst a=>
  cases y with
  |lst b=>
   dsimp only [addX]at e
   by_cases hz:a.length+b.length<=sizeLine
   . rw [je hz]at e
     cases e;obtain⟨a1,vs1,rfl,_,r1,l1⟩:=hx;obtain⟨a2,vs2,rfl,_,r2,l2⟩:=hy;exact .inr (.inr ⟨a1,a2,vs1,vs2,rfl,rfl,r1,r2,by rw [<-l1.length,<-l2.length];exact hz,λp hp=>k _ _ (Yu hp) (ZcT hi hp (l1.append l2))⟩)
   . rw [jg hz]at e;cases e
  |_=>exact old e
 |_=>exact old e
theorem RepL.rep{av:Addr->Prop}{H:Hp}{xs:List D}{vs:List V}(l:RepL cA av H xs vs):∀n:Nat,RepL cA av H (List.replicate n xs).flatten (List.replicate n vs).flatten
 |0 => .nil
 |n+1=>by
  rw [qy,qy,qS,qS];exact l.append (RepL.rep l n)
def mulX:D->D->Option D
 | .int i,.int j=>if CMulW i j then some (.int (i*j))else none
 | .str a,.int n=>if n<2 ^ 63 /\ -(2 ^ 63)<=n/\a.length*n.toNat<=sizeLine then some (.str (VP a n))else none
 | .lst a,.int n=>if n<2 ^ 63 /\ -(2 ^ 63)<=n/\a.length*n.toNat<=sizeLine then some (.lst (List.replicate n.toNat a).flatten)else none
 |_,_=>none
theorem Zhj:Yv cA (Q9 cA.K) mulX:=λt t' i H x y vx vy d hi hx hy e Q k=>by
 cases x<;>cases y<;>first|(cases e;done)|skip
 . cases(show vx=_ from hx);cases(show vy=_ from hy)
   rename_i a b;dsimp only [mulX]at e
   by_cases hz:CMulW a b
   . rw [je hz]at e
     cases e;exact .inl ⟨_,_,rfl,rfl,hz,k _ H 'q' rfl⟩
   . rw [jg hz]at e;cases e
 . cases(show vx=_ from hx);cases(show vy=_ from hy)
   rename_i a n;dsimp only [mulX]at e
   by_cases hz:n<2 ^ 63 /\ -(2 ^ 63)<=n/\a.length*n.toNat<=sizeLine
   . rw [je hz]at e
     cases e;exact .inr (.inl ⟨_,_,rfl,rfl,hz,k _ H 'q' rfl⟩)
   . rw [jg hz]at e;cases e
 . rename_i a n
   cases(show vy=_ from hy);dsimp only [mulX]at e
   by_cases hz:n<2 ^ 63 /\ -(2 ^ 63)<=n/\a.length*n.toNat<=sizeLine
   . rw [je hz]at e
     cases e;obtain⟨a1,vs1,rfl,_,r1,l1⟩:=hx;exact .inr (.inr ⟨a1,n,vs1,rfl,rfl,r1,hz.2.1,hz.1,by rw [<-l1.length];exact hz.2.2,λp hp=>k _ _ (Yu hp) (ZcT hi hp (l1.rep n.toNat))⟩)
   . rw [jg hz]at e;cases e
def YQ(i:Nat)(κ ε:Env->Option D)(δ:Env):Option Out:=match ε δ with
 |some d=>match Za i δ with
  |some (.lst xs)=>match κ δ with
   |some (.int k)=>match ixN xs.length k with
    |some j=>some (.nx (δ.set i (some (.lst (xs.set j d)))))
    |none=>none
   |_=>none
  |_=>none
 |none=>none
theorem Ja(i:Nat)(hi:ow.contains i=true)(h:VE G ow te .cl ε)(hk:VE G ow ti q κ):VS G ow ow owB owC (ZG te (Zmv (Zl i) ti rSetL)) (YQ i κ ε):=λH0 av A σ H δ E o e De k=>by
 unfold YQ at e;cases he:ε δ with
 |none=>rw [he]at e;cases e
 |some d=>
  rw [he]at e;dsimp only at e;cases hv:Za i δ with
  |none=>rw [hv]at e;cases e
  |some x=>
   rw [hv]at e;cases x<;>first|(cases e;done)|skip
   rename_i xs;dsimp only at e;cases hq:κ δ with
   |none=>rw [hq]at e;cases e
   |some y=>
    rw [hq]at e;cases y<;>first|(cases e;done)|skip
    rename_i n;dsimp only at e;cases hj:ixN xs.length n with
    |none=>rw [hj]at e;cases e
    |some j=>
     rw [hj]at e;cases e;have hi':i∈ow:=by simpa using hi
     cases hA:A i with
     |none=>exact absurd hA (E.dom' i hi')
     |some a=>
      refine h H0 av A σ H δ E d he _ λv H1 s1 r1 => ?_
      have E1:=E.mono s1;obtain⟨v0,h1,_,h3⟩:=E1.var i _ (Z9 hv);obtain⟨rfl,vs,q1,q2⟩:=h3 a hA;refine⟨_,h1,hk H0 av A σ H1 δ E1 _ hq _ λy H2 s2 r2 => ?_⟩;have ey:y = .int n:=r2.any;subst ey;have E2:=E1.mono s2;have q1':=s2 _ _ q1;refine⟨a,vs,n,j,rfl,rfl,q1',by rw [<-q2.length];exact hj,k A σ _ (E2.put hA (Z9 hv) (λb o hb e=>by rw [Zc hb];exact e) (by rw [Zi];exact λz=>by cases z) ⟨_,Zi,?_⟩)⟩
      have ex:∀b o,¬AV av A b->H2 b=some o->upd H2 a (.lst (vs.set j v)) b=some o:=λb o nb e=>by
       rw [Zc λz=>nb (.inr ⟨i,by rw [z];exact hA⟩)];exact e
      exact(((q2.same s2).set ((RepT.r r1).same s2) j)).ext ex
end
end DL
namespace L2
open PySem PySem.Spec PySem.W PyProof.Rows
theorem ZaB:∀(cs:List Nat)(its:List Value),its.length=cs.length->(∀(j:Nat)(v:Value),its[j]? = some v->∃(c:Nat) (u:Tok),cs[j]? = some c/\v=Value.str ⟨#[c]⟩ u)->Vals (cs.map λc=>S [c]) its
 | [],[],_,_ => .nil
 |c::cs,[],h,_=>by simp at h
 | [],v::its,h,_=>by simp at h
 |c::cs,v::its,h,k=>by
  refine .cons ?_ (ZaB cs its (by simpa using h) λj v hj=>by simpa using k (j+1) v (by simpa using hj));obtain⟨c',u,e1,e2⟩:=k 0 v rfl;cases e1;exact⟨u,e2⟩
def Ziw(K:Frag):List V->Hp->VK->Prop:=λxs H Q=>Zjp K xs H Q\/∃cs,xs=[S cs]/\cs.length<=sizeLine/\∀l,H l=none->Q (.ref l) (upd H l (.lst (cs.map λc=>S [c])))
theorem Zci{X:Cx}{K:Frag}(hc:X.calm=true:=by rfl)(hK:X.K=K:=by rfl):CallR X (.type "list") (Ziw K):=by
 subst hK;intro pins s σ H xs us Q I r h;rcases h with h|⟨cs,rfl,hz,q⟩
 . exact Zbm pins s σ H xs us Q I r h
 . obtain⟨u,rfl,rx⟩:=YF r
   obtain⟨t,rfl⟩:=rx;refine call_list_str (I.ok.hd hc) (tx cs) t (λh' tk acc' c' kp e hi => ?_) (by simpa using hz)
   have hv:Vals (cs.map λc=>S [c]) acc'.toList:=ZaB cs _ (by simpa using hi.1) λj v hj=>by
    obtain⟨c,u,e1,e2⟩:=hi.2 j v (by simpa using hj);exact⟨c,u,by simpa using e1,e2⟩
   exact⟨.ref s.heap.objs.size,_,I.laid (t':=tk) kp (jk _) (show ObjOk X.prog X.w _ h' _ (.lst _)from⟨by rw [ja];exact hz,acc'.toList,c',hv,e⟩),rfl,q _ (I.hok.fresh (jk _))⟩
end L2
namespace DL
open PySem PySem.Spec L2
def VW:List D->Option D
 | [.str cs]=>if cs.length<=sizeLine then some (.lst (cs.map λc => .str [c]))else none
 |ds=>Zis ds
section
variable{G:Cn}{ow:List Nat}
theorem ZaC:∀cs:List Nat,RepL cA av H (cs.map λc=>D.str [c]) (cs.map λc=>S [c])
 | [] => .nil
 |c::cs => .cons rfl (ZaC cs)
theorem ZeP{q:Ql}(hq:q = .cl\/q = .tp)(h:VA G ow t q α):VF G ow (tCB (Ziw G.1.K) t) (eCB VW α):=λH0 av A σ H δ E d e Q k=>by
 unfold eCB at e;cases he:α δ with
 |none=>rw [he]at e;cases e
 |some ds=>
  rw [he]at e;replace e:VW ds=some d:=e;unfold VW at e
  split at e
  . rename_i cs
    by_cases hz:cs.length<=sizeLine
    . rw [je hz]at e
      cases e;refine h H0 av A σ H δ E _ he _ λvs H1 s1 r1 => ?_
      have il:Xw G.1 (AV av A) H1 [.str cs] vs:=by
       rcases hq with rfl|rfl<;>exact r1.il
      obtain⟨v,t,rfl,hx⟩:=il1 il;cases(show v=_ from hx);exact .inr ⟨cs,rfl,hz,λp hp=>k p _ _ H1 s1 hp (ZaC cs) rfl⟩
    . rw [jg hz]at e;cases e
  . exact h H0 av A σ H δ E _ he _ fun vs H1 s1 r1 => by
     have il:Xw G.1 (AV av A) H1 ds vs:=by
      rcases hq with rfl|rfl<;>exact r1.il
     refine .inl ?_;unfold Zis at e
     split at e
     . rename_i xs
       cases e;obtain⟨v,t,rfl,a,ws,rfl,_,rd,l⟩:=il1 il;exact⟨a,ws,rfl,.inl rd,λp hp=>k p ws _ H1 s1 hp l rfl⟩
     . rename_i xs
       cases e;obtain⟨v,t,rfl,a,ws,rfl,_,rd,l⟩:=il1 il;exact⟨a,ws,rfl,.inr (SqT.of rd),λp hp=>k p ws _ H1 s1 hp l rfl⟩
     . cases e
end
def mat(rows:List (List D)):D := .lst (rows.map D.lst)
structure Mx(H:Hp)(a:Addr)(bs:List Addr)(rows:List (List D)):Prop where
 top:H a=some (.lst (bs.map V.ref))
 len:bs.length=rows.length
 nd:bs.Nodup
 na:a∉bs
 row:∀(k:Nat)(b:Addr)(r:List D),bs[k]? = some b->rows[k]? = some r->H b=some (.lst (r.map val))
 sc:∀r∈rows,r.all Zu=true
open Classical in
section
variable{cA:Kn}{G:Cn}{ow owN owB owC ow1:List Nat}{i:Nat}
def FW(H0:Hp)(De:Ends)(d:D):Prop:=∀a bs rows H',Same H0 H'->(∀x∈a::bs,H0 x=none)->Mx H' a bs rows->d=mat rows->De.rt (.ref a) H'
def Xx(φ ψ:Env->Option Out)(δ:Env):Option Out:=match φ δ with
 |some (.nx δ')=>ψ δ'
 |_=>none
def VX(N:Nat)(φ:Env->Option Out)(ds:List D):Option D:=match φ (ds.map some++List.replicate (N-ds.length) none)with
 |some (.rt d)=>some d
 |_=>none
end
def FL(cA:Kn)(H0:Hp)(av:Addr->Prop)(De:Ends)(d:D):Prop:=∀p vs xs H',Same H0 H'->H0 p=none->H' p=some (.lst vs)->RepL cA (λx=>av x\/x=p) H' xs vs->d = .lst xs->De.rt (.ref p) H'
def VSL(G:Cn)(ow:List Nat)(ts:TS)(φ:Env->Option Out):Prop:=∀H0 av A σ H δ,ER G ow H0 av A σ H δ->∀d,φ δ=some (.rt d)->∀De:Ends,FL G.1 H0 av De d->ts De σ H
section
variable{cA:Kn}{G:Cn}{ow owN owB owC ow1:List Nat}{i:Nat}
theorem ZcU(h1:VS G ow ow1 [] [] t φ)(h2:VSL G ow1 u ψ):VSL G ow (ZB t u) (Xx φ ψ):=λH0 av A σ H δ E d e De k=>by
 unfold Xx at e
 split at e
 . rename_i δ' hp
   exact h1 H0 av A σ H δ E _ hp _ λA' σ' H' E'=>h2 H0 av A' σ' H' δ' E' d e De k
 . cases e
theorem ZeQ(h:VF G ow te ε):VSL G ow (Xp te) (Zt ε):=λH0 av A σ H δ E d e De k=>by
 unfold Zt at e;cases he:ε δ with
 |none=>rw [he]at e;cases e
 |some d'=>
  rw [he]at e;cases e;refine h H0 av A σ H δ E _ he _ λp vs xs H1 s hp l hd => ?_
  refine k p vs xs _ ((E.same.trans s).trans (Yu hp)) (E.same.free (s.free hp)) Zi (((l.av λb z => ?_)).same (Yu hp)) hd;rcases z with z|z
  . exact .inl (.inl z)
  . rw [z];exact .inr hp
def spL(cA:Kn)(n:Nat)(m:List D->Option D):Sp:=λvs H Q _=>∃av ds d,(∀a,av a->H a≠none)/\RepL cA av H ds vs/\ds.length=n/\m ds=some d/\∀p vs xs H',Same H H'->H p=none->H' p=some (.lst vs)->RepL cA (λx=>av x\/x=p) H' xs vs->d = .lst xs->Q (.ref p) H'
open Classical in
theorem ZeR{n:Nat}{E0:XK}(dds:List D)(hd:dds.all Zu=true)(h:VA G ow t .cl α):VF G ow (Um (spL G.1 n m) (dds.map val) E0 t) (Zn n m dds α):=λH0 av A σ H δ E d e Q k=>by
 unfold Zn at e;cases he:α δ with
 |none=>rw [he]at e;cases e
 |some ds=>
  rw [he]at e;dsimp only at e
  by_cases hz:(ds++dds).length=n
  . rw [je hz]at e
    refine h H0 av A σ H δ E ds he _ λvs H1 s1 r1 => ?_
    have E1:=E.mono s1;refine⟨AV av A,ds++dds,d,E1.avl,r1.cl.append (.of_vals hd),hz,e,λp ws xs H' s hp hH' l hd => ?_⟩
    have eu:upd (λx=>if x=p then none else H' x) p (.lst ws)=H':=by
     funext x
     by_cases hx:x=p
     . subst hx;rw [Zi,hH']
     . rw [Zc hx,jg hx]
    have:=k p ws xs (λx=>if x=p then none else H' x) (λb o q => ?_) (je rfl) ((l.ext λb o n q => ?_).av λb z => .inl (.inl z)) hd
    . rw [eu]at this
      exact this
    . have hb:b≠p:=λz=>by rw [z]at q;rw [s1.free hp]at q;cases q
      show(if b=p then none else H' b)=some o;rw [jg hb];exact s b o (s1 b o q)
    . have hb:b≠p:=λz=>n (.inr z)
      show(if b=p then none else H' b)=some o;rw [jg hb];exact q
  . rw [jg hz]at e;cases e
end
section
variable{P:Program}{w:World}{K:Frag}{mg:Str->Option Value}{base:Heap}{cA:Kn}
theorem Zk4 {st:Stmt} {N ps:List Str} {k:Nat} {body:List Stmt} {scope:Scope} {n:Nat} {m:List D->Option D} (F:FunX K x qual st f fd) (S:FnScope N ps (defScope st)) (hS:defScope st=scope) (hB:defBody st=body)
 (hbody:∀(cdv:Value)(A:Around)(outer:List PySem.Env)(s:Shared)(H:Hp)(E:XK),Room k (A.deeper (PyProof.Rows.envOfC qual scope s.heap.objs.size f cdv)) ->
   ∃t,PSs (Yd CX0 P w K mg base N qual scope f cdv A outer s H E).nox body t/\VSL ⟨cA,λ_=>none⟩ [] t φ) (hm:m=VX N.length φ) (hn:ps.length=n):FnOk P w K mg base CX0 (k+1) f fd ps (spL cA n m):=by
 subst hS hB hm hn;refine F.ok S (λvs H Q E h => ?_) λcdv A outer s H vs Q E hr h => ?_
 . obtain⟨av,ds,d,_,r,hl,_⟩:=h
   rw [<-r.length,hl]
 . obtain⟨av,ds,d,ha,r,hl,hm,q⟩:=h
   obtain⟨t,ht,hv⟩:=hbody cdv A outer s H E hr;refine⟨t,ht,?_⟩;unfold VX at hm
   split at hm
   . rename_i d' hφ
     cases hm;exact hv H av _ _ H _ (Q2 ha r) _ hφ _ λp vs xs H' s' h0 hp l hd=>q p vs xs H' s' h0 hp l hd
   . cases hm
end
end DL
namespace L2
open PySem PySem.Spec PySem.W PyProof.Rows
theorem Zk5 {X:Cx} {K:Frag} {apos cpos:Pos} {T id:String} {r:V->List V->Hp->VK->Prop} (pa:PlainAttrs T) (slot:Slot T name id) (hty:typeOf (.builtin id)=pure (.type "method_descriptor")) (hm:MtR X id r) (ho:PE X o to)
 (hbase:attributeBase o name X.env (eval o X.env)=eval o X.env:=by rfl) (hline:(apos.endLine == cpos.line)=true:=by rfl) (hK:X.K=K:=by rfl):PE X (.Call (.Attribute o name apos) [] [] cpos) (QO K T r to):=hK▸Zjk pa slot hty hm ho hbase hline
end L2
namespace DL
open PySem PySem.Spec L2
def Jb:D->Option Key
 | .int i=>some (.inl i)
 | .str cs=>some (.inr (tx cs))
 |_=>none
theorem ZdY{k:Key}(h:Jb d=some k):val d=kV k/\Zu d=true:=by
 cases d<;>first|(cases h;done)|(cases h;exact⟨rfl,rfl⟩)
end DL
namespace L2
open PySem
theorem VY{X:Cx}(h:X.A.units+64<cLine):X.A.units+1<cLine:=by omega
end L2
namespace DL
open PySem PySem.Spec L2
section
variable{G:Cn}{ow owN owB owC ow1:List Nat}
def Vj(i:Nat)(ε:Env->Option D)(δ:Env):Option Out:=match Za i δ,ε δ with
 |some (.lst xs),some (.lst ys)=>if xs.length+ys.length<=sizeLine then some (.nx (δ.set i (some (.lst (xs++ys)))))else none
 |_,_=>none
end
end DL




namespace L2
open PySem PySem.Spec PyProof.Rows
section
variable{X:Cx}
theorem Jc:∀{xs:List V}{us:List Value},Vals xs us->xs.all YA=true->∀(k:Nat)(u:Value)(y:V),us[k]? = some u->xs[k]? = some y->eqU x u=eqV y x
 |_,_,.nil,_=>λk u y h=>by cases k<;>cases h
 |y::xs,u::us,.cons r t,f=>λk u' y' h1 h2=>by
  rw [yI,jV]at f;cases k with
  |zero=>cases h1;cases h2;exact QM r f.1
  |succ k=>exact Jc t f.2 k u' y' h1 h2
theorem ZeS{xs:List V}{us:List Value}(h:Vals xs us):xs.length=us.length:=by
 induction h with
 |nil=>rfl
 |cons _ _ ih=>rw [jx,jx,ih]
def ZcV(K:Frag):V->List V->Hp->VK->Prop:=λx vs H Q=>∃p xs y j z,x = .ref p/\vs=[y]/\SqL K H p xs/\YA y=true/\xs.all YA=true/\xs[j]? = some z/\eqV z y=true/\(∀m w,m<j->xs[m]? = some w->eqV w y=false)/\Q (.int (j:Nat)) H
theorem ZdZ{K:Frag}(hK:X.K=K:=by rfl):MtR X "list.index" (ZcV K):=by
 subst hK;intro pins s σ H x xs v us Q I rx rs h;obtain⟨p,zs,y,j,z,rfl,rfl,hq,fy,fs,hj,he,hno,q⟩:=h;cases rx;obtain⟨u,rfl,ru⟩:=YF rs;obtain⟨its,r,pl,hz⟩:=I.list hq;have hs:sizeLine=16777216:=j7;have hl:=ZeS r;have hjl:j<zs.length:=(jt.mp hj).1;obtain⟨⟨cls,dd,data,sl⟩,ho,hc,n,hd⟩:=id pl.isList;simp only at hc hd;subst hc hd
 have hji:j<its.toArray.size:=by rw [jM];omega
 refine call_meets PySem.F.slot_list_index ⟨_,ho,rfl⟩ PySem.F.entry_list_index (PySem.F.args_list_index_2 _ _) (SeqAt.list_indexAt p its.toArray n dd sl u (eqU y) j hji 'a' ?_ ?_) ⟨ho,λw hw=>Up ru fy r fs w (by simpa using hw),?_⟩
 . rw [Jc r fs j _ z 'c' hj]
   exact he
 . intro m hm hmj
   have hm2:m<zs.length:=by omega
   rw [Jc r fs m _ zs[m] 'c' (jd hm2)];exact hno m _ hmj (jd hm2)
 . exact⟨.int _,H,I.tok _,⟨_,rfl⟩,q⟩
end
end L2
namespace DL
open PySem PySem.Spec L2
section
variable{cA:Kn}{G:Cn}{ow owN owB owC ow1:List Nat}{i:Nat}
def Jd(K:Frag)(r:V->List V->Hp->VK->Prop)(f:List D->D->Option D):Prop:=
 ∀(H:Hp)(a:Addr)(xs:List D)(y d:D),xs.all Zu=true->Zu y=true->SqL K H a (xs.map val)->f xs y=some d->Zu d=true/\∀Q:VK,Q (val d) H->r (.ref a) [val y] H Q
def eLM(f:List D->D->Option D)(a b:Env->Option D)(δ:Env):Option D:=match a δ with
 |some (.lst xs)=>match b δ with
  |some y=>if xs.all Zu&&Zu y then f xs y else none
  |none=>none
 |_=>none
theorem Zk6{K:Frag}{r:V->List V->Hp->VK->Prop}{f:List D->D->Option D}(hr:Jd K r f)(ha:VE G ow to q0 a)(hb:VE G ow tb q b)(hK:G.1.K=K:=by rfl) :
 VE G ow (tBM K "list" r to (Zy tb tNil)) .cl (eLM f a b):=λH0 av A σ H δ E d e Q k=>by
 subst hK;unfold eLM at e;cases hx:a δ with
 |none=>rw [hx]at e;cases e
 |some x=>
  rw [hx]at e;cases x<;>first|(cases e;done)|skip
  rename_i xs;dsimp only at e;cases hy:b δ with
  |none=>rw [hy]at e;cases e
  |some y=>
   rw [hy]at e;dsimp only at e
   by_cases hz:(xs.all Zu&&Zu y)=true
   . rw [je hz]at e
     rw [jV]at hz;refine ha H0 av A σ H δ E _ hx _ λv H1 s1 r1 => ?_
     obtain⟨p,vs,rfl,_,hq,l⟩:=r1.any;have ev:=l.vals hz.1;subst ev;refine⟨.inl ⟨rfl,_,hq⟩,?_⟩;refine hb H0 av A σ H1 δ (E.mono s1) y hy _ λv2 H2 s2 r2 => ?_
     have e2:v2=val y:=r2.any.val hz.2;subst e2;have hq2:SqL G.1.K H2 p (xs.map val):=hq.elim (λz => .inl (Rd.ext z (s2 p))) .inr;obtain⟨hsd,hh⟩:=hr H2 p xs y d hz.1 hz.2 hq2 e;exact hh _ (k _ H2 (s1.trans s2) (Rep.of_val hsd).t)
   . rw [jg hz]at e;cases e
def lindexD(xs:List D)(y:D):Option D:=match(xs.map val).findIdx? λz=>eqV z (val y)with
 |some j=>some (.int (j:Nat))
 |none=>none
theorem ZeT{K:Frag}:Jd K (ZcV K) lindexD:=λH a xs y d hx hy hq e=>by
 unfold lindexD at e;cases hj:(xs.map val).findIdx? λz=>eqV z (val y)with
 |none=>rw [hj]at e;cases e
 |some j=>
  rw [hj]at e;cases e;obtain⟨h1,h2,h3⟩:=List.findIdx?_eq_some_iff_getElem.mp hj;refine⟨rfl,λQ q=>⟨a,_,_,j,_,rfl,rfl,hq,Uy hy,Uz hx,jd h1,h2,λm w hm hw => ?_,q⟩⟩;have hml:m<(xs.map val).length:=by omega
  have:=h3 m hm;rw [jd hml]at hw;cases hw;simpa using this
mutual
def frz:D->Bool
 | .non=>true
 | .bl _=>true
 | .int _=>true
 | .str _=>true
 | .lst _=>false
 | .tup xs=>frzL xs
 | .obj _ _ xs=>frzL xs
 | .dct _ _=>false
 | .dtt _ _=>false
 | .dnn _=>false
def frzL:List D->Bool
 | []=>true
 |x::xs=>frz x&&frzL xs
end
mutual
theorem Rep.frz{av av':Addr->Prop}{H:Hp}:∀{d:D}{v:V},frz d=true->(∀b,av' b->av b\/∃vs,H b=some (.lst vs))->Rep cA av H d v->Rep cA av' H d v
 | .non,_,_,_,h=>h
 | .bl _,_,_,_,h=>h
 | .int _,_,_,_,h=>h
 | .str _,_,_,_,h=>h
 | .lst xs,v,hf,k,h=>by cases hf
 | .tup xs,v,hf,k,h=>by
  unfold DL.frz at hf;unfold Rep at h ⊢;obtain⟨a,vs,e,n,r,l⟩:=h;exact⟨a,vs,e,λz=>(k a z).elim n (by rw [r];exact λ⟨_,z⟩=>by cases z),r,RepL.frz hf k l⟩
 | .obj c ks xs,v,hf,k,h=>by
  unfold DL.frz at hf;unfold Rep at h ⊢;obtain⟨a,dx,vs,e,n,r,z,l⟩:=h;exact⟨a,dx,vs,e,λz=>(k a z).elim n (by rw [r];exact λ⟨_,z⟩=>by cases z),r,z,RepL.frz hf k l⟩
 | .dct ks xs,v,hf,k,h=>by cases hf
 | .dtt ks xs,v,hf,k,h=>by cases hf
 | .dnn xs,v,hf,k,h=>by cases hf
theorem RepL.frz{av av':Addr->Prop}{H:Hp}:∀{xs:List D}{vs:List V},frzL xs=true->(∀b,av' b->av b\/∃vs,H b=some (.lst vs))->RepL cA av H xs vs->RepL cA av' H xs vs
 | [],_,_,_,h=>h
 |x::xs,vs,hf,k,h=>by
  unfold DL.frzL at hf;rw [jV]at hf;unfold RepL at h ⊢;obtain⟨v,r,e,h1,h2⟩:=h;exact⟨v,r,e,Rep.frz hf.1 k h1,RepL.frz hf.2 k h2⟩
end
end
end DL
namespace PySem
open Sem (wp)
section
variable{prog:Program}{w:World}{A:Around}{E:Value->Shared->Prop}{s:Shared}
theorem Zan {i:Nat} {xs:Array Value} {x:Value} {Q:Value->Shared->Prop} (hj:s.heap.IsTupleIter j t i) (ht:s.heap.IsTuple t xs) (hx:xs[i]? = some x)
 (hQ:∀h',h'.IsTupleIter j t (i+1)->Heap.SameBut j s.heap h'->Q x { s with heap:=h' }):wpAny 'h' A (Builtin.SmallTypes.nextOf (.ref j)) Q E s:=by
 obtain⟨oj,gj,cj,dj⟩:=id hj;obtain⟨ot,gt,_,nt,dt⟩:=ht;unfold Builtin.SmallTypes.nextOf;refine jb (j3 (name:=Str.ofString "__next__") hj.typeIs yJ (qc yJ hj.typeIs F.entry_tuple_iterator_next ?_ (F.args_tuple_iterator_next_1 _)));show wpAny _ _ (field (.ref j) 0 >>= _) _ _ s;refine jb (qx gj dj (x:=.ref t) rfl ?_)
 show wpAny _ _ (if(Value.ref t == Value.none)=true then _ else _) _ _ _;rw [jg (show ¬(Value.ref t == Value.none)=true from λz=>jy z)];show wpAny _ _ (field (.ref j) 1 >>= _) _ _ s;refine jb (qx gj dj (x:=.int i 0) rfl ?_);show wpAny _ _ (seqItems? (.ref t) >>= _) _ _ _;refine jb (ye gt dt ?_);simp only [j0,hx];refine jb (yG gj dj 'c' (jf ⟨x,rfl,jf (hQ _ ?_ (j9 ..))⟩))
 refine⟨_,yh _ gj (Obj.isFreed_of_fields (yw dj _)),(Obj.cls_mapFields ..).trans cj,?_⟩;rw [yw dj];simp [rawInt]
theorem Je {i:Nat} {xs:Array Value} {Q:Value->Shared->Prop} (hh:A.handled=none) (hj:s.heap.IsTupleIter j t i) (ht:s.heap.IsTuple t xs) (hx:xs[i]? = none)
 (hE:∀h' e,Heap.ExtBut j s.heap h'->(∃o,h'.get? e=some o/\o.cls = .type "StopIteration")->E (.ref e) { s with heap:=h' }):wpAny 'h' A (Builtin.SmallTypes.nextOf (.ref j)) Q E s:=by
 obtain⟨oj,gj,cj,dj⟩:=id hj;obtain⟨ot,gt,_,nt,dt⟩:=ht;unfold Builtin.SmallTypes.nextOf;refine jb (j3 (name:=Str.ofString "__next__") hj.typeIs yJ (qc yJ hj.typeIs F.entry_tuple_iterator_next ?_ (F.args_tuple_iterator_next_1 _)));show wpAny _ _ (field (.ref j) 0 >>= _) _ _ s;refine jb (qx gj dj (x:=.ref t) rfl ?_)
 show wpAny _ _ (if(Value.ref t == Value.none)=true then _ else _) _ _ _;rw [jg (show ¬(Value.ref t == Value.none)=true from λz=>jy z)];show wpAny _ _ (field (.ref j) 1 >>= _) _ _ s;refine jb (qx gj dj (x:=.int i 0) rfl ?_);show wpAny _ _ (seqItems? (.ref t) >>= _) _ _ _;refine jb (ye gt dt ?_);simp only [j0,hx];refine jb (ux (jb (yG gj dj 'c' ?_)))
 show wpAny _ _ (newExc (.type "StopIteration") List.nil >>= _) _ _ _;refine jb ?_;simp only [newExc,newTuple];refine jb (j4 (jb (m:=firstArgMember _ _) (wpAny_of_eq (a:=Value.none) (by first|rfl|(simp only [firstArgMember];rfl)) (j4 ?_ (by size_fits)))) (by size_fits));simp only [raiseNew];refine jb (wpAny_handled ?_)
 first|rw [show A.in1.handled=none from hh]|rw [hh]
 exact jb (jf (wpAny_throw (hE _ _ (((j9 ..).extBut.push _).push _) ⟨_,jr _ rfl,rfl⟩)))
end
def IsQI(k:Bool)(h:Heap)(a l:Addr)(i:Nat):Prop:=match k with
 |true=>h.IsTupleIter a l i
 |false=>h.IsListIter a l i
def IsQ(k:Bool)(h:Heap)(l:Addr)(xs:Array Value):Prop:=match k with
 |true=>h.IsTuple l xs
 |false=>h.IsList l xs
theorem IsQI.get{k:Bool}{h:Heap}{a l:Addr}{i:Nat}(x:IsQI k h a l i):∃o,h.get? a=some o/\o.data = .fields #[.ref l,.int i 0]:=by
 cases k with
 |true=>obtain⟨o,e,_,d⟩:=x;exact⟨o,e,d⟩
 |false=>obtain⟨o,e,_,d⟩:=x;exact⟨o,e,d⟩
theorem IsQI.at{k:Bool}{h h':Heap}{a l:Addr}{i:Nat}(x:IsQI k h a l i)(f:∀o,h.get? a=some o->h'.get? a=some o):IsQI k h' a l i:=by
 cases k with
 |true=>obtain⟨o,e,r⟩:=x;exact⟨o,f o e,r⟩
 |false=>obtain⟨o,e,r⟩:=x;exact⟨o,f o e,r⟩
theorem IsQI.ext{k:Bool}{h h':Heap}{a b l:Addr}{i:Nat}(x:IsQI k h a l i)(hs:Heap.ExtBut b h h')(n:a≠b):IsQI k h' a l i:=x.at λo e=>hs a o n e
theorem IsQ.at{k:Bool}{h h':Heap}{l:Addr}{xs:Array Value}(x:IsQ k h l xs)(f:∀o,h.get? l=some o->h'.get? l=some o):IsQ k h' l xs:=by
 cases k with
 |true=>obtain⟨o,e,r⟩:=x;exact⟨o,f o e,r⟩
 |false=>obtain⟨o,e,r⟩:=x;exact⟨o,f o e,r⟩
theorem IsQ.ext{k:Bool}{h h':Heap}{b l:Addr}{xs:Array Value}(x:IsQ k h l xs)(hs:Heap.ExtBut b h h')(n:l≠b):IsQ k h' l xs:=x.at λo e=>hs l o n e
theorem IsQ.lt{k:Bool}{h:Heap}{l:Addr}{xs:Array Value}(x:IsQ k h l xs):l<h.objs.size:=by
 cases k with
 |true=>obtain⟨o,e,_⟩:=x;exact jz e
 |false=>obtain⟨o,e,_⟩:=x;exact jz e
section
variable{prog:Program}{w:World}{A:Around}{E:Value->Shared->Prop}{s:Shared}
theorem Jf {k:Bool} {i:Nat} {xs:Array Value} {x:Value} {Q:Value->Shared->Prop} (hj:IsQI k s.heap j t i) (ht:IsQ k s.heap t xs) (hx:xs[i]? = some x)
 (hQ:∀h',IsQI k h' j t (i+1)->Heap.SameBut j s.heap h'->Q x { s with heap:=h' }):wpAny 'h' A (Builtin.SmallTypes.nextOf (.ref j)) Q E s:=by
 cases k with
 |true=>exact Zan hj ht hx hQ
 |false=>exact wpAny_nextOf_list_item hj ht hx hQ
theorem Za4 {k:Bool} {i:Nat} {xs:Array Value} {Q:Value->Shared->Prop} (hh:A.handled=none) (hj:IsQI k s.heap j t i) (ht:IsQ k s.heap t xs) (hx:xs[i]? = none)
 (hE:∀h' e,Heap.ExtBut j s.heap h'->(∃o,h'.get? e=some o/\o.cls = .type "StopIteration")->E (.ref e) { s with heap:=h' }):wpAny 'h' A (Builtin.SmallTypes.nextOf (.ref j)) Q E s:=by
 cases k with
 |true=>exact Je hh hj ht hx hE
 |false=>exact wpAny_nextOf_list_end hh hj ht hx hE
theorem Zd0 {p q:Bool} {z TI TO i1 i2 l1 l2:Addr} {k1 k2:Nat} {xs ys:Array Value} {x y a b:Value} {Q:Value->Shared->Prop} (D:ZipApart z TI TO i1 i2 l1 l2)
 (gz:IsZip s.heap z TI TO .none) (gI:IsPair s.heap TI (.ref i1) (.ref i2)) (gO:IsPair s.heap TO a b) (u1:IsQI p s.heap i1 l1 k1) (u2:IsQI q s.heap i2 l2 k2) (m1:IsQ p s.heap l1 xs) (m2:IsQ q s.heap l2 ys) (hx:xs[k1]? = some x) (hy:ys[k2]? = some y)
 (hQ:∀h',IsZip h' z TI TO (rawInt s.heap.objs.size)->IsPair h' TO x y->IsQI p h' i1 l1 (k1+1)->IsQI q h' i2 l2 (k2+1)->IsPair h' s.heap.objs.size x y->h'.objs.size=s.heap.objs.size+1->(∀c o,c≠z->c≠TO->c≠i1->c≠i2->s.heap.get? c=some o->h'.get? c=some o)->Q (.ref s.heap.objs.size) { s with heap:=h' }) :
 wpAny 'h' A (Builtin.«zip.__next__» ⟨[.ref z],[]⟩) (λfin s'=>∃v,fin = .done (.ret v)/\Q v s') E s:=by
 show wpAny _ _ (field (.ref z) 2 >>= λ_=>_) _ _ _;refine jb (qx gz rfl (x:=.bool false) rfl ?_);show wpAny _ _ (field (.ref z) 3 >>= λ_=>_) _ _ _;refine jb (qx gz rfl (x:=.ref TI) rfl (jb (ye gI rfl ?_)));show wpAny _ _ (Builtin.SmallTypes.ownedTupleIsFree (.ref z) >>= λ_=>_) _ _ _;unfold Builtin.SmallTypes.ownedTupleIsFree;refine jb (jb (qx gz rfl (x:=.none) rfl (jf ?_)))
 simp only [if_true];refine jb (ux (jb (qx gz rfl (x:=.ref TO) rfl (jb (qm gz 'c' λh₁ gz₁ s₁ => ?_)))));have gz₁:IsZip h₁ z TI TO .ellipsis:=gz₁;refine jb ?_;simp only [List.zipIdx_cons,List.forIn_cons,List.zipIdx_nil,List.forIn_nil];refine jb (jb (uK (jb (m:=Builtin.SmallTypes.nextOf (.ref i1)) (Jf (u1.ext s₁.extBut D.i1z) (m1.ext s₁.extBut D.l1z) hx λh₂ u1₂ s₂=>jf ?_))))
 have gO₂:IsPair h₂ TO a b:=s₂.extBut _ _ D.TOi1 (s₁.extBut _ _ D.TOz gO);refine jb (ye gO₂ rfl (jb (wpAny_updateSeq_pair gO₂ λh₃ gO₃ s₃ => ?_)));have gO₃:IsPair h₃ TO x b:=gO₃;refine jb (wpAny_letGo (jf ?_));refine jb (jb (uK (jb (m:=Builtin.SmallTypes.nextOf (.ref i2)) (Jf (((u2.ext s₁.extBut D.i2z).ext s₂.extBut D.i12.symm).ext s₃.extBut D.TOi2.symm) (((m2.ext s₁.extBut D.l2z).ext s₂.extBut D.l2i1).ext s₃.extBut D.l2TO) hy λh₄ u2₄ s₄=>jf ?_))))
 have gO₄:IsPair h₄ TO x b:=s₄.extBut _ _ D.TOi2 gO₃;refine jb (ye gO₄ rfl (jb (wpAny_updateSeq_pair gO₄ λh₅ gO₅ s₅ => ?_)));have gO₅:IsPair h₅ TO x y:=gO₅;refine jb (wpAny_letGo (jf (jf (jb (ye gO₅ rfl (jb (wpAny_newTuple ?_)))))));have ez:h₅.objs.size=s.heap.objs.size:=by rw [s₅.1,s₄.1,s₃.1,s₂.1,s₁.1]
 have gz₅:IsZip h₅ z TI TO .ellipsis:=s₅.extBut _ _ D.TOz.symm (s₄.extBut _ _ D.i2z.symm (s₃.extBut _ _ D.TOz.symm (s₂.extBut _ _ D.i1z.symm gz₁)));have kp:∀c o,c≠z->c≠TO->c≠i1->c≠i2->s.heap.get? c=some o->h₅.get? c=some o:=λc o c1 c2 c3 c4 e=>s₅.extBut _ _ c2 (s₄.extBut _ _ c4 (s₃.extBut _ _ c2 (s₂.extBut _ _ c3 (s₁.extBut _ _ c1 e))))
 have u1₅:IsQI p h₅ i1 l1 (k1+1):=((u1₂.ext s₃.extBut D.TOi1.symm).ext s₄.extBut D.i12).ext s₅.extBut D.TOi1.symm;have u2₅:IsQI q h₅ i2 l2 (k2+1):=u2₄.ext s₅.extBut D.TOi2.symm;have lz:z<h₅.objs.size:=jz gz₅;show wpAny _ _ (Builtin.SmallTypes.ownedTupleHandOut (.ref z) (.ref h₅.objs.size) >>= λ_=>_) _ _ _;unfold Builtin.SmallTypes.ownedTupleHandOut;have gz₆:IsZip (h₅.push { cls := .type "tuple",data := .seq #[x,y] }) z TI TO .ellipsis:=jh _ gz₅
 refine jb (jb (qm gz₆ 'c' λh₇ gz₇ s₇ => ?_));have gz₇:IsZip h₇ z TI TO (rawInt h₅.objs.size):=gz₇;refine qm gz₇ 'c' λh₈ gz₈ s₈ => ?_
 have gz₈:IsZip h₈ z TI TO (rawInt h₅.objs.size):=gz₈;have up:∀c o,c≠z->h₅.get? c=some o->h₈.get? c=some o:=λc o c1 e=>s₈.extBut _ _ c1 (s₇.extBut _ _ c1 (jh _ e))
 have gT:IsPair h₈ h₅.objs.size x y:=s₈.extBut _ _ (yf lz) (s₇.extBut _ _ (yf lz) (jr _ rfl));have e8:h₈.objs.size=h₅.objs.size+1:=by rw [s₈.1,s₇.1,yg]
 rw [ez]at gz₈ gT e8;refine jf ⟨_,rfl,?_⟩;rw [ez];exact hQ h₈ gz₈ (up _ _ D.TOz gO₅) (u1₅.at λo e=>up _ o D.i1z e) (u2₅.at λo e=>up _ o D.i2z e) gT e8 λc o c1 c2 c3 c4 e=>up c o c1 (kp c o c1 c2 c3 c4 e)
theorem ZeU {p q:Bool} {z TI TO i1 i2 l1 l2:Addr} {k1 k2:Nat} {xs ys:Array Value} {Q:Fin->Shared->Prop} (hh:A.handled=none) (D:ZipApart z TI TO i1 i2 l1 l2)
 (gz:IsZip s.heap z TI TO .none) (gI:IsPair s.heap TI (.ref i1) (.ref i2)) (gO:IsPair s.heap TO a b) (u1:IsQI p s.heap i1 l1 k1) (u2:IsQI q s.heap i2 l2 k2) (m1:IsQ p s.heap l1 xs) (m2:IsQ q s.heap l2 ys) (hend:xs[k1]? = none\/ys[k2]? = none)
 (hE:∀h' e,(∀c o,c≠z->c≠TO->c≠i1->c≠i2->s.heap.get? c=some o->h'.get? c=some o)->(∃o,h'.get? e=some o/\o.cls = .type "StopIteration")->E (.ref e) { s with heap:=h' }) :
 wpAny 'h' A (Builtin.«zip.__next__» ⟨[.ref z],[]⟩) Q E s:=by
 show wpAny _ _ (field (.ref z) 2 >>= λ_=>_) _ _ _;refine jb (qx gz rfl (x:=.bool false) rfl ?_);show wpAny _ _ (field (.ref z) 3 >>= λ_=>_) _ _ _;refine jb (qx gz rfl (x:=.ref TI) rfl (jb (ye gI rfl ?_)));show wpAny _ _ (Builtin.SmallTypes.ownedTupleIsFree (.ref z) >>= λ_=>_) _ _ _;unfold Builtin.SmallTypes.ownedTupleIsFree;refine jb (jb (qx gz rfl (x:=.none) rfl (jf ?_)))
 simp only [if_true];refine jb (ux (jb (qx gz rfl (x:=.ref TO) rfl (jb (qm gz 'c' λh₁ gz₁ s₁ => ?_)))));have gz₁:IsZip h₁ z TI TO .ellipsis:=gz₁;refine jb ?_;simp only [List.zipIdx_cons,List.forIn_cons,List.zipIdx_nil,List.forIn_nil];cases hx:xs[k1]? with
 |none=>
  refine jb (jb (uK (jb (m:=Builtin.SmallTypes.nextOf (.ref i1)) (Za4 hh (u1.ext s₁.extBut D.i1z) (m1.ext s₁.extBut D.l1z) hx λh₂ e s₂ he => ?_))));obtain⟨oe,ge,ce⟩:=he;have gz₂:IsZip h₂ z TI TO .ellipsis:=s₂ _ _ D.i1z.symm gz₁;have nez:e≠z:=λv=>by rw [v,gz₂]at ge;cases ge;simp at ce
  exact qm gz₂ 'c' λh₃ _ s₃=>hE h₃ e (λc o c1 _ c3 _ v=>s₃.extBut _ _ c1 (s₂ _ _ c3 (s₁.extBut _ _ c1 v))) ⟨oe,s₃.extBut _ _ nez ge,ce⟩
 |some x=>
  have hy:ys[k2]? = none:=hend.resolve_left (by rw [hx];exact λv=>by cases v);refine jb (jb (uK (jb (m:=Builtin.SmallTypes.nextOf (.ref i1)) (Jf (u1.ext s₁.extBut D.i1z) (m1.ext s₁.extBut D.l1z) hx λh₂ u1₂ s₂=>jf ?_))));have gO₂:IsPair h₂ TO a b:=s₂.extBut _ _ D.TOi1 (s₁.extBut _ _ D.TOz gO);refine jb (ye gO₂ rfl (jb (wpAny_updateSeq_pair gO₂ λh₃ gO₃ s₃=>jb (wpAny_letGo (jf ?_)))))
  refine jb (jb (uK (jb (m:=Builtin.SmallTypes.nextOf (.ref i2)) (Za4 hh (((u2.ext s₁.extBut D.i2z).ext s₂.extBut D.i12.symm).ext s₃.extBut D.TOi2.symm) (((m2.ext s₁.extBut D.l2z).ext s₂.extBut D.l2i1).ext s₃.extBut D.l2TO) hy λh₄ e s₄ he => ?_))));obtain⟨oe,ge,ce⟩:=he;have gz₄:IsZip h₄ z TI TO .ellipsis:=s₄ _ _ D.i2z.symm (s₃.extBut _ _ D.TOz.symm (s₂.extBut _ _ D.i1z.symm gz₁))
  have nez:e≠z:=λv=>by rw [v,gz₄]at ge;cases ge;simp at ce
  exact qm gz₄ 'c' λh₅ _ s₅=>hE h₅ e (λc o c1 c2 c3 c4 v=>s₅.extBut _ _ c1 (s₄ _ _ c4 (s₃.extBut _ _ c2 (s₂.extBut _ _ c3 (s₁.extBut _ _ c1 v))))) ⟨oe,s₅.extBut _ _ nez ge,ce⟩
theorem Zbo {p q:Bool} {z TI TO i1 i2 l1 l2:Addr} {k1 k2:Nat} {xs ys:Array Value} {x y a b:Value} {Q:Option Value->Shared->Prop} (D:ZipApart z TI TO i1 i2 l1 l2)
 (gz:IsZip s.heap z TI TO .none) (gI:IsPair s.heap TI (.ref i1) (.ref i2)) (gO:IsPair s.heap TO a b) (u1:IsQI p s.heap i1 l1 k1) (u2:IsQI q s.heap i2 l2 k2) (m1:IsQ p s.heap l1 xs) (m2:IsQ q s.heap l2 ys) (hx:xs[k1]? = some x) (hy:ys[k2]? = some y)
 (hQ:∀h',IsZip h' z TI TO (rawInt s.heap.objs.size)->IsPair h' TO x y->IsQI p h' i1 l1 (k1+1)->IsQI q h' i2 l2 (k2+1)->IsPair h' s.heap.objs.size x y->h'.objs.size=s.heap.objs.size+1->(∀c o,c≠z->c≠TO->c≠i1->c≠i2->s.heap.get? c=some o->h'.get? c=some o)->Q (some (.ref s.heap.objs.size)) { s with heap:=h' }) :
 wpAny 'h' A (pyNext (.ref z)) Q E s:=by
 have tz:s.TypeIs (.ref z) "zip" := ⟨_,gz,rfl⟩
 unfold pyNext;exact jb (yA (j3 (name:=Str.ofString "__next__") tz F.slot_zip_next (qc F.slot_zip_next tz F.entry_zip_next (Zd0 D gz gI gO u1 u2 m1 m2 hx hy λh' a1 a2 a3 a4 a5 a6 a7=>jf (hQ h' a1 a2 a3 a4 a5 a6 a7)) (F.args_zip_next_1 _))))
theorem Zbt {p q:Bool} {z TI TO i1 i2 l1 l2:Addr} {k1 k2:Nat} {xs ys:Array Value} {Q:Option Value->Shared->Prop} (hh:A.handled=none) (D:ZipApart z TI TO i1 i2 l1 l2)
 (gz:IsZip s.heap z TI TO .none) (gI:IsPair s.heap TI (.ref i1) (.ref i2)) (gO:IsPair s.heap TO a b) (u1:IsQI p s.heap i1 l1 k1) (u2:IsQI q s.heap i2 l2 k2) (m1:IsQ p s.heap l1 xs) (m2:IsQ q s.heap l2 ys) (hend:xs[k1]? = none\/ys[k2]? = none)
 (hQ:∀h',(∀c o,c≠z->c≠TO->c≠i1->c≠i2->s.heap.get? c=some o->h'.get? c=some o)->Q none { s with heap:=h' }):wpAny 'h' A (pyNext (.ref z)) Q E s:=by
 have tz:s.TypeIs (.ref z) "zip" := ⟨_,gz,rfl⟩
 unfold pyNext;refine jb (yA (j3 (name:=Str.ofString "__next__") tz F.slot_zip_next (qc F.slot_zip_next tz F.entry_zip_next (ZeU hh D gz gI gO u1 u2 m1 m2 hend λh' e hk he => ?_) (F.args_zip_next_1 _))));obtain⟨o,go,co⟩:=he;exact jb (yL (T:="StopIteration") (b:=true) ⟨o,go,co⟩ isSubtype_stop (jf (hQ _ hk)))
end
abbrev itO(k:Bool)(l:Addr):Obj:={ cls := .type (if k then "tuple_iterator" else "list_iterator"),data := .fields #[.ref l,.int 0 0] }
abbrev zq2(p q:Bool)(h:Heap)(l1 l2:Addr):Heap:=(h.push (itO p l1)).push (itO q l2)
abbrev zq3(p q:Bool)(h:Heap)(l1 l2:Addr):Heap:=(zq2 p q h l1 l2).push { cls := .type "tuple",data := .seq #[.ref h.objs.size,.ref (h.push (itO p l1)).objs.size] }
abbrev zq4(p q:Bool)(h:Heap)(l1 l2:Addr):Heap:=(zq3 p q h l1 l2).push { cls := .type "tuple",data := .seq #[.none,.none] }
abbrev zq5(p q:Bool)(h:Heap)(l1 l2:Addr):Heap:=(zq4 p q h l1 l2).push { cls := .type "zip",data := .fields #[.none,.bool false,.bool false,.ref (zq2 p q h l1 l2).objs.size,.ref (zq3 p q h l1 l2).objs.size] }
theorem Zcj(p q:Bool)(l1 l2:Addr)(xs ys:Array Value):Meets (Builtin.«zip.__new__» ⟨[.type "zip",.ref l1,.ref l2],[]⟩) (λ_ R s=>IsQ p s.heap l1 xs/\IsQ q s.heap l2 ys/\R (.ok (.ret (.ref (zq4 p q s.heap l1 l2).objs.size))) { s with heap:=zq5 p q s.heap l1 l2 }):=
 .of_wp λprog w A R s h=>by
  obtain⟨hp,g,d,tk,os⟩:=s;obtain⟨m1,m2,h⟩:=h;have hsub:=sub_zip;cases p<;>cases q
  . have e1:Heap.IsList (Shared.heap ⟨hp,g,d,tk,os⟩) l1 xs:=m1
    have e2:Heap.IsList (Shared.heap ⟨hp.push { cls := .type "list_iterator",data := .fields #[.ref l1,.int 0 0] },g,d,tk,os⟩) l2 ys:=Heap.IsList.push m2 _
    wp_walk using yD e1,yD e2
    exact⟨_,rfl,h⟩
  . have e1:Heap.IsList (Shared.heap ⟨hp,g,d,tk,os⟩) l1 xs:=m1
    have e2:Heap.IsTuple (Shared.heap ⟨hp.push { cls := .type "list_iterator",data := .fields #[.ref l1,.int 0 0] },g,d,tk,os⟩) l2 ys:=Heap.IsTuple.push m2 _
    wp_walk using yD e1,qw e2
    exact⟨_,rfl,h⟩
  . have e1:Heap.IsTuple (Shared.heap ⟨hp,g,d,tk,os⟩) l1 xs:=m1
    have e2:Heap.IsList (Shared.heap ⟨hp.push { cls := .type "tuple_iterator",data := .fields #[.ref l1,.int 0 0] },g,d,tk,os⟩) l2 ys:=Heap.IsList.push m2 _
    wp_walk using qw e1,yD e2
    exact⟨_,rfl,h⟩
  . have e1:Heap.IsTuple (Shared.heap ⟨hp,g,d,tk,os⟩) l1 xs:=m1
    have e2:Heap.IsTuple (Shared.heap ⟨hp.push { cls := .type "tuple_iterator",data := .fields #[.ref l1,.int 0 0] },g,d,tk,os⟩) l2 ys:=Heap.IsTuple.push m2 _
    wp_walk using qw e1,qw e2
    exact⟨_,rfl,h⟩
theorem Zf5(k:Bool){h:Heap}(e:h.get? a=some (itO k l)):IsQI k h a l 0:=by
 cases k with
 |true=>exact⟨_,e,rfl,rfl⟩
 |false=>exact⟨_,e,rfl,rfl⟩
section
variable{prog:Program}{w:World}{A:Around}{E:Value->Shared->Prop}{s:Shared}
theorem Zd1 {p q:Bool} {Q:Value->Shared->Prop} (m1:IsQ p s.heap l1 xs) (m2:IsQ q s.heap l2 ys)
 (h:∀h',IsZip h' (s.heap.objs.size+4) (s.heap.objs.size+2) (s.heap.objs.size+3) .none->IsPair h' (s.heap.objs.size+2) (.ref s.heap.objs.size) (.ref (s.heap.objs.size+1))->IsPair h' (s.heap.objs.size+3) .none .none->IsQI p h' s.heap.objs.size l1 0->IsQI q h' (s.heap.objs.size+1) l2 0->(∀c o,s.heap.get? c=some o->h'.get? c=some o)->Q (.ref (s.heap.objs.size+4)) { s with heap:=h' }) :
 wpAny 'h' A (call (.type "zip") [.ref l1,.ref l2]) Q E s:=by
 refine callType_new F.called_zip 'b' (F.typeCall_zip_2 _ _) (F.newCall_zip_2 _ _) (λobj=>F.args_object_init_3 obj _ _) F.entry_zip_new (Zcj p q l1 l2 xs ys) ⟨m1,m2,?_⟩;have z1:(s.heap.push (itO p l1)).objs.size=s.heap.objs.size+1:=yg ..;have z2:(zq2 p q s.heap l1 l2).objs.size=s.heap.objs.size+2:=by rw [yg,z1]
 have z3:(zq3 p q s.heap l1 l2).objs.size=s.heap.objs.size+3:=by rw [yg,z2]
 have z4:(zq4 p q s.heap l1 l2).objs.size=s.heap.objs.size+4:=by rw [yg,z3]
 have up:=λ(h:Heap) (o o':Obj) (a:Addr) (e:h.get? a=some o')=>jh (h:=h) o e
 have g5:(zq5 p q s.heap l1 l2).get? (zq4 p q s.heap l1 l2).objs.size=some _:=jr _ rfl;have g4:(zq5 p q s.heap l1 l2).get? (zq3 p q s.heap l1 l2).objs.size=some _:=up _ _ _ _ (jr _ rfl);have g3:(zq5 p q s.heap l1 l2).get? (zq2 p q s.heap l1 l2).objs.size=some _:=up _ _ _ _ (up _ _ _ _ (jr _ rfl));have g2:(zq5 p q s.heap l1 l2).get? (s.heap.push (itO p l1)).objs.size=some (itO q l2):=up _ _ _ _ (up _ _ _ _ (up _ _ _ _ (jr _ (by cases q<;>rfl))))
 have g1:(zq5 p q s.heap l1 l2).get? s.heap.objs.size=some (itO p l1):=up _ _ _ _ (up _ _ _ _ (up _ _ _ _ (up _ _ _ _ (jr _ (by cases p<;>rfl)))));show _/\_;rw [z2,z3,z4]at g5;rw [z1,z2]at g3;rw [z3]at g4;rw [z1]at g2;rw [z4];exact⟨⟨_,g5,rfl⟩,h _ g5 g3 g4 (Zf5 p g1) (Zf5 q g2) λc o e=>up _ _ _ _ (up _ _ _ _ (up _ _ _ _ (up _ _ _ _ (up _ _ _ _ e))))⟩
end
end PySem
namespace L2
open PySem PySem.Spec PyProof.Rows
def SqQ(k:Bool)(K:Frag)(H:Hp)(a:Addr)(xs:List V):Prop:=match k with
 |true=>SqT K H a xs
 |false=>SqL K H a xs
theorem Inv.seqQ{X:Cx}{pins:List 'g'}{σ:St}{H:Hp}{s:Shared}{k:Bool}{a:Addr}{xs:List V}(I:Inv X pins σ H s)(h:SqQ k X.K H a xs):∃its:List Value,Vals xs its/\IsQ k s.heap a its.toArray/\xs.length<=sizeLine:=by
 cases k with
 |true=>exact I.tuple h
 |false=>
  obtain⟨its,r,p,z⟩:=I.list h;exact⟨its,r,p.isList,z⟩
theorem Inv.seqQ_inj{X:Cx}{pins:List 'g'}{σ:St}{H:Hp}{s:Shared}{k:Bool}{a:Addr}{xs ys:List V}(I:Inv X pins σ H s)(h:SqQ k X.K H a xs)(h':SqQ k X.K H a ys):xs=ys:=by
 cases k with
 |true=>exact I.tuple_inj h h'
 |false=>exact Inv.list_inj I h h'
def ZmI(kp kq:Bool)(K:Frag)(l1 l2:Addr):It:=
 ⟨λi H=>∃xs ys x y,SqQ kp K H l1 xs/\SqQ kq K H l2 ys/\xs[i]? = some x/\ys[i]? = some y,
  λi H v H'=>∃x y p,(∀xs,SqQ kp K H l1 xs->xs[i]? = some x)/\(∀ys,SqQ kq K H l2 ys->ys[i]? = some y)/\H p=none/\v = .ref p/\H'=upd H p (.tup [x,y]),
  λi H=>∃xs ys,SqQ kp K H l1 xs/\SqQ kq K H l2 ys/\(xs.length<=i\/ys.length<=i)⟩
theorem Zd2{p q:Bool}{K:Frag}{x1:Nat}(n l1 l2:Nat)(hl1:l1<n)(hl2:l2<n) :
 Turn P w K (.Tuple elts x1 tpos) (ZmI p q K l1 l2) [n+4,n+2,n+3,n,n+1] (n+4) (λi h=>IsZip h (n+4) (n+2) (n+3) .none/\IsPair h (n+2) (.ref n) (.ref (n+1))/\(∃a b,IsPair h (n+3) a b)/\IsQI p h n l1 i/\IsQI q h (n+1) l2 i) where
 mem:=by simp
 obj:=λi h st b hb=>by
  obtain⟨hz,hTI,⟨a,b',hTO⟩,h1,h2⟩:=st;obtain⟨o1,ho1,hd1⟩:=h1.get;obtain⟨o2,ho2,hd2⟩:=h2.get;simp at hb;rcases hb with rfl|rfl|rfl|rfl|rfl
  . exact ⟨_, hz, fun v z => by
     have z':Data.fields _=Data.cell v:=z;cases z'⟩
  . exact ⟨_, hTI, fun v z => by
     have z':Data.seq _ _=Data.cell v:=z;cases z'⟩
  . exact ⟨_, hTO, fun v z => by
     have z':Data.seq _ _=Data.cell v:=z;cases z'⟩
  . exact⟨o1,ho1,λv z=>by rw [hd1]at z;cases z⟩
  . exact⟨o2,ho2,λv z=>by rw [hd2]at z;cases z⟩
 keep:=λi h h' st k=>by
  obtain⟨hz,hTI,⟨a,b',hTO⟩,h1,h2⟩:=st;exact⟨k _ 'c' _ hz,k _ 'c' _ hTI,⟨a,b',k _ 'c' _ hTO⟩,h1.at λo q=>k n 'c' o q,h2.at λo q=>k (n+1) 'c' o q⟩
 item:=by
  intro X hP hw hK hc i pins s σ H E I hf st hg;subst hP hw hK;obtain⟨hz,hTI,⟨a,b',hTO⟩,h1,h2⟩:=st;obtain⟨xs,ys,x,y,hq1,hq2,hx,hy⟩:=hg;obtain⟨its1,rv1,p1,_⟩:=I.seqQ hq1;obtain⟨its2,rv2,p2,_⟩:=I.seqQ hq2;obtain⟨u,hu,ru⟩:=rv1.get hx;obtain⟨v,hv,rv⟩:=rv2.get hy;have D:ZipApart (n+4) (n+2) (n+3) n (n+1) l1 l2:=zipApart_new hl1 hl2;refine Zbo D hz hTI hTO h1 h2 p1 p2 (x:=u) (y:=v) (by simpa using hu) (by simpa using hv) λh' a1 a2 a3 a4 a5 a6 hk => ?_
  refine⟨_,rfl,wpAny_letOwnedTupleGo_zip a1 λh2' hz2 hs2 => ?_⟩;have hs2:Heap.SameBut (n+4) h' h2':=hs2;have hzl:n+4<s.heap.objs.size:=jz hz;have hT2:h2'.get? s.heap.objs.size=some { cls := .type "tuple",data := .seq #[u,v] }:=(hs2.2 _ (yf hzl)).trans a5;have k2:∀b o,b≠n+4->b≠n+3->b≠n->b≠n+1->s.heap.get? b=some o->h2'.get? b=some o:=λb o b1 b2 b3 b4 q=>(hs2.2 b b1).trans (hk b o b1 b2 b3 b4 q)
  have hTn:H s.heap.objs.size=none:=I.hok.fresh (jk _);have neT:∀b o,s.heap.get? b=some o->b≠s.heap.objs.size:=λb o q=>jQ (jz q)
  have hF:∀b,b=n+4\/b=n+3\/b=n\/b=n+1->Ys X pins H b:=λb hb=>hf b (by rcases hb with rfl|rfl|rfl|rfl<;>simp)
  have I2:Inv X pins σ (upd H s.heap.objs.size (.tup [x,y])) { s with heap:=h2' }:=by
   refine I.step (g':=s.gens) (d':=s.drawn) (t':=s.toks) (ch:=[n+4,n+3,n,n+1]) (λb hb => ?_) (λb o _ _ hcb q _ => ?_) (λb o _ _ hcb q _ => ?_) (λb o hcb q m => ?_) (λb o hcb q => ?_) (λb xs q => ?_) (λb o v q => ?_) (λb ps q => ?_) (λm hm => ?_) (λb o q => ?_) I.bare
   . obtain⟨e0,e1,e2,e3,e4,e5⟩:=hF b (by simpa using hb)
     exact⟨e3,e1,e4,e5⟩
   . simp at hcb
     exact k2 b o hcb.1 hcb.2.1 hcb.2.2.1 hcb.2.2.2 q
   . simp at hcb
     exact⟨o.slots,k2 b o hcb.1 hcb.2.1 hcb.2.2.1 hcb.2.2.2 q⟩
   . rw [Zc (neT b o q)]
     exact m
   . simp at hcb
     exact⟨o,k2 b o hcb.1 hcb.2.1 hcb.2.2.1 hcb.2.2.2 q⟩
   . rw [Zc (Zx q hTn)]
     exact q
   . rw [Zc (Zx q hTn)]
     exact q
   . exact⟨#[],by rw [Zc (Zx q hTn),q];simp⟩
   . obtain⟨o,es,ep,q,r⟩:=hm
     exact⟨o,es,ep,k2 _ o (jO (hF _ 's').2.1) (jO (hF _ (.inr 's')).2.1) (jO (hF _ (.inr (.inr 's'))).2.1) (jO (hF _ (.inr (.inr (.inr rfl)))).2.1) q,r⟩
   . by_cases hb:b=s.heap.objs.size
     . subst hb
       rw [Zi]at q;cases q;refine⟨by show 2<=sizeLine;decide,[u,v],.cons ru (.cons rv .nil),?_⟩;exact⟨_,hT2,rfl,⟨_,rfl⟩,rfl⟩
     . rw [Zc hb]at q
       have nn:∀(b:Addr)(o:HO),H b=some o->b≠n+4/\b≠n+3/\b≠n/\b≠n+1:=λb o q=>by
        refine⟨λz => ?_,λz => ?_,λz => ?_,λz => ?_⟩
        . rw [z,(hF _ 's').1]at q;cases q
        . rw [z,(hF _ (.inr 's')).1]at q;cases q
        . rw [z,(hF _ (.inr (.inr 's'))).1]at q;cases q
        . rw [z,(hF _ (.inr (.inr (.inr rfl)))).1]at q;cases q
       refine(I.hok b o q).stay (λd v hd q' => ?_) (λd q'=>by rw [Zc (Zx q' hTn)];exact q') λd xs q'=>by rw [Zc (Zx q' hTn)];exact q'
       rcases hd with rfl|hd
       . exact k2 d v (nn d o q).1 (nn d o q).2.1 (nn d o q).2.2.1 (nn d o q).2.2.2 q'
       . exact k2 d v (nn d _ hd).1 (nn d _ hd).2.1 (nn d _ hd).2.2.1 (nn d _ hd).2.2.2 q'
  refine⟨.ref s.heap.objs.size,_,I2,rfl,⟨x,y,s.heap.objs.size,λzs hz=>by rw [I.seqQ_inj hz hq1];exact hx,λzs hz=>by rw [I.seqQ_inj hz hq2];exact hy,hTn,rfl,rfl⟩,⟨hz2,?_,⟨u,v,?_⟩,?_,?_⟩,λb hb => ?_⟩
  . exact hs2.extBut _ _ D.TIz (hk _ _ D.TIz D.TITO D.TIi1 D.TIi2 hTI)
  . exact hs2.extBut _ _ D.TOz a2
  . exact a3.ext hs2.extBut D.i1z
  . exact a4.ext hs2.extBut D.i2z
  . have hb0:H b=none:=(hf b hb).1
    have hbl:b<s.heap.objs.size:=by
     simp at hb;have hzl':n+4<s.heap.objs.size:=hzl;rcases hb with rfl|rfl|rfl|rfl|rfl
     . exact hzl'
     . exact ym (Nat.add_le_add_left 'b' n) hzl'
     . exact ym (Nat.add_le_add_left 'b' n) hzl'
     . exact ym (qC b 4) hzl'
     . exact ym (Nat.add_le_add_left 'b' n) hzl'
    rw [Zc (jQ hbl)];exact hb0
 done:=by
  intro X hP hw hK hc i pins s σ H E I hf st hg;subst hP hw hK;obtain⟨hz,hTI,⟨a,b',hTO⟩,h1,h2⟩:=st;obtain⟨xs,ys,hq1,hq2,hx⟩:=hg;obtain⟨its1,rv1,p1,_⟩:=I.seqQ hq1;obtain⟨its2,rv2,p2,_⟩:=I.seqQ hq2;have e1:=rv1.length;have e2:=rv2.length;have D:ZipApart (n+4) (n+2) (n+3) n (n+1) l1 l2:=zipApart_new hl1 hl2;have hF:∀b,b=n+4\/b=n+3\/b=n\/b=n+1->Ys X pins H b:=λb hb=>hf b (by rcases hb with rfl|rfl|rfl|rfl<;>simp)
  refine Zbt (I.ok.hd hc) D hz hTI hTO h1 h2 p1 p2 (by
   rcases hx with hx|hx
   . exact .inl (by simp;omega)
   . exact .inr (by simp;omega)) λh' k2=>⟨rfl,?_⟩
  have nn:∀(b:Addr)(o:HO),H b=some o->b≠n+4/\b≠n+3/\b≠n/\b≠n+1:=λb o q=>by
   refine⟨λz => ?_,λz => ?_,λz => ?_,λz => ?_⟩
   . rw [z,(hF _ 's').1]at q;cases q
   . rw [z,(hF _ (.inr 's')).1]at q;cases q
   . rw [z,(hF _ (.inr (.inr 's'))).1]at q;cases q
   . rw [z,(hF _ (.inr (.inr (.inr rfl)))).1]at q;cases q
  refine I.step (g':=s.gens) (d':=s.drawn) (t':=s.toks) (ch:=[n+4,n+3,n,n+1]) (λb hb => ?_) (λb o _ _ hcb q _ => ?_) (λb o _ _ hcb q _ => ?_) (λ_ _ _ _ m=>m) (λb o hcb q => ?_) (λ_ _ e=>e) (λ_ _ _ e=>e) (λb ps e=>⟨#[],by rw [e];simp⟩) (λm hm => ?_) (λb o q => ?_) I.bare
  . obtain⟨e0,e1,e2,e3,e4,e5⟩:=hF b (by simpa using hb)
    exact⟨e3,e1,e4,e5⟩
  . simp at hcb
    exact k2 b o hcb.1 hcb.2.1 hcb.2.2.1 hcb.2.2.2 q
  . simp at hcb
    exact⟨o.slots,k2 b o hcb.1 hcb.2.1 hcb.2.2.1 hcb.2.2.2 q⟩
  . simp at hcb
    exact⟨o,k2 b o hcb.1 hcb.2.1 hcb.2.2.1 hcb.2.2.2 q⟩
  . obtain⟨o,es,ep,q,r⟩:=hm
    exact⟨o,es,ep,k2 _ o (jO (hF _ 's').2.1) (jO (hF _ (.inr 's')).2.1) (jO (hF _ (.inr (.inr 's'))).2.1) (jO (hF _ (.inr (.inr (.inr rfl)))).2.1) q,r⟩
  . refine(I.hok b o q).stay (λd v hd q' => ?_) (λ_ q=>q) λ_ _ q=>q
    rcases hd with rfl|hd
    . exact k2 d v (nn d o q).1 (nn d o q).2.1 (nn d o q).2.2.1 (nn d o q).2.2.2 q'
    . exact k2 d v (nn d _ hd).1 (nn d _ hd).2.1 (nn d _ hd).2.2.1 (nn d _ hd).2.2.2 q'
 self:=λ_ _ _ _ _ st h=>wpAny_pyIter_zip st.1 h
section
variable{X:Cx}{elts:List Expr}{x1:Nat}{tpos:Pos}
def Zix(K:Frag)(ta:TA):TI:=λσ H R=>ta σ H λvs H1=>∃p q l1 l2 xs ys,vs=[.ref l1,.ref l2]/\SqQ p K H1 l1 xs/\SqQ q K H1 l2 ys/\R (ZmI p q K l1 l2) H1
theorem Zhk {K:Frag} {a b:Expr} (hg:Gl X "zip") (hm:X.mg "zip" = none) (ha:PE X a ta) (hb:PE X b tb) (hs:starEach [a,b] X.env=(false,eval a X.env)::starEach [b] X.env:=by rfl) (hs2:starEach [b] X.env=[(false,eval b X.env)]:=by rfl) (hK:X.K=K:=by rfl) :
 PI X (.Tuple elts x1 tpos) (.Call (.Name "zip" po) [a,b] [] pos) (Zix K (Zy ta (Zy tb tNil))):=by
 subst hK;intro pins s σ H R I h;refine Call_ (Xb I hg hm boot_zip (qp (thn ((Xc ha (Xc hb X5 hs2) hs) pos pins s σ H _ I h) λus s1 ⟨vs,H1,I1,r1,q1⟩ => ?_) (by rw [hs,hs2]) (by rw [hs2];rfl)));obtain⟨p,q0,l1,l2,xs,ys,e,hq1,hq2,q⟩:=q1;subst e;cases r1 with
 |cons r rr=>
  cases rr with
  |cons r' rr'=>
   cases rr';cases r;cases r';obtain⟨its1,rv1,p1,_⟩:=I1.seqQ hq1;obtain⟨its2,rv2,p2,_⟩:=I1.seqQ hq2;have lt1:l1<s1.heap.objs.size:=p1.lt;have lt2:l2<s1.heap.objs.size:=p2.lt;refine Zd1 p1 p2 λh' hz hTI hTO h1 h2 k => ?_
   refine wpAny_pyIter_zip hz ?_;have I2:Inv X pins σ H1 { s1 with heap:=h' }:=I1.kept (t':=s1.toks) k;refine⟨s1.heap.objs.size+4,[s1.heap.objs.size+4,s1.heap.objs.size+2,s1.heap.objs.size+3,s1.heap.objs.size,s1.heap.objs.size+1],_,_,H1,rfl,I2,Zd2 s1.heap.objs.size l1 l2 lt1 lt2,⟨hz,hTI,⟨_,_,hTO⟩,h1,h2⟩,λb hb => ?_,q⟩
   have hb':s1.heap.objs.size<=b:=by
    simp at hb;rcases hb with rfl|rfl|rfl|rfl|rfl
    . exact qC _ _
    . exact qC _ _
    . exact qC _ _
    . exact jk _
    . exact qC _ _
   exact I1.fpOk hb' (I1.hok.fresh hb')
end
end L2
namespace DL
open PySem PySem.Spec L2
section
variable{cA:Kn}{G:Cn}{ow:List Nat}
def Ziy:D->Option (List D)
 | .lst xs=>some xs
 | .tup xs=>some xs
 |_=>none
end
end DL
namespace DL
open PySem PySem.Spec PyProof.Rows L2
def YC:List Int->Int
 | []=>0
 |n::ns=>ns.foldl min n
theorem Zad:∀(ns:List Int)(n:Int),(ns.foldl min n=n\/ns.foldl min n∈ns)/\ns.foldl min n<=n/\∀a∈ns,ns.foldl min n<=a
 | [],n=>⟨.inl rfl,Int.le_refl _,λ_ z=>nomatch z⟩
 |m::ns,n=>by
  obtain⟨h1,h2,h3⟩:=Zad ns (min n m);rw [uf];refine⟨?_,by omega,λa ha => ?_⟩
  . rcases h1 with h|h
    . by_cases hm:n<=m
      . exact .inl (by rw [h,Int.min_eq_left hm])
      . exact .inr (by rw [h,Int.min_eq_right 'a'];exact jj)
    . exact .inr (jq _ h)
  . rcases jA.mp ha with rfl|ha
    . omega
    . exact h3 a ha
theorem UI{ns:List Int}(h:0<ns.length):YC ns∈ns/\∀a∈ns,YC ns<=a:=by
 cases ns with
 |nil=>cases h
 |cons n ns=>
  obtain⟨h1,h2,h3⟩:=Zad ns n;refine⟨?_,λa ha => ?_⟩
  . rcases h1 with h|h
    . show ns.foldl min n∈_
      rw [h];exact jj
    . exact jq _ h
  . rcases jA.mp ha with rfl|ha
    . exact h2
    . exact h3 a ha
theorem Za5{ns:List Int}{M:Int}(h1:M∈ns)(h2:∀a∈ns,M<=a):M=YC ns:=by
 obtain⟨h3,h4⟩:=UI (qW h1);exact Int.le_antisymm (h2 _ h3) (h4 M h1)
def Jg(K:Frag):List V->Hp->VK->Prop:=λxs H Q=>∃(p:Addr) (ns:List Int),xs=[.ref p]/\SqL K H p (ns.map V.int)/\0<ns.length/\Q (.int (YC ns)) H
section
variable{X:Cx}{K:Frag}{cA:Kn}
theorem Zd3(hc:X.calm=true):CallR X (.builtin "min") (Jg X.K):=by
 intro pins s σ H xs us Q I rs h;obtain⟨p,ns,rfl,hq,hne,q⟩:=h;obtain⟨u,rfl,rx⟩:=YF rs;cases rx;obtain⟨its,rv,pl,hz⟩:=I.list hq;have hi:=Q7 ns its rv;obtain⟨ys,e⟩:=hi.allInts.items
 have hns:ns=ys.toList.map (·.1):=by
  rw [<-hi.numsOf,<-nums_intItems,<-e]
 have hsz:0<ys.size:=by
  have h3:=hne;rw [hns,ja,jP]at h3;exact h3
 have hl:=pl.isList;rw [e]at hl;refine min_intList (I.ok.hd hc) hl hsz λv h' tk hv hk => ?_
 obtain⟨t,rfl⟩:=intItems_at hv;obtain⟨h1,h2⟩:=argBest_lt (numAt ys) (ys.size-1)
 have hM:=Za5 (ns:=ns) (M:=numAt ys (argBest (λi j=>decide (numAt ys i<numAt ys j)) (ys.size-1))) (by
  rw [hns,numAt_eq];exact getD_mem (by rw [ja,jP];omega)) (λa ha=>by
  rw [hns]at ha;obtain⟨j,hj,rfl⟩:=mem_getD ha;rw [ja,jP]at hj;rw [<-numAt_eq];exact h2 j 'a')
 exact⟨.int (YC ns),H,I.kept hk,⟨t,by rw [hM]⟩,q⟩
def minLD:List D->Option D
 | [.lst xs]=>match YI xs with
  |some ns=>if 0<ns.length then some (.int (YC ns))else none
  |none=>none
 |_=>none
theorem Zhl:XI cA (Jg cA.K) minLD:=λi H ds vs d _ h e Q k=>by
 unfold minLD at e
 split at e
 . rename_i xs
   cases hb:YI xs with
   |none=>rw [hb]at e;cases e
   |some bs=>
    rw [hb]at e;dsimp only at e
    by_cases hz:0<bs.length
    . rw [je hz]at e
      cases e;obtain⟨v,t,rfl,a,ws,rfl,_,rd,l⟩:=il1 h;have ex:=Q6 hb;subst ex;have ev:=l.vals (by rw [yC];exact jT.mpr λ_ _=>rfl);rw [jZ]at ev;subst ev;exact⟨a,bs,rfl,rd,hz,k _ H 'q' rfl⟩
    . rw [jg hz]at e;cases e
 . cases e
variable{G:Cn}{ow:List Nat}
open Classical in
end
end DL
namespace DL
open PySem PySem.Spec L2
def Y1{α:Type}(k:List Key):List (List Key)->List α->Option α
 |k0::ks,x::xs=>if k0=k then some x else Y1 k ks xs
 |_,_=>none
def YJ{α:Type}(k:List Key)(d:α):List (List Key)->List α->List α
 |k0::ks,x::xs=>(if k0=k then d else x)::YJ k d ks xs
 |_,xs=>xs
def YK(k:List Key):List (List Key)->Bool
 | []=>false
 |k0::ks=>decide (k0=k)||YK k ks
def Vk(ks:List (List Key))(xs:List D)(k:List Key)(d:D):D:=if YK k ks=true then .dtt ks (YJ k d ks xs)else .dtt (ks++[k]) (xs++[d])
theorem Za6{α:Type}(k:List Key)(d:α):∀(ks:List (List Key))(xs:List α),(YJ k d ks xs).length=xs.length
 | [],_=>rfl
 |_::_,[]=>rfl
 |k0::ks,x::xs=>by rw [YJ,jx,jx,Za6 k d ks xs]
theorem Jh(k:List Key):∀(ks:List (List Key))(vs:List V),ks.length=vs.length->((ks.zip vs).any λkv=>decide (kv.1=k))=YK k ks
 | [],_,_=>rfl
 |k0::ks,[],h=>by simp at h
 |k0::ks,v::vs,h=>by
  rw [yM,yH,Jh k ks vs (by simpa using h)];rfl
theorem Zd4(k:List Key){ks:List (List Key)}{vs:List V}(h:ks.length=vs.length):(Zm (ks.zip vs) k).isSome=YK k ks:=by rw [<-Xs,Jh k ks vs h]
theorem ZbM(k:List Key)(v:V):∀(ks:List (List Key))(vs:List V),ks.length=vs.length->(ks.zip vs).map (λkv=>if kv.1=k then(kv.1,v)else kv)=ks.zip (YJ k v ks vs)
 | [],_,_=>by simp
 |k0::ks,[],h=>by simp at h
 |k0::ks,x::vs,h=>by
  rw [yM,jp,YJ,yM,ZbM k v ks vs (by simpa using h)]
  by_cases e:k0=k
  . simp [e]
  . simp [e]
section
variable{cA:Kn}{av:Addr->Prop}{H:Hp}
theorem Za7(k:List Key):∀{ks:List (List Key)}{xs:List D}{vs:List V}{x:D},RepL cA av H xs vs->Y1 k ks xs=some x->∃v,Zm (ks.zip vs) k=some v/\Rep cA av H x v
 | [],xs,vs,x,_,h=>by cases h
 |k0::ks,[],vs,x,_,h=>by cases h
 |k0::ks,y::xs,vs,x,l,h=>by
  obtain⟨v,r,rfl,h1,h2⟩:=l.uncons;rw [yM];unfold Y1 at h
  by_cases e:k0=k
  . rw [je e]at h
    cases h;exact⟨v,Ye e,h1⟩
  . rw [jg e]at h
    obtain⟨u,h3,h4⟩:=Za7 k h2 h;exact⟨u,(Yg e).trans h3,h4⟩
theorem Za8(k:List Key)(hd:Rep cA av H d v):∀(ks:List (List Key)){xs:List D}{vs:List V},RepL cA av H xs vs->RepL cA av H (YJ k d ks xs) (YJ k v ks vs)
 | [],xs,vs,l=>l
 |k0::ks,[],vs,l=>by rw [l.nil_of];exact .nil
 |k0::ks,y::xs,vs,l=>by
  obtain⟨u,r,rfl,h1,h2⟩:=l.uncons;rw [YJ,YJ];refine .cons ?_ (Za8 k hd ks h2)
  by_cases e:k0=k
  . rw [je e,je e];exact hd
  . rw [jg e,jg e];exact h1
theorem ZeV(k:List Key){ks:List (List Key)}{xs:List D}{H':Hp}(hks:ks.length=xs.length)(l:RepL cA av H' xs vs)(hd:Rep cA av H' d v)(e:H' a=some (.dT (Zv (ks.zip vs) k v))):Own cA av H' (Vk ks xs k d) a:=by
 have hl:ks.length=vs.length:=by rw [hks,l.length]
 unfold Zv at e;rw [Jh k ks vs hl]at e;unfold Vk
 by_cases h:YK k ks=true
 . rw [je h,ZbM k v ks vs hl]at e
   rw [je h];exact⟨_,e,by rw [Za6];exact hks,Za8 k hd ks l⟩
 . rw [jg h]at e
   rw [jg h];refine⟨vs++[v],?_,by rw [jc,jc,hks];rfl,l.append (.cons hd .nil)⟩;rw [e,List.zip_append hl];rfl
end
section
variable{G:Cn}{ow owN owB owC ow1:List Nat}{H0 H:Hp}{av:Addr->Prop}{A:Nat->Option Addr}{σ:L2.St}{δ:Env}
theorem ZeW{i:Nat}{ks:List (List Key)}{xs:List D}{p:Addr}(E:ER G ow H0 av A σ H δ)(hp:H p=none)(hks:ks.length=xs.length)(l:RepL G.1 (AV av A) H xs vs)(hw:∀j,j∈ow1 ↔ j∈ow\/j=i)(hn:G.2 i=none) :
 ER G ow1 H0 av (λj=>if j=i then some p else A j) (σ.set i (some (.ref p))) (upd H p (.dT (ks.zip vs))) (δ.set i (some (.dtt ks xs))):=by
 have hs:Same H (upd H p (.dT (ks.zip vs))):=Yu hp
 have less:∀b,AV av (λj=>if j=i then some p else A j) b->AV av A b\/H b=none:=λb z=>by
  rcases z with z|⟨j,z⟩
  . exact .inl (.inl z)
  . by_cases e:j=i
    . simp [e]at z;subst z;exact .inr hp
    . simp [e]at z;exact .inl (.inr ⟨j,z⟩)
 have np:∀j a,A j=some a->a≠p:=λj a e z=>by subst z;exact E.live j a e hp
 have h0:H0 p=none:=by
  cases q:H0 p with
  |none=>rfl
  |some o=>rw [E.same p o q]at hp;cases hp
 refine⟨E.same.trans hs,E.avd,λj a e => ?_,λj k a e1 e2 => ?_,λj a e => ?_,λj e => ?_,λj hj => ?_,by simp [E.len],λj a e=>(by
  have q:j≠i:=λz=>by rw [z,hn]at e;cases e
  simp only [q,qP];exact E.pin j a e),(λj v' e=>by
  have q:j≠i:=λz=>by rw [z,hn]at e;cases e
  rw [jl (jO q)];exact E.kept j v' e),λj d' e => ?_⟩
 . by_cases q:j=i
   . simp [q]at e;subst e;exact h0
   . simp [q]at e;exact E.fr j a e
 . by_cases q:j=i
   . by_cases q2:k=i
     . rw [q,q2]
     . simp [q]at e1;simp [q2]at e2
       exact absurd e1.symm (np k a e2)
   . by_cases q2:k=i
     . simp [q]at e1;simp [q2]at e2
       exact absurd e2.symm (np j a e1)
     . simp [q]at e1;simp [q2]at e2;exact E.inj j k a e1 e2
 . by_cases q:j=i
   . simp [q]at e;subst e;rw [Zi];exact λz=>by cases z
   . simp [q]at e
     rw [Zc (np j a e)];exact E.live j a e
 . by_cases q:j=i
   . exact(hw j).mpr (.inr q)
   . simp [q]at e;exact(hw j).mpr (.inl (E.dom j e))
 . by_cases q:j=i
   . simp [q]
   . simp [q]
     exact E.dom' j (((hw j).mp hj).resolve_right q)
 . rcases VQ e with⟨rfl,rfl,hl⟩|⟨q,e'⟩
   . refine⟨.ref p,?_,λz=>by simp at z,λa z => ?_⟩
     . rw [jB (by rw [E.len];exact hl)]
     . simp at z
       subst z;exact⟨rfl,vs,Zi,hks,(l.av less).same hs⟩
   . obtain⟨v',h1,h2,h3⟩:=E.var j d' e'
     refine⟨v',by rw [jl (jO q)];exact h1,λz => ?_,λa z => ?_⟩
     . simp [q]at z
       exact((h2 z).av less).same hs
     . simp [q]at z
       obtain⟨r1,r2⟩:=h3 a z;refine⟨r1,?_⟩;cases d' with
       |lst xs=>obtain⟨vs',q1,q2⟩:=r2;exact⟨vs',hs _ _ q1,(q2.av less).same hs⟩
       |obj c ks xs=>obtain⟨dx,vs',q1,q0,q2⟩:=r2;exact⟨dx,vs',hs _ _ q1,q0,(q2.av less).same hs⟩
       |dct ks xs=>obtain⟨vs',q1,q0,q2⟩:=r2;exact⟨vs',hs _ _ q1,q0,(q2.av less).same hs⟩
       |dtt ks xs=>obtain⟨vs',q1,q0,q2⟩:=r2;exact⟨vs',hs _ _ q1,q0,(q2.av less).same hs⟩
       |dnn xs=>obtain⟨vs',q1,q0,q2⟩:=r2;exact⟨vs',hs _ _ q1,q0,(q2.av less).same hs⟩
       |_=>exact r2
def ZmJ(G:Cn)(ow:List Nat)(te:TE)(ε:Env->Option D):Prop:=
 ∀H0 av A σ H δ,ER G ow H0 av A σ H δ->∀d,ε δ=some d->∀Q:VK,(∀p ks vs xs H1,Same H H1->H1 p=none->ks.length=xs.length->RepL G.1 (AV av A) H1 xs vs->d = .dtt ks xs->Q (.ref p) (upd H1 p (.dT (ks.zip vs))))->te σ H Q
theorem ZeX(i:Nat)(h:ZmJ G ow te ε)(hn:G.2 i=none)(h1:sub owN (i::ow)=true)(h2:owN.contains i=true)(h3:sub ow owN=true):VS G ow owN owB owC (ZG te (Zs i)) (Ze i ε):=λH0 av A σ H δ E o e De k=>by
 unfold Ze at e;cases he:ε δ with
 |none=>rw [he]at e;cases e
 |some d=>
  rw [he]at e;cases e;refine h H0 av A σ H δ E d he _ λp ks vs xs H1 s hp hk l hd => ?_
  subst hd;exact k _ _ _ (ZeW (E.mono s) hp hk l (QZ h1 h2 h3) hn)
def VZ:List D->Option (List Key)
 | []=>some []
 |x::xs=>match Jb x,VZ xs with
  |some k,some ks=>some (k::ks)
  |_,_=>none
def Yx:D->Option (List Key)
 | .tup xs=>VZ xs
 |_=>none
theorem Zao:∀{xs:List D}{ks:List Key}{vs:List V},VZ xs=some ks->RepL cA av H xs vs->vs=ks.map kV
 | [],ks,vs,h,l=>by cases h;exact l.nil_of
 |x::xs,ks,vs,h,l=>by
  obtain⟨v,r,rfl,h1,h2⟩:=l.uncons;unfold VZ at h;cases hk:Jb x with
  |none=>rw [hk]at h;cases h
  |some k=>
   cases hks:VZ xs with
   |none=>rw [hk,hks]at h;cases h
   |some ks'=>
    rw [hk,hks]at h;cases h;obtain⟨e1,e2⟩:=ZdY hk;rw [jp,Zao hks h2,h1.val e2,e1]
theorem UJ{H:Hp}{k:List Key}{v:V}(h:Yx x=some k)(r:Rep cA av H x v):∃b,v = .ref b/\H b=some (.tup (k.map kV)):=by
 cases x<;>first|(cases h;done)|skip
 obtain⟨a,vs,rfl,_,hH,l⟩:=r;exact⟨a,rfl,by rw [hH,Zao h l]⟩
def XJ(neg:Bool):D->D->Option D
 |x,.dtt ks _=>match Yx x with
  |some k=>some (.bl (neg != YK k ks))
  |none=>none
 |_,_=>none
theorem Zd5{neg:Bool}{x y d:D}(h:XJ neg x y=some d):∃ks xs k,y = .dtt ks xs/\Yx x=some k/\d = .bl (neg != YK k ks):=by
 unfold XJ at h
 split at h
 . rename_i ks xs
   cases hk:Yx x with
   |none=>rw [hk]at h;cases h
   |some k=>rw [hk]at h;exact⟨ks,xs,k,rfl,rfl,(jo h).symm⟩
 . cases h
theorem Zck(ha:VE G ow ta qa a)(hb:VE G ow tb qb b):VE G ow (ZcJ ta tb) .cl (eOp (XJ true) a b):=λH0 av A σ H δ E d e Q k=>by
 obtain⟨x,y,ex,ey,ed⟩:=Uw e;obtain⟨ks,xs,kk,rfl,hk,rfl⟩:=Zd5 ed;refine ha H0 av A σ H δ E _ ex _ λv H1 s1 r1=>hb H0 av A σ H1 δ (E.mono s1) _ ey _ λw H2 s2 r2 => ?_
 obtain⟨b,rfl,hbb⟩:=UJ hk r1.any;obtain⟨p,vs,rfl,_,rd,hl,l⟩:=r2.tp;refine⟨p,_,rfl,DGet.t rd (s2 _ _ hbb),?_⟩;rw [Zd4 kk (hl.trans l.length)];have:=k (.bl (true != YK kk ks)) H2 (s1.trans s2) blq;rw [Bool.true_bne]at this;exact this
def XM:D->D->Option D
 | .dtt ks xs,x=>match Yx x with
  |some k=>Y1 k ks xs
  |none=>none
 |_,_=>none
theorem Zcl{x y d:D}(h:XM y x=some d):∃ks xs k,y = .dtt ks xs/\Yx x=some k/\Y1 k ks xs=some d:=by
 unfold XM at h
 split at h
 . rename_i ks xs
   cases hk:Yx x with
   |none=>rw [hk]at h;cases h
   |some k=>rw [hk]at h;exact⟨ks,xs,k,rfl,rfl,h⟩
 . cases h
theorem ZeY{qa qb:Ql}(hq:qa = .cl\/qa = .tp)(ha:VE G ow ta qa a)(hb:VE G ow tb qb b):VE G ow (VL ta tb) .cl (eOp XM a b):=λH0 av A σ H δ E d e Q k=>by
 obtain⟨y,x,ey,ex,ed⟩:=Uw e;obtain⟨ks,xs,kk,rfl,hk,hlk⟩:=Zcl ed;refine ha H0 av A σ H δ E _ ey _ λv H1 s1 r1=>hb H0 av A σ H1 δ (E.mono s1) _ ex _ λw H2 s2 r2 => ?_
 obtain⟨b,rfl,hbb⟩:=UJ hk r2.any
 have r3:RepT G.1 av (AV av A) H2 (.dtt ks xs) v:=by
  have:=(r1.same s2).tp;rcases hq with rfl|rfl<;>exact this
 obtain⟨p,vs,rfl,_,rd,hl,l⟩:=r3;obtain⟨u,h1,h2⟩:=Za7 kk l hlk;refine⟨p,u,rfl,?_,k u H2 (s1.trans s2) h2.t⟩;rw [<-h1];exact DGet.t rd hbb
def XN(i:Nat)(κ ε:Env->Option D)(δ:Env):Option Out:=match ε δ,Za i δ,κ δ with
 |some d,some (.dtt ks xs),some x=>match Yx x with
  |some k=>if ks.length<sizeLine then some (.nx (δ.set i (some (Vk ks xs k d))))else none
  |none=>none
 |_,_,_=>none
theorem Zbu{i:Nat}{κ ε:Env->Option D}{δ:Env}{o:Out}(h:XN i κ ε δ=some o):∃d ks xs x k,ε δ=some d/\Za i δ=some (.dtt ks xs)/\κ δ=some x/\Yx x=some k/\ks.length<sizeLine/\o = .nx (δ.set i (some (Vk ks xs k d))):=by
 unfold XN at h
 split at h
 . rename_i d ks xs x h1 h2 h3
   cases hk:Yx x with
   |none=>rw [hk]at h;cases h
   |some k=>
    rw [hk]at h;dsimp only at h
    by_cases hz:ks.length<sizeLine
    . rw [je hz]at h
      exact⟨d,ks,xs,x,k,h1,h2,h3,hk,hz,(jo h).symm⟩
    . rw [jg hz]at h;cases h
 . cases h
theorem ZeZ(i:Nat)(hi:ow.contains i=true)(h:VE G ow te .cl ε)(hk:VE G ow ti q κ):VS G ow ow owB owC (Ut (Zl i) ti te) (XN i κ ε):=λH0 av A σ H δ E o e De k=>by
 obtain⟨d,ks,xs,x,kk,e1,e2,e3,hkk,hz,rfl⟩:=Zbu e;have hi':i∈ow:=by simpa using hi
 cases hA:A i with
 |none=>exact absurd hA (E.dom' i hi')
 |some a=>
  refine h H0 av A σ H δ E d e1 _ λv H1 s1 r1 => ?_
  have E1:=E.mono s1;obtain⟨u,g1,_,g3⟩:=E1.var i _ (Z9 e2);refine⟨u,g1,hk H0 av A σ H1 δ E1 _ e3 _ λy H2 s2 r2 => ?_⟩;have E2:=E1.mono s2;obtain⟨u',g1',_,g3'⟩:=E2.var i _ (Z9 e2);obtain⟨rfl,vs,q1,q0,q2⟩:=g3' a hA;have eu:u = .ref a:=(g3 a hA).1;subst eu;obtain⟨b,rfl,hbb⟩:=UJ hkk r2.any;refine⟨a,_,rfl,DPut.t q1 hbb ?_,k A σ _ (E2.put hA (Z9 e2) (λb o hb e=>by rw [Zc hb];exact e) (by rw [Zi];exact λz=>by cases z) ?_)⟩
  . have:(ks.zip vs).length=ks.length:=by rw [uJ,<-q2.length,q0];omega
    rw [this];exact hz
  . have ex : ∀ b o, ¬ AV av A b -> H2 b = some o -> upd H2 a (.dT (Zv (ks.zip vs) kk v)) b = some o := fun b o n e => by
     rw [Zc λz=>n (.inr ⟨i,by rw [z];exact hA⟩)];exact e
    exact ZeV kk q0 (q2.ext ex) ((RepT.r (r1.same s2)).ext ex) Zi
end
section
variable{G:Cn}{ow owN owB owC ow1:List Nat}
def Y2(γ:D->Env->Option Env)(ε:Env->Option D)(δ:Env):Option Out:=match ε δ with
 |some d=>match γ d δ with
  |some δ'=>some (.nx δ')
  |none=>none
 |none=>none
theorem Ji(h:VE G ow te .cl ε)(hg:VG G ow ow g γ):VS G ow ow owB owC (ZG te g) (Y2 γ ε):=λH0 av A σ H δ E o e De k=>by
 unfold Y2 at e;cases he:ε δ with
 |none=>rw [he]at e;cases e
 |some d=>
  rw [he]at e;dsimp only at e;cases hγ:γ d δ with
  |none=>rw [hγ]at e;cases e
  |some δ'=>
   rw [hγ]at e;cases e;refine h H0 av A σ H δ E d he _ λv H1 s1 r1 => ?_
   exact hg H0 av A σ H1 δ (E.mono s1) d v (RepT.r r1) δ' hγ _ λA' σ' H' s' E'=>k A' σ' H' E'
end
section
variable{cA:Kn}{G:Cn}{ow owN owB owC:List Nat}
theorem RepL.dropLast{av:Addr->Prop}{H:Hp}:∀{xs:List D}{vs:List V},RepL cA av H xs vs->RepL cA av H xs.dropLast vs.dropLast
 | [],vs,h=>by rw [h.nil_of];exact .nil
 | [x],vs,h=>by
  obtain⟨v,r,rfl,_,t⟩:=h.uncons;rw [t.nil_of];exact .nil
 |x::y::xs,vs,h=>by
  obtain⟨v,r,rfl,h1,t⟩:=h.uncons;obtain⟨w,r',rfl,h2,t2⟩:=t.uncons;exact .cons h1 (RepL.dropLast (xs:=y::xs) (vs:=w::r') t)
end
end DL
namespace L2
open PySem PySem.Spec PyProof.Rows
def ZbN(ta:TA):TE:=λσ H Q=>ta σ H λvs H1=>∃n:Nat,vs=[.int (n:Int)]/\n<=1000000/\∀l,H1 l=none->Q (.ref l) (upd H1 l (.lst ((List.range n).map λk:Nat=>V.int (k:Int))))
theorem Ze0(acc:List Value)(n:Nat)(hl:acc.length=n)(h:∀(j:Nat)(v:Value),acc[j]? = some v->∃t,v = .int (0+(j:Nat)*1) t):Vals ((List.range n).map λk:Nat=>V.int (k:Int)) acc:=by
 have go:∀(k:Nat)(acc:List Value),(∀(j:Nat)(v:Value),acc[j]? = some v->∃t,v = .int ((k+j:Nat):Int) t)->Vals ((List.range' k acc.length).map λk:Nat=>V.int (k:Int)) acc:=λk acc=>by
  induction acc generalizing k with
  |nil=>exact λ_ => .nil
  |cons v acc ih=>
   intro h;rw [jx,List.range'_succ,jp];obtain⟨t,e⟩:=h 0 v rfl;refine .cons ⟨t,e⟩ (ih (k+1) λj v hj => ?_);obtain⟨t,e⟩:=h (j+1) v (by simpa using hj);exact⟨t,by rw [e,show k+(j+1)=k+1+j by omega]⟩
 rw [List.range_eq_range',<-hl]
 exact go 0 acc λj v hj=>by
  obtain⟨t,e⟩:=h j v hj;exact⟨t,by rw [e];congr 1;omega⟩
theorem Zcm {X:Cx} {a:Expr} (hcm:X.calm=true) (hg:Gl X "list") (hm:X.mg "list" = none) (hgz:Gl X "range") (hmz:X.mg "range" = none) (ha:PA X [a] ta) (hs:starEach [a] X.env=[(false,eval a X.env)]:=by rfl)
 (ho:starEach [.Call (.Name "range" p2) [a] [] pos2] X.env=[(false,eval (.Call (.Name "range" p2) [a] [] pos2) X.env)]:=by rfl) :
 PE X (.Call (.Name "list" p) [.Call (.Name "range" p2) [a] [] pos2] [] pos) (ZbN ta):=by
 intro pins s σ H Q I h;refine yv (Xb I hg hm boot_list ?_ 'b' 'b');refine qp ?_ ho rfl;rw [ho];refine qQ ?_;refine Call_ (Xb I hgz hmz boot_range (qp (thn (ha pos2 pins s σ H _ I h) λus s1 ⟨vs,H1,I1,r1,q1⟩ => ?_) hs rfl));obtain⟨n,e,hz,q⟩:=q1;subst e;cases r1 with
 |cons r rr=>
  cases rr;obtain⟨t,rfl⟩:=r;refine call_range_1 ?_;refine ua ?_;have hsz:Builtin.Range.rangeSize 0 (n:Int) 1=(n:Nat):=by rw [rangeSize_one];split<;>omega
  refine call_list_range (I1.ok.hd hcm) (jr _ rfl) (small_one 'a' 'a' 'a' 'a') hsz 'a' λh' tk acc c k3 hS hacc => ?_
  have k:∀b o,s1.heap.get? b=some o->h'.get? b=some o:=λb o e=>k3 b o (jh _ e)
  have hge:s1.heap.objs.size<=(s1.heap.push { cls := .type "range",data := .fields #[.int 0 s1.toks,.int (n:Int) t,.int 1 (s1.toks+1)] }).objs.size:=by rw [yg];exact Nat.le_succ _
  refine⟨.ref (s1.heap.push { cls := .type "range",data := .fields #[.int 0 s1.toks,.int (n:Int) t,.int 1 (s1.toks+1)] }).objs.size,_,I1.laid (t':=tk) k hge (show ObjOk X.prog X.w _ h' _ (.lst _)from⟨?_,acc.toList,c,Ze0 acc.toList n (by simpa using hacc.1) λj v hj=>hacc.2 j v (by simpa using hj),hS⟩),rfl,q _ (I1.hok.fresh hge)⟩;rw [ja,jC,j7]
  omega
end L2
namespace DL
open PySem PySem.Spec L2
def Vl(a:Env->Option (List D))(δ:Env):Option D:=match a δ with
 |some [.int n]=>if 0<=n/\n<=1000000 then some (.lst ((List.range n.toNat).map λk:Nat=>D.int (k:Int)))else none
 |_=>none
theorem Zcn(h:VA G ow ta q a):VF G ow (ZbN ta) (Vl a):=λH0 av A σ H δ E d e Q k=>by
 unfold Vl at e
 split at e
 . rename_i n ex
   by_cases hz:0<=n/\n<=1000000
   . rw [je hz]at e
     cases e;refine h H0 av A σ H δ E _ ex _ λvs H1 s1 r1 => ?_
     refine⟨n.toNat,?_,by omega,λl hl=>k l _ _ H1 s1 hl ?_ rfl⟩
     . rw [qH hz.1]
       exact ql1 r1
     . have:=RepL.of_vals (cA:=G.1) (av:=AV av A) (H:=H1) (xs:=(List.range n.toNat).map λk:Nat=>D.int (k:Int)) (by rw [yC];exact jT.mpr λ_ _=>rfl)
       rw [jZ]at this;exact this
   . rw [jg hz]at e;cases e
 . cases e
section
variable{cA:Kn}{G:Cn}{ow owN owB owC:List Nat}{H0 H H':Hp}{av:Addr->Prop}{A:Nat->Option Addr}{σ:L2.St}{δ:Env}
def Xy(i j:Nat)(δ:Env):Option Out:=match Za j δ with
 |some (.lst xs)=>match xs[xs.length-1]? with
  |some y=>some (.nx ((δ.set j (some (.lst xs.dropLast))).set i (some y)))
  |none=>none
 |_=>none
theorem ZjO(i j:Nat)(hj:ow.contains j=true)(hn:G.2 i=none)(h1:sub owN ow=true)(h2:owN.contains i=false)(h3:sub ow (i::owN)=true) :
 VS G ow owN owB owC (ZG (QO G.1.K "list" rPop (Zl j)) (Zs i)) (Xy i j):=λH0 av A σ H δ E o e De k=>by
 unfold Xy at e
 split at e
 . rename_i xs ev
   cases hy:xs[xs.length-1]? with
   |none=>rw [hy]at e;cases e
   |some y=>
    rw [hy]at e;cases e;have hj':j∈ow:=by simpa using hj
    cases hA:A j with
    |none=>exact absurd hA (E.dom' j hj')
    |some a=>
     obtain⟨v0,g1,_,g3⟩:=E.var j _ (Z9 ev);obtain⟨rfl,vs,q1,q2⟩:=g3 a hA;obtain⟨vy,hvy,ry⟩:=q2.get hy
     have xt:∀b o,¬AV av A b->H b=some o->upd H a (.lst vs.dropLast) b=some o:=λb o nb e=>by
      rw [Zc λz=>nb (.inr ⟨j,by rw [z];exact hA⟩)];exact e
     have E2:=E.put hA (Z9 ev) (H':=upd H a (.lst vs.dropLast)) (d' := .lst xs.dropLast) (λb o hb e=>by rw [Zc hb];exact e) (by rw [Zi];exact λz=>by cases z) ⟨_,Zi,(RepL.dropLast q2).ext xt⟩;refine⟨_,g1,.inl ⟨rfl,vs,SqL.of q1⟩,a,vs,vy,rfl,rfl,q1,by rw [<-q2.length];exact hvy,?_⟩;exact k _ _ _ (E2.set (ry.ext xt) (UF h1 h2 h3) hn)
 . cases e
end
end DL
namespace DL
open PySem PySem.Spec PyProof.Rows L2
section
variable{prog:Program}{w:World}{A:Around}{E:Value->Shared->Prop}{s:Shared}{l:Addr}{xs:Array (Int×Tok)}
theorem Zbv {Q:Value->Shared->Prop} (hl:s.heap.IsTuple l (intItems xs))
 (h:∀s₂:Shared,s₂={ s with heap:=s.heap.push { cls := .type "tuple_iterator",data := .fields #[.ref l,.int 0 0] } } ->
   (s₂.heap.IsTupleIter s.heap.objs.size l 0/\s₂.heap.IsTuple l (intItems xs))->(∀b∈[s.heap.objs.size,l],b<s₂.heap.objs.size)->l≠s.heap.objs.size->Q (.ref s.heap.objs.size) s₂) :
 wpAny 'h' A (pyIter (.ref l)) Q E s:=by
 have hlt:l<s.heap.objs.size:=by obtain⟨_,e,_⟩:=hl;exact jz e
 refine qw hl (h _ rfl ⟨⟨_,jr _ rfl,rfl,rfl⟩,hl.push _⟩ (λb hb => ?_) (jQ hlt));show b<(s.heap.push _).objs.size;rw [yg];rcases jA.mp hb with rfl|hb
 . exact uB _
 . rcases jA.mp hb with rfl|hb
   . exact Nat.lt_succ_of_lt hlt
   . cases hb
theorem Zd6 {h':Heap} (hk:∀b o,b∉[s.heap.objs.size]->(s.heap.push { cls := .type "tuple_iterator",data := .fields #[.ref l,.int 0 0] }).get? b=some o->h'.get? b=some o) :
 ∀b o,s.heap.get? b=some o->h'.get? b=some o:=λb o e=>by
 refine hk b o (λhm => ?_) (jh _ e);rcases jA.mp hm with e1|hm
 . exact absurd (e1▸jz e) (qO _)
 . cases hm
theorem Zco {Q:Value->Shared->Prop} (hh:A.handled=none) (hl:s.heap.IsTuple l (intItems xs)) (hne:0<xs.size)
 (h:∀v h' tk,(intItems xs)[argBest (λi j=>decide (numAt xs i<numAt xs j)) (xs.size-1)]? = some v->(∀b o,s.heap.get? b=some o->h'.get? b=some o)->Q v { s with heap:=h',toks:=tk }) :
 wpAny 'h' A (call (.builtin "min") [.ref l]) Q E s:=by
 refine call_min_walk (Zbv hl λs₂ e st hfp hlI => ?_);subst e;refine⟨_,_,_,_,_,_,_,rfl,Walks.tuple (A:=A.in1) hh _ l hlI (intItems xs),st,hfp,by simpa [intItems]using hne,CmpOf.ints_lt (numAt xs) (λ_ _=>intItems_at),λv h' tk hP hk => ?_⟩;exact h v h' tk (by simpa [intItems]using hP) (Zd6 hk)
end
def Ziz(K:Frag):List V->Hp->VK->Prop:=λxs H Q=>∃(p:Addr) (ns:List Int),xs=[.ref p]/\SqT K H p (ns.map V.int)/\0<ns.length/\Q (.int (YC ns)) H
def ZiA(K:Frag):List V->Hp->VK->Prop:=λxs H Q=>Jg K xs H Q\/Ziz K xs H Q
section
variable{X:Cx}{K:Frag}{cA:Kn}
theorem Zd7(hc:X.calm=true):CallR X (.builtin "min") (Ziz X.K):=by
 intro pins s σ H xs us Q I rs h;obtain⟨p,ns,rfl,hq,hne,q⟩:=h;obtain⟨u,rfl,rx⟩:=YF rs;cases rx;obtain⟨its,rv,hl,hz⟩:=I.tuple hq;have hi:=Q7 ns its rv;obtain⟨ys,e⟩:=hi.allInts.items
 have hns:ns=ys.toList.map (·.1):=by
  rw [<-hi.numsOf,<-nums_intItems,<-e]
 have hsz:0<ys.size:=by
  have h3:=hne;rw [hns,ja,jP]at h3;exact h3
 rw [e]at hl;refine Zco (I.ok.hd hc) hl hsz λv h' tk hv hk => ?_
 obtain⟨t,rfl⟩:=intItems_at hv;obtain⟨h1,h2⟩:=argBest_lt (numAt ys) (ys.size-1)
 have hM:=Za5 (ns:=ns) (M:=numAt ys (argBest (λi j=>decide (numAt ys i<numAt ys j)) (ys.size-1))) (by
  rw [hns,numAt_eq];exact getD_mem (by rw [ja,jP];omega)) (λa ha=>by
  rw [hns]at ha;obtain⟨j,hj,rfl⟩:=mem_getD ha;rw [ja,jP]at hj;rw [<-numAt_eq];exact h2 j 'a')
 exact⟨.int (YC ns),H,I.kept hk,⟨t,by rw [hM]⟩,q⟩
theorem ZjP(hc:X.calm=true:=by rfl)(hK:X.K=K:=by rfl):CallR X (.builtin "min") (ZiA K):=hK▸λpins s σ H xs us Q I rs h=>h.elim (Zd3 hc pins s σ H xs us Q I rs) (Zd7 hc pins s σ H xs us Q I rs)
def minQD:List D->Option D
 | [.tup xs]=>match YI xs with
  |some ns=>if 0<ns.length then some (.int (YC ns))else none
  |none=>none
 |ds=>minLD ds
theorem Zhm:XI cA (ZiA cA.K) minQD:=λi H ds vs d ha h e Q k=>by
 unfold minQD at e
 split at e
 . rename_i xs
   cases hb:YI xs with
   |none=>rw [hb]at e;cases e
   |some bs=>
    rw [hb]at e;dsimp only at e
    by_cases hz:0<bs.length
    . rw [je hz]at e
      cases e;obtain⟨v,t,rfl,a,ws,rfl,_,rd,l⟩:=il1 h;have ex:=Q6 hb;subst ex;have ev:=l.vals (by rw [yC];exact jT.mpr λ_ _=>rfl);rw [jZ]at ev;subst ev;exact .inr ⟨a,bs,rfl,SqT.of rd,hz,k _ H 'q' rfl⟩
    . rw [jg hz]at e;cases e
 . exact .inl (Zhl i H _ vs d ha h e Q k)
end
end DL
namespace DL
open PySem PySem.Spec L2
section
variable{cA:Kn}{G:Cn}{ow:List Nat}
mutual
theorem Rep.kind{av:Addr->Prop}{H H':Hp}:∀{d:D}{v:V},frz d=true->(∀b o,H b=some o->(∀vs,o ≠ .lst vs)->H' b=some o)->Rep cA av H d v->Rep cA av H' d v
 | .non,_,_,_,h=>h
 | .bl _,_,_,_,h=>h
 | .int _,_,_,_,h=>h
 | .str _,_,_,_,h=>h
 | .lst xs,v,hf,k,h=>by cases hf
 | .tup xs,v,hf,k,h=>by
  unfold DL.frz at hf;unfold Rep at h ⊢;obtain⟨a,vs,e,n,r,l⟩:=h;exact⟨a,vs,e,n,k _ _ r 'l',RepL.kind hf k l⟩
 | .obj c ks xs,v,hf,k,h=>by
  unfold DL.frz at hf;unfold Rep at h ⊢;obtain⟨a,dx,vs,e,n,r,z,l⟩:=h;exact⟨a,dx,vs,e,n,k _ _ r 'l',z,RepL.kind hf k l⟩
 | .dct ks xs,v,hf,k,h=>by cases hf
 | .dtt ks xs,v,hf,k,h=>by cases hf
 | .dnn xs,v,hf,k,h=>by cases hf
theorem RepL.kind{av:Addr->Prop}{H H':Hp}:∀{xs:List D}{vs:List V},frzL xs=true->(∀b o,H b=some o->(∀vs,o ≠ .lst vs)->H' b=some o)->RepL cA av H xs vs->RepL cA av H' xs vs
 | [],_,_,_,h=>h
 |x::xs,vs,hf,k,h=>by
  unfold DL.frzL at hf;rw [jV]at hf;unfold RepL at h ⊢;obtain⟨v,r,e,h1,h2⟩:=h;exact⟨v,r,e,Rep.kind hf.1 k h1,RepL.kind hf.2 k h2⟩
end
end
end DL
namespace PySem
open Sem (wp)
open AutoSeq1 (wpAny_loadPart')
theorem Zac(l:Addr)(items:Array Value)(n:Nat)(dct:Option Addr)(sl:Array (Option Value)) :
 Meets (Builtin.«enumerate.__new__» ⟨[.type "enumerate",.ref l],[]⟩) (λ_ R s=>s.heap.get? l=some { cls := .type "tuple",dict:=dct,data := .seq items n,slots:=sl } /\
  R (.ok (.ret (.ref (s.heap.push { cls := .type "tuple_iterator",data := .fields #[.ref l,.int 0 0] }).objs.size)))
   { s with heap:=(s.heap.push { cls := .type "tuple_iterator",data := .fields #[.ref l,.int 0 0] }).push { cls := .type "enumerate",data := .fields #[.none,.bool false,.ref s.heap.objs.size,rawInt 0,.none,.none] } }):=
 .of_wp λprog w A R s h=>by
  obtain⟨hp,g,d,tk,os⟩:=s;obtain⟨hl,h⟩:=h;have hsub:=sub_enumerate;have hL:Heap.IsTuple (Shared.heap ⟨hp,g,d,tk,os⟩) l items:=⟨_,hl,rfl,n,rfl⟩
  wp_walk using ur hl
  refine wpAny_stack_any λst=>jf ?_
  split
  . rename_i c _ _ _ _ _
    cases(c == Value.type "enumerate")
    . wp_walk using ur hl,qw hL
      exact⟨_,rfl,h⟩
    . wp_walk using ur hl,qw hL
      exact⟨_,rfl,h⟩
  . wp_walk using ur hl,qw hL
    exact⟨_,rfl,h⟩
section
variable{prog:Program}{w:World}{A:Around}{E:Value->Shared->Prop}{s:Shared}
theorem Zah {Q:Value->Shared->Prop} (hL:s.heap.IsTuple l items)
 (h:∀h',IsEnum h' (s.heap.objs.size+1) s.heap.objs.size 0 .none->h'.IsTupleIter s.heap.objs.size l 0->(∀b o,s.heap.get? b=some o->h'.get? b=some o)->Q (.ref (s.heap.objs.size+1)) { s with heap:=h' }) :
 wpAny 'h' A (call (.type "enumerate") [.ref l]) Q E s:=by
 obtain⟨⟨c,dct,dt,sl⟩,hl,hc,n,hd⟩:=hL;replace hc:c = .type "tuple" := hc;replace hd:dt = .seq items n:=hd;subst hc hd;refine callType_new F.called_enumerate 'b' (F.typeCall_enumerate_1 _) (F.newCall_enumerate_1 _) (λobj=>F.args_object_init_2 obj _) F.entry_enumerate_new (Zac l items n dct sl) ⟨hl,?_⟩;have hz:(s.heap.push { cls := .type "tuple_iterator",data := .fields #[.ref l,.int 0 0] }).objs.size=s.heap.objs.size+1:=yg ..
 show _/\_;rw [hz]
 have he:IsEnum ((s.heap.push { cls := .type "tuple_iterator",data := .fields #[.ref l,.int 0 0] }).push { cls := .type "enumerate",data := .fields #[.none,.bool false,.ref s.heap.objs.size,rawInt 0,.none,.none] }) (s.heap.objs.size+1) s.heap.objs.size 0 .none:=by
  have:=jr (s.heap.push { cls := .type "tuple_iterator",data := .fields #[.ref l,.int 0 0] }) (o:={ cls := .type "enumerate",data := .fields #[.none,.bool false,.ref s.heap.objs.size,rawInt 0,.none,.none] }) rfl;rw [hz]at this;exact this
 exact⟨⟨_,he,rfl⟩,h _ he ⟨_,jh _ (jr _ rfl),rfl,rfl⟩ λb o x=>jh _ (jh _ x)⟩
end
end PySem
namespace L2
open PySem PySem.Spec PyProof.Rows
def ZiB(K:Frag)(n0:Nat)(l:Addr):It:=
 ⟨λi H=>∃xs x,SqT K H l xs/\xs[i]? = some x,λi H v H'=>∃x p,(∀xs,SqT K H l xs->xs[i]? = some x)/\H p=none/\v = .ref p/\H'=upd H p (.tup [.int ((n0+i:Nat):Int),x]),λi H=>∃xs,SqT K H l xs/\xs.length<=i⟩
theorem Ze1{A:Around}(hh:A.handled=none)(it l:Addr)(hne:l≠it)(its:Array Value)(n0:Nat) :
 Draws prog w A it [it,l] (n0+its.size) (λi v=>∃j,i=n0+j/\its[j]? = some v) (λi h=>∃j,i=n0+j/\h.IsTupleIter it l j/\h.IsTuple l its) where
 live:=λi h ⟨j,_,st,_⟩=>let⟨o,ho,_⟩:=st;⟨o,ho⟩
 frame:=λi h h' ⟨j,e,s1,s2⟩ hk=>⟨j,e,s1.at λo q=>hk it 'c' o q,s2.at λo q=>hk l 'c' o q⟩
 item:=λi s Q E hi st hQ=>by
  obtain⟨j,rfl,s1,s2⟩:=st;have hj:j<its.size:=by omega
  refine Zan s1 s2 (x:=its[j]) (by simp [hj]) λh' st' sb => ?_
  exact hQ _ h' s.toks ⟨j,rfl,by simp [hj]⟩ ⟨j+1,by omega,st',s2.extBut sb.extBut hne⟩ sb
 done:=λs Q E st hE=>by
  obtain⟨j,e,s1,s2⟩:=st;exact Je hh s1 s2 (by rw [show j=its.size by omega];simp) hE
theorem Zd8{A:Around}(hh:A.handled=none)(it l:Addr)(its:Array Value)(n j:Nat)(hj:its.size<=j) :
 Draws prog w A it [it,l] n (λ_ _=>False) (λi h=>i=n/\h.IsTupleIter it l j/\h.IsTuple l its) where
 live:=λi h ⟨_,st,_⟩=>let⟨o,ho,_⟩:=st;⟨o,ho⟩
 frame:=λi h h' ⟨e,s1,s2⟩ hk=>⟨e,s1.at λo q=>hk it 'c' o q,s2.at λo q=>hk l 'c' o q⟩
 item:=λi s Q E hi st hQ=>absurd st.1 'a'
 done:=λs Q E st hE=>Je hh st.2.1 st.2.2 (by simp [hj]) hE
theorem Zcp{K:Frag}{x1:Nat}(e it l:Addr)(hne:e≠it)(n0:Nat) :
 Turn P w K (.Tuple elts x1 tpos) (ZiB K n0 l) [e,it] e (λi h=>(∃old,IsEnum h e it ((n0+i:Nat):Int) old)/\h.IsTupleIter it l i) where
 mem:=by simp
 obj:=λi h st b hb=>by
  obtain⟨⟨old,he⟩,o,ho,hc,hd⟩:=st;simp at hb;rcases hb with rfl|rfl
  . exact ⟨_, he, fun v z => by
     have z':Data.fields _=Data.cell v:=z;cases z'⟩
  . exact⟨o,ho,λv z=>by rw [hd]at z;cases z⟩
 keep:=λi h h' st k=>by
  obtain⟨⟨old,he⟩,s1⟩:=st;exact⟨⟨old,k e 'c' _ he⟩,s1.at λo q=>k it 'c' o q⟩
 item:=by
  intro X hP hw hK hc i pins s σ H E I hf st hg;subst hP hw hK;obtain⟨⟨old,he⟩,st⟩:=st;obtain⟨xs,x,hq,hx⟩:=hg;obtain⟨its,rv,p,hz⟩:=I.tuple hq;obtain⟨u,hu,ru⟩:=rv.get hx;have hi:i<its.length:=(jt.mp hu).1;obtain⟨e0,e1,e2,e3,e4,e5⟩:=hf e 'c';obtain⟨f0,f1,f2,f3,f4,f5⟩:=hf it 'c'
  have hLe:l≠e:=by
   rintro rfl
   obtain⟨o,ho,hcl,_⟩:=p;have he':s.heap.get? l=some _:=he;rw [he']at ho;cases ho;exact absurd (show Value.type "enumerate" = Value.type "tuple" from hcl) 'b'
  have hLi:l≠it:=by
   rintro rfl
   obtain⟨o,ho,hcl,_⟩:=p;obtain⟨o',ho',hcl',_⟩:=id st;rw [ho]at ho';cases ho';rw [hcl]at hcl';exact absurd hcl' 'b'
  have D:=Ze1 (prog:=X.prog) (w:=X.w) (A:=X.A.in1) (I.ok.hd hc) it l hLi its.toArray n0;refine wpAny_pyNext_enum_itemD D he ⟨i,rfl,st,p⟩ (by simp;omega) hne (by simp [hne,jO hLe]) λy h' tk hP ho st' hT hsz hk => ?_
  obtain⟨j,ej,hy⟩:=hP;have ej':j=i:=by omega
  subst ej'
  have hyu:y=u:=by
   have:its[j]? = some y:=by simpa using hy
   rw [hu]at this;exact(jo this).symm
  subst hyu;refine⟨_,rfl,wpAny_letOwnedTupleGo_enum ho λh2 he2 hs2 => ?_⟩;have hs2:Heap.SameBut e h' h2:=hs2;have hTl:e<s.heap.objs.size:=jz he;obtain⟨j',ej2,st'',_⟩:=st';have ej3:j'=j+1:=by omega
  subst ej3;have hT2:h2.get? s.heap.objs.size=some { cls := .type "tuple",data := .seq #[.int ((n0+j:Nat):Int) tk,y] }:=(hs2.2 _ (yf hTl)).trans hT;have k2:∀b o,b≠e->b≠it->s.heap.get? b=some o->h2.get? b=some o:=λb o hb hb' q=>(hs2.2 b hb).trans (hk b o hb hb' q)
  have hTn:H s.heap.objs.size=none:=I.hok.fresh (jk _);have neT:∀b o,s.heap.get? b=some o->b≠s.heap.objs.size:=λb o q=>jQ (jz q)
  have I2:Inv X pins σ (upd H s.heap.objs.size (.tup [.int ((n0+j:Nat):Int),x])) { s with heap:=h2,toks:=tk+1 }:=by
   refine I.step (g':=s.gens) (d':=s.drawn) (ch:=[e,it]) (λb hb => ?_) (λb o _ _ hcb q _ => ?_) (λb o _ _ hcb q _ => ?_) (λb o hcb q n => ?_) (λb o hcb q => ?_) (λb xs q => ?_) (λb o v q => ?_) (λb ps q => ?_) (λm hm => ?_) (λb o q => ?_) I.bare
   . simp at hb
     rcases hb with rfl|rfl
     . exact⟨e3,e1,e4,e5⟩
     . exact⟨f3,f1,f4,f5⟩
   . simp at hcb
     exact k2 b o hcb.1 hcb.2 q
   . simp at hcb
     exact⟨o.slots,k2 b o hcb.1 hcb.2 q⟩
   . rw [Zc (neT b o q)]
     exact n
   . simp at hcb
     exact⟨o,k2 b o hcb.1 hcb.2 q⟩
   . rw [Zc (Zx q hTn)]
     exact q
   . rw [Zc (Zx q hTn)]
     exact q
   . exact⟨#[],by rw [Zc (Zx q hTn),q];simp⟩
   . obtain⟨o,es,ep,q,r⟩:=hm
     exact⟨o,es,ep,k2 _ o (jO e1) (jO f1) q,r⟩
   . by_cases hb:b=s.heap.objs.size
     . subst hb
       rw [Zi]at q;cases q;refine⟨by show 2<=sizeLine;decide,[.int ((n0+j:Nat):Int) tk,y],.cons ⟨_,rfl⟩ (.cons ru .nil),?_⟩;exact⟨_,hT2,rfl,⟨_,rfl⟩,rfl⟩
     . rw [Zc hb]at q
       have nn:∀(b:Addr)(o:HO),H b=some o->b≠e/\b≠it:=λb o q=>⟨λz=>(by rw [z,e0]at q;cases q),λz=>(by rw [z,f0]at q;cases q)⟩
       refine(I.hok b o q).stay (λd v hd q' => ?_) (λd q'=>by rw [Zc (Zx q' hTn)];exact q') λd xs q'=>by rw [Zc (Zx q' hTn)];exact q'
       rcases hd with rfl|hd
       . exact k2 d v (nn d o q).1 (nn d o q).2 q'
       . exact k2 d v (nn d _ hd).1 (nn d _ hd).2 q'
  have he3:IsEnum h2 e it ((n0+(j+1):Nat):Int) y:=by
   have:((n0+(j+1):Nat):Int)=((n0+j:Nat):Int)+1:=by push_cast;omega
   rw [this];exact he2
  refine⟨.ref s.heap.objs.size,_,I2,rfl,⟨x,s.heap.objs.size,λys hy=>by rw [I.tuple_inj hy hq];exact hx,hTn,rfl,rfl⟩,⟨⟨_,he3⟩,?_⟩,λb hb => ?_⟩
  . obtain⟨o,ho',r⟩:=st''
    exact⟨o,(hs2.2 it (jO hne)).trans ho',r⟩
  . simp at hb
    rcases hb with rfl|rfl
    . rw [Zc (jQ hTl)];exact e0
    . obtain⟨o,ho',_⟩:=st
      rw [Zc (neT _ o ho')];exact f0
 done:=by
  intro X hP hw hK hc i pins s σ H E I hf st hg;subst hP hw hK;obtain⟨⟨old,he⟩,st⟩:=st;obtain⟨xs,hq,hx⟩:=hg;obtain⟨its,rv,p,hz⟩:=I.tuple hq;have hl:=rv.length;obtain⟨f0,f1,f2,f3,f4,f5⟩:=hf it 'c';have D:=Zd8 (prog:=X.prog) (w:=X.w) (A:=X.A.in1) (I.ok.hd hc) it l its.toArray (n0+i) i (by simp;omega);exact wpAny_pyNext_enum_endD D he ⟨rfl,st,p⟩ λh' eb=>⟨rfl,I.turned (t':=s.toks) (λb o hb q=>eb b o hb q) f0 f1 f3 f4 f5⟩
 self:=λ_ _ _ _ _ st h=>by
  obtain⟨⟨old,he⟩,_⟩:=st;exact wpAny_pyIter_enum he h
section
variable{X:Cx}{elts:List Expr}{x1:Nat}{tpos:Pos}
def Zf6(K:Frag)(ta:TA):TI:=λσ H R=>ta σ H λvs H1=>∃l xs,vs=[.ref l]/\SqT K H1 l xs/\R (ZiB K 0 l) H1
theorem Ze2 {K:Frag} {a:Expr} (hg:Gl X "enumerate") (hm:X.mg "enumerate" = none) (ha:PE X a ta) (hs:starEach [a] X.env=[(false,eval a X.env)]:=by rfl) (hK:X.K=K:=by rfl) :
 PI X (.Tuple elts x1 tpos) (.Call (.Name "enumerate" po) [a] [] pos) (Zf6 K (Zy ta tNil)):=by
 subst hK;intro pins s σ H R I h;refine Call_ (Xb I hg hm boot_enumerate (qp (thn ((Xc ha X5 hs) pos pins s σ H _ I h) λus s1 ⟨vs,H1,I1,r1,q1⟩ => ?_) (by rw [hs];rfl) (by rfl)));obtain⟨l,xs,ev,hq,q⟩:=q1;subst ev;obtain⟨w1,rfl,rx⟩:=YF r1;cases rx;obtain⟨its,rv,pl,hz⟩:=I1.tuple hq;refine Zah pl λh' he st k => ?_
 refine wpAny_pyIter_enum he ?_;have I3:Inv X pins σ H1 { s1 with heap:=h' }:=I1.kept (t':=s1.toks) k;refine⟨s1.heap.objs.size+1,[s1.heap.objs.size+1,s1.heap.objs.size],_,_,H1,rfl,I3,Zcp (s1.heap.objs.size+1) s1.heap.objs.size l (Nat.succ_ne_self _) 0,⟨⟨_,he⟩,st⟩,λb hb => ?_,q⟩
 have hb':s1.heap.objs.size<=b:=by
  simp at hb;rcases hb with rfl|rfl
  . exact Nat.le_succ _
  . exact jk _
 exact I1.fpOk hb' (I1.hok.fresh hb')
end
end L2
namespace DL
open PySem PySem.Spec L2
section
variable{cA:Kn}{G:Cn}{ow owB owC:List Nat}
def Vm:D->D->Option D
 | .lst a,.lst b=>addX (.lst a) (.lst b)
 |_,_=>none
theorem ZjQ(ha:VE G ow ta .cl a)(hb:VE G ow tb .cl b):VF G ow (tOp (VV G.1.K) ta tb) (eOp Vm a b):=λH0 av A σ H δ E d e Q k=>by
 obtain⟨x,y,ex,ey,ed⟩:=Uw e;unfold Vm at ed
 split at ed
 . rename_i xs ys
   dsimp only [addX]at ed
   by_cases hz:xs.length+ys.length<=sizeLine
   . rw [je hz]at ed
     cases ed;refine ha H0 av A σ H δ E _ ex _ λv H1 s1 r1=>hb H0 av A σ H1 δ (E.mono s1) _ ey _ λw H2 s2 r2 => ?_
     obtain⟨a1,vs1,rfl,na,rd,l1⟩:=r1;obtain⟨a2,vs2,rfl,nb,rd2,l2⟩:=r2;refine .inr (.inr ⟨a1,a2,vs1,vs2,rfl,rfl,s2.seq rd,rd2,by rw [<-l1.length,<-l2.length];exact hz,λp hp=>k p _ _ H2 (s1.trans s2) hp ((l1.same s2).append l2) rfl⟩)
   . rw [jg hz]at ed;cases ed
 . cases ed
end
variable{cA:Kn}
end DL
namespace L2
open PySem PySem.Spec PyProof.Rows
section
variable{prog:Program}{w:World}{A:Around}{E:Value->Shared->Prop}{s:Shared}{d it:Addr}{es:Array DictEntry}{ep i:Nat}{o:Obj}
theorem rawIter {Q:Value->Shared->Prop} (hs:(d == sysModules)=false) (g:s.heap.get? d=some o) (x:o.ExactDict) (q:o.data = .dict es ep)
 (k:Q (.ref s.heap.objs.size) { s with heap:=s.heap.push { cls := .type "dict_keyiterator",data := .fields #[.ref d,.int 0 0,.int es.size 0,.int ep 0] } }):wpAny 'h' A (pyIter (.ref d)) Q E s:=by
 have T:s.TypeIs (.ref d) "dict" := ⟨o,g,x.1⟩
 refine wpAny_pyIter_slot T PySem.F.slot_dict_iter (qc PySem.F.slot_dict_iter T PySem.F.entry_dict_iter ?_ (PySem.F.args_dict_iter_1 _));unfold Builtin.«dict.__iter__» Builtin.Dict.dictSlotNone;refine jb (jb (yB T (jf ?_)));show wpAny _ _ (Builtin.Dict.showsAll d >>= λ_=>_) _ _ s;unfold Builtin.Dict.showsAll;rw [hs];refine jb (jf (jb (qg g q (jb (qY g q ?_)))))
 exact jb (j4 (jf ⟨_,rfl, "dict_keyiterator",_,⟨_,jr _ rfl,rfl⟩,PySem.F.slot_dict_keyiterator_next.lookup,by simpa [rawInt]using k⟩))
theorem rawNext {Q:Option Value->Shared->Prop} (t:s.heap.IsKeyIter it d i es.size ep) (g:s.heap.get? d=some o) (q:o.data = .dict es ep) (hlt:i<es.size)
 (k:∀h',h'.IsKeyIter it d (i+1) es.size ep->Heap.SameBut it s.heap h'->Q (some es[i].key) { s with heap:=h' }):wpAny 'h' A (pyNext (.ref it)) Q E s:=by
 obtain⟨oi,gi,ci,qi⟩:=id t;have own:Builtin.Dict_items.ownsTuple "dict_keyiterator" = false:=by decide
 unfold pyNext;refine jb (yA (j3 (name:=Str.ofString "__next__") t.typeIs q9 (qc q9 t.typeIs PySem.F.entry_dict_keyiterator_next ?_ (PySem.F.args_dict_keyiterator_next_1 _))));refine jb (jf (jb (jb (jb (yt t.typeIs (jf (jb (yX gi qi ?_))))))))
 simp only [own,qM,qP];show wpAny _ _ (if(Value.ref d == Value.none)=true then _ else _) _ _ s;rw [jg (λz=>nomatch z)];refine jb (jf (jb (qg g q ?_)));rw [jg 'c'];refine jb (jf (jb (qY g q ?_)));rw [jg 'c'];refine jf ?_;have h0:¬((i:Int)<0):=by omega
 simp only [h0,qP,j0,yb hlt];refine jb (jb (yt t.typeIs (jf (jb (wpAny_isOneOf_keyiter t.typeIs ?_)))));show wpAny _ _ (setField (.ref it) 1 (rawInt ((i:Int)+1)) >>= λ_=>_) _ _ s;refine jb (yG gi qi 'c' ?_)
 have t':(s.heap.update it (Obj.mapFields (·.setIfInBounds 1 (rawInt ((i:Int)+1))))).IsKeyIter it d (i+1) es.size ep:=
  ⟨_,yh _ gi (Obj.isFreed_of_fields (yw qi _)),(Obj.cls_mapFields ..).trans ci,by rw [yw qi];simp [rawInt]⟩
 refine jb (yj (jb (wpAny_isOneOf_keyiter (s:={ s with heap:=s.heap.update it (Obj.mapFields (·.setIfInBounds 1 (rawInt ((i:Int)+1)))) }) t'.typeIs ?_)));exact jf (jf ⟨_,rfl,jf (k _ t' (j9 ..))⟩)
theorem rawEnd {Q:Option Value->Shared->Prop} (hh:A.handled=none) (t:s.heap.IsKeyIter it d i es.size ep) (g:s.heap.get? d=some o) (q:o.data = .dict es ep) (hge:es.size<=i)
 (k:∀h',Heap.ExtBut it s.heap h'->Q none { s with heap:=h' }):wpAny 'h' A (pyNext (.ref it)) Q E s:=by
 obtain⟨oi,gi,ci,qi⟩:=id t;have own:Builtin.Dict_items.ownsTuple "dict_keyiterator" = false:=by decide
 unfold pyNext;refine jb (yA (j3 (name:=Str.ofString "__next__") t.typeIs q9 (qc q9 t.typeIs PySem.F.entry_dict_keyiterator_next ?_ (PySem.F.args_dict_keyiterator_next_1 _))));refine jb (jf (jb (jb (jb (yt t.typeIs (jf (jb (yX gi qi ?_))))))))
 simp only [own,qM,qP];show wpAny _ _ (if(Value.ref d == Value.none)=true then _ else _) _ _ s;rw [jg (λz=>nomatch z)];refine jb (jf (jb (qg g q ?_)));rw [jg 'c'];refine jb (jf (jb (qY g q ?_)));rw [jg 'c'];refine jf ?_;have h0:¬((i:Int)<0):=by omega
 simp only [h0,qP,j0,uF hge];refine jb (jb (yt t.typeIs (jf ?_)));show wpAny _ _ (setField (.ref it) 0 .none >>= λ_=>_) _ _ s;refine jb (yG gi qi 'c' ?_);show wpAny _ _ (newExc (.type "StopIteration") [] >>= λ_=>_) _ _ _;refine jb ?_;simp only [newExc,newTuple]
 refine jb (j4 ?_ (by size_fits));refine jb (m:=firstArgMember _ _) (wpAny_of_eq (a:=Value.none) (by first|rfl|(simp only [firstArgMember];rfl)) (j4 ?_ (by size_fits)));simp only [raiseNew];refine jb (wpAny_handled ?_);rw [show A.in1.handled=none from hh];refine jb (jf (wpAny_throw ?_));refine jb (yL (T:="StopIteration") (b:=true) ⟨_,jr _ rfl,rfl⟩ isSubtype_stop ?_)
 exact jf (k _ (((j9 ..).extBut.push _).push _))
end
theorem HOk.swap{P:Program}{w:World}{H:Hp}{h:Heap}{d:Addr}{u u':HO}(ok:HOk P w H h)(e:H d=some u)(n1:∀xs,u ≠ .tup xs)(n2:∀y,u ≠ .own y)(n4:∀ob q,u ≠ .frz ob (.cod q))(new:ObjOk P w (upd H d u') h d u'):HOk P w (upd H d u') h:=λb v q=>by
 by_cases hb:b=d
 . subst hb;rw [Zi]at q;cases q;exact new
 . rw [Zc hb]at q
   refine(ok b v q).stay (λ_ _ _ r=>r) (λc r => ?_) (λc xs r => ?_) λc ob y r => ?_
   . rw [Zc λz=>by subst z;rw [e]at r;exact n2 _ (jo r)];exact r
   . rw [Zc λz=>by subst z;rw [e]at r;exact n1 _ (jo r)];exact r
   . rw [Zc λz=>by subst z;rw [e]at r;exact n4 _ _ (jo r)];exact r
theorem Inv.swap {X:Cx} {pins:List 'g'} {σ:St} {H:Hp} {s:Shared} {d:Addr} {u u':HO} (I:Inv X pins σ H s) (e:H d=some u) (n1:∀xs,u ≠ .tup xs) (n2:∀y,u ≠ .own y) (n3:∀ps,u ≠ .tbl ps) (n4:∀ob q,u ≠ .frz ob (.cod q))
 (nf:∀o v,X.H₀ d≠some (.frz o v)) (new:ObjOk X.prog X.w (upd H d u') s.heap d u'):Inv X pins σ (upd H d u') s:=by
 have nd:∀b,H b=none->upd H d u' b=none:=λb z=>by
  rw [Zc λy=>by subst y;rw [e]at z;cases z];exact z
 refine⟨I.ok,I.os,I.bare,⟨I.base.keep,I.base.slot,λb o q n hx=>nd b (I.base.free b o q n hx),I.base.there,λb xs q => ?_,λb o v q => ?_,λb ps q => ?_⟩,I.loc,I.cell,nd _ I.free,λx c q=>nd c (I.freeC x c q),λp hp => ?_,I.hok.swap e n1 n2 n4 new,I.len,λq hq=>by rw [Zc λy=>by have:=I.fzs q hq;rw [y,e]at this;exact n4 _ _ (jo this)];exact I.fzs q hq⟩
 . have:=I.base.tups b xs q
   rw [Zc λy=>by subst y;rw [e]at this;exact n1 _ (jo this)];exact this
 . rw [Zc λy=>by subst y;exact nf _ _ q];exact I.base.frzs b o v q
 . obtain⟨more,this⟩:=I.base.tbls b ps q
   exact⟨more,by rw [Zc λy=>by subst y;rw [e]at this;exact n3 _ (jo this)];exact this⟩
 . obtain⟨a1,a2,a3⟩:=I.pin p hp
   exact⟨a1,nd _ a2,a3⟩
def Itk(d:Addr)(o:Obj)(kvs:List (List Key×V)):It:=⟨λi H=>H d=some (.frz o 'k')/\i<kvs.length,λi H v H'=>H'=H/\∃ka k x,kvs[i]? = some (k,x)/\v = .ref ka/\H ka=some (.tup (k.map kV)),λi H=>H d=some (.frz o 'k')/\kvs.length<=i⟩
theorem Zf7{H:Hp}{h:Heap}{d:Addr}{o:Obj}{kvs:List (List Key×V)}(ok:HOk P w H h)(e:H d=some (.frz o 'k')):h.get? d=some o/\∃es ep,o.ExactDict/\(d == sysModules)=false/\o.data = .dict es ep/\es.size=kvs.length /\
 ∀i(hi:i<es.size),∃ka k x,kvs[i]? = some (k,x)/\es[i].key = .ref ka/\H ka=some (.tup (k.map kV)):=by
 obtain⟨g,z,y,xs,r,ob,es,ep,g2,x,q,he,_⟩:=(show ObjOk P w H h d (.frz o 'k')from ok d _ e)
 rw [g]at g2;cases g2;have hl:xs.length=kvs.length:=(qI r).symm;have hz:es.size=kvs.length:=by rw [<-hl,<-jP,he,ja]
 refine⟨g,es,ep,x,y,q,hz,λi hi => ?_⟩;have hx:i<xs.length:=by omega
 have hk:i<kvs.length:=by omega
 have key:∀{l:List (List Key×V)}{m:List (List Key×Addr×Value)}{i:Nat},Paired (λ(p:List Key×V) (q:List Key×Addr×Value)=>p.1=q.1/\H q.2.1=some (.tup (p.1.map kV))/\RelV p.2 q.2.2) l m->(h1:i<l.length)->(h2:i<m.length)->l[i].1=m[i].1/\H m[i].2.1=some (.tup (l[i].1.map kV)):=λ{l m i} r=>by
  induction r generalizing i with
  |nil=>intro h1;exact absurd h1 (Nat.not_lt_zero _)
  |cons a _ ih=>
   intro h1 h2;cases i with
   |zero=>exact⟨a.1,a.2.1⟩
   |succ i=>exact ih (by simpa using h1) (by simpa using h2)
 refine⟨xs[i].2.1,kvs[i].1,kvs[i].2,jd hk,?_,(key r hk hx).2⟩;have:es.toList[i]'(by rw [jP];exact hi)=entryOfKey (tupleKind (ZT P w)) xs[i]:=by simp [he]
 rw [<-yz,this];rfl
theorem Zd9{K:Frag}(it d:Addr)(o:Obj)(es:Array DictEntry)(ep:Nat)(kvs:List (List Key×V))(hq:o.data = .dict es ep)(hz:es.size=kvs.length):Turn P w K tg (Itk d o kvs) [it] it (λi h=>h.IsKeyIter it d i es.size ep) where
 mem:=by simp
 obj:=λi h st b hb=>by
  have e:b=it:=by simpa using hb
  subst e;obtain⟨o,e,c,q⟩:=st;exact⟨o,e,λv z=>by rw [q]at z;cases z⟩
 keep:=λi h h' st k=>by
  obtain⟨o,e,r⟩:=st;exact⟨o,k it 'c' o e,r⟩
 item:=by
  intro X hP hw hK hc i pins s σ H E I hf st hg;subst hP hw hK;obtain⟨f0,f1,f2,f3,f4,f5⟩:=hf it 'c';obtain⟨hd,hi⟩:H d=some (.frz o 'k')/\i<kvs.length:=hg;obtain⟨g,es',ep',x,_,q,_,all⟩:=Zf7 I.hok hd;rw [hq]at q;cases q;have hi':i<es.size:=by omega
  obtain⟨ka,k,y,e1,e2,e3⟩:=all i hi';refine rawNext st g hq hi' λh' st' sb => ?_
  rw [e2];have I1:Inv X pins σ H { s with heap:=h' }:=I.turned (t':=s.toks) (λb o hb e=>(sb.2 b hb).trans e) f0 f1 f3 f4 f5;exact⟨_,rfl,letGo_keyiter st' ⟨.ref ka,H,I1,rfl,⟨rfl,ka,k,y,e1,rfl,e3⟩,st',λb hb=>(hf b hb).1⟩⟩
 done:=by
  intro X hP hw hK hc i pins s σ H E I hf st hg;subst hP hw hK;obtain⟨f0,f1,f2,f3,f4,f5⟩:=hf it 'c';obtain⟨hd,hi⟩:H d=some (.frz o 'k')/\kvs.length<=i:=hg;obtain⟨g,es',ep',x,_,q,_,all⟩:=Zf7 I.hok hd;exact rawEnd (I.ok.hd hc) st g hq 'a' λh' eb=>⟨rfl,I.turned (t':=s.toks) (λb o hb e=>eb b o hb e) f0 f1 f3 f4 f5⟩
 self:=λ_ i _ _ _ st h=>wpAny_pyIter_keyiter st h
def ZiC(NF:Addr->Prop)(tl:TE):TI:=λσ H R=>tl σ H λx H1=>∃d kvs,x = .ref d/\H1 d=some 'k'/\∀o,NF d->R (Itk d o kvs) (upd H1 d (.frz o 'k'))
section
variable{X:Cx}{tg:Expr}
theorem Zhn{NF:Addr->Prop}(hl:PE X l tl)(hN:∀d,(∀o v,X.H₀ d≠some (.frz o v))->NF d):PI X tg l (ZiC NF tl):=by
 intro pins s σ H R I h;refine thn (hl pins s σ H _ I h) λv s1 ⟨x,H1,I1,r1,q1⟩ => ?_
 obtain⟨d,kvs,e,hd,q⟩:=q1;subst e;cases r1
 have nf:∀o v,X.H₀ d≠some (.frz o v):=λo v z=>by
  have:=I1.base.frzs d o v z;rw [hd]at this;cases this
 obtain⟨o,es,ep,g,x,hq,hm,hz⟩:∃o es ep,s1.heap.get? d=some o/\o.ExactDict/\o.data = .dict es ep/\(d == sysModules)=false/\es.size=kvs.length:=by
  obtain⟨z,y,xs,r,ob,es,ep,g2,x,q,he,_⟩:=(show ObjOk X.prog X.w H1 s1.heap d (.dT kvs)from I1.hok d _ hd)
  exact⟨ob,es,ep,g2,x,q,y,by rw [<-jP,he,ja];exact(qI r).symm⟩
 have I2:Inv X pins σ (upd H1 d (.frz o 'k')) s1:=I1.swap hd 'l' 'l' 'l' (λ_ _ z=>by cases z) nf ⟨g,(I1.hok d _ hd).stay (λ_ _ _ r=>r) (λc r=>by rw [Zc λz=>by subst z;rw [hd]at r;cases r];exact r) (λc xs r=>by rw [Zc λz=>by subst z;rw [hd]at r;cases r];exact r) λc ob y r=>by rw [Zc λz=>by subst z;rw [hd]at r;cases r];exact r⟩
 refine rawIter hm g x hq ?_;refine⟨s1.heap.objs.size,[s1.heap.objs.size],_,_,_,rfl,I2.kept (t':=s1.toks) λb o e=>jh _ e,Zd9 _ d o es ep kvs hq hz,⟨_,jr _ rfl,rfl,rfl⟩,λb hb => ?_,q o (hN d nf)⟩;have e:b=s1.heap.objs.size:=by simpa using hb
 subst e;exact I2.fpOk (jk _) (I2.hok.fresh (jk _))
end
end L2
namespace DL
open PySem PySem.Spec L2
section
variable{G:Cn}{ow ow1 owB owC:List Nat}{i:Nat}{H0 H H':Hp}{av:Addr->Prop}{A A':Nat->Option Addr}{σ σ':L2.St}{δ δ':Env}{a:Addr}
theorem Ze3:ZmJ G ow tDNewT (eC (.dtt [] [])):=λH0 av A σ H δ E d e Q k=>by
 intro p hp;have:(some (D.dtt [] []):Option D)=some d:=e;exact k p [] [] [] H 'q' hp rfl .nil (jo this).symm
end
end DL
namespace STb
open PySem PySem.SetTable
def it(t:SetTable):Nat->Probe->Probe
 |0,p=>p
 |k+1,p=>it t k (t.advance p)
def rs(t:SetTable)(x:Nat×Nat):Probe:={ j:=x.1,more:=runEnd t.mask x.1-x.1,i:=x.1,perturb:=x.2,dummy:=none }
def stp(m:Nat)(acc:Option (Array (Option Nat)×Nat))(h:Int):Option (Array (Option Nat)×Nat):=do
 let(owner,k) <-acc
 let j <-layClean.free m owner (turns m) (bits h % (m+1)) (bits h)
 pure (owner.setIfInBounds j (some k),k+1)
end STb
namespace L2
open PySem PySem.Spec
theorem fsm {N P:List Str} {sc:Scope} (a:sc.kind = .function:=by rfl) (b:sc.isCoroutine=false:=by rfl) (c:sc.isGenerator=false:=by rfl) (d:N.Nodup:=by decide +kernel) (e:N.take P.length=P:=by rfl)
 (f:∀x∈P,sc.names.lookup x=some .local\/sc.names.lookup x=some .cell:=by decide +kernel) (g:∀y∈sc.names,y.2 ≠ .free:=by decide +kernel):FnScope N P sc:=⟨a,b,c,d,e,f,g⟩
structure Df(K:Frag)(x q:Str)(st:Stmt)(a:Addr)(fd:FuncData)(ps:List Str):Prop where
 f:FunX K x q st a fd
 b:Binds K fd ps []
 k:keepIn K (.ref a)=true
structure Dg(K:Frag)(mg:Str->Option Value)(x:Str)(st:Stmt)(a:Addr)(fd:FuncData)(ps:List Str):Prop extends Df K x x st a fd ps where
 g:mg x=some (.ref a)
structure Fg(K:Frag)(x:Str)(st:Stmt)(f:Addr)(fd:FuncData):Prop where
 a:nsIn K mainGlobals x=some (some (.ref f))
 l:Fun K x x st f fd
variable{K:Frag}{h:Heap}{mg:Str->Option Value}{x q:Str}{st:Stmt}{f:Addr}{fd:FuncData}{ps:List Str}
theorem Fun.df (F:Fun K x q st f fd) (b:∀(kV doc pm:Value)(an:Option Addr)(cdv ct:Value)(us:List Value),us.length=ps.length->bindArgs (fnOf x q (defArgs st) (defBody st) (defScope st) .none kV doc pm an cdv ct) ⟨us,[]⟩=pure (ps.zip us):=by
 intro _ _ _ _ _ _ us hl;rcases us with _|⟨_,_|⟨_,_|⟨_,_|⟨_,_|⟨_,_|⟨_,_|⟨_,_⟩⟩⟩⟩⟩⟩⟩<;>first|(exfalso;simp at hl;done)|rfl):Df K x q st f fd ps:=⟨F.x,F.binds b,F.kp⟩
theorem Fg.dg(F:Fg K x st f fd)(X:K.In h)(G:h.Ns mainGlobals mg)(D:Df K x x st f fd ps):Dg K mg x st f fd ps:=⟨D,mg_of X G F.a⟩
theorem Fg.of {oc:Value} {od an:Option Addr} {osl:Array (Option Value)} {kV doc pm cdv ct:Value} (a:nsIn K mainGlobals x=some (some (.ref f))) (l:K.lookup f=some ⟨oc,od,.func (fnOf x x (defArgs st) (defBody st) (defScope st) .none kV doc pm an cdv ct),osl⟩)
 (c:codeIn K cdv x=true) (k:keepIn K (.ref f)=true):Fg K x st f (fnOf x x (defArgs st) (defBody st) (defScope st) .none kV doc pm an cdv ct):=⟨a,fun_mk l c k⟩
end L2
namespace L2
open PySem PySem.Spec PyProof.Rows
structure CloScope(N ps fr:List Str)(sc:Scope):Prop where
 kind:sc.kind = .function
 co:sc.isCoroutine=false
 gen:sc.isGenerator=false
 nd:N.Nodup
 pre:N.take (ps++fr).length=ps++fr
 par:∀x∈ps,sc.names.lookup x=some .local
 frk:∀x∈fr,sc.names.lookup x=some .free
 all:∀y∈sc.names,y.2 ≠ .cell/\(y.2 = .free->y.1∈fr)
structure Caps(h:Heap)(cl:List (Str×Addr))(fr:List Str)(vc:List V):Prop where
 inj:∀x y c,cl.lookup x=some c->cl.lookup y=some c->x=y
 cell:∀x c,cl.lookup x=some c->∃v,h.IsCell c v
 get:∀(i:Nat)(x:Str),fr[i]? = some x->∃c u v,cl.lookup x=some c/\vc[i]? = some v/\RelV v u/\h.IsCell c (some u)
 len:vc.length=fr.length
def cxC(P:Program)(w:World)(K:Frag)(mg:Str->Option Value)(base:Heap)(N:List Str)(qual:Str)(scope:Scope)(f:Addr)(cd:Value)(cl:List (Str×Addr))(A:Around)(outer:List Env)(s:Shared)(H:Hp):Cx where
 prog:=P
 w:=w
 K:=K
 mg:=mg
 base:=base
 A:=A.deeper (PySem.W.envX qual scope s.heap.objs.size f cd cl)
 N:=N
 s₀:=s
 H₀:=H
 env:=PySem.W.envX qual scope s.heap.objs.size f cd cl
 outer:=outer
 stack:=PySem.W.envX qual scope s.heap.objs.size f cd cl::outer
 ex:=[]
 calm:=true
 fn:=λ_=>false
 pn:=[]
 xe:=λ_ _=>False
theorem ZaD{x:Str}{v:Value}:∀{l:List (Str×Value)},(l.map (·.1)).Nodup->(x,v)∈l->l.lookup x=some v
 | [],_,h=>by cases h
 |(y,w)::l,nd,h=>by
  rw [jp,j8]at nd;rcases jA.mp h with e|h
  . cases e
    simp [jS]
  . have hne:x≠y:=λe=>nd.1 (jE.mpr ⟨(x,v),h,e⟩)
    have hb:(x == y)=false:=yi.mpr hne;rw [jS,hb];exact ZaD nd.2 h
theorem ZcW:∀(ps:List Str)(us:List Value),((ps.zip us).map (·.1)).Sublist ps
 | [],_ => .slnil
 |_::_,[]=>List.nil_sublist _
 |x::ps,u::us=>(ZcW ps us).cons_cons x
theorem ZjR{ps:List Str}{us:List Value}{i:Nat}{x:Str}{u:Value}(nd:ps.Nodup)(h1:ps[i]? = some x)(h2:us[i]? = some u):(ps.zip us).reverse.lookup x=some u:=by
 refine ZaD ?_ (List.mem_reverse.mpr (jI (i:=i) ?_))
 . rw [List.map_reverse]
   refine List.pairwise_reverse.mpr (List.Pairwise.imp jO ?_);exact nd.sublist (ZcW ps us)
 . rw [List.getElem?_zip_eq_some]
   exact⟨h1,h2⟩
theorem Zho {K:Frag} {N ps fr:List Str} {scope:Scope} {cl:List (Str×Addr)} {A:Around} {outer:List Env} {s:Shared} {vs vc:List V} {h₁:Heap} {tk:Nat}
 (S:CloScope N ps fr scope) (C:Caps base cl fr vc) (hd:A.handled=none) (e0:Env0 P w K mg base A outer s H) (hl:vs.length=ps.length) (r:Vals vs us)
 (hns:h₁.Ns s.heap.objs.size (λx=>(ps.zip us).reverse.lookup x)) (hk:∀b o,s.heap.get? b=some o->h₁.get? b=some o) :
 Inv (cxC P w K mg base N qual scope f cd cl A outer s H) [] (start N (vs++vc)) H { s with heap:=h₁,toks:=tk }:=by
 have noA:∀b:Addr,b∉(cxC P w K mg base N qual scope f cd cl A outer s H).ex:=λb z=>absurd (show b∈([]:List Addr)from z) 'c'
 have hpl:(ps++fr).length<=N.length:=by have:=congrArg List.length S.pre;rw [jY]at this;omega
 have hvl:(vs++vc).length=(ps++fr).length:=by rw [jc,jc,hl,C.len]
 have cb:∀x c v,cl.lookup x=some c->base.IsCell c v->s.heap.IsCell c v/\H c=none:=λx c v e ⟨o,ho,hd⟩=>⟨⟨o,(e0.bs c o ho).1,hd⟩,(e0.bs c o ho).2⟩
 have ck:∀c v,s.heap.IsCell c v->h₁.IsCell c v:=λc v ⟨o,ho,hd⟩=>⟨o,hk _ _ ho,hd⟩
 refine⟨⟨e0.mod,S.kind,rfl,rfl,jk _,C.inj,λy hy => ?_,λy c h=>(by cases(show false=true from h)),λ_=>hd,Around.frames_deeper e0.frames,.inr ⟨rfl,rfl⟩,λb z=>absurd z (noA b),e0.bs,e0.bsz,λb _ _=>noA b,λb z=>absurd z (noA b),e0.funs,e0.frf,e0.tb⟩,
  rfl,e0.bare,Un.kept hk,⟨_,hns,λi y v h1 h2 h3 => ?_⟩,λy c h => ?_,e0.hok.fresh (jk _),λy c h => ?_,λp hp=>absurd (show p∈([]:List 'g')from hp) 'c',e0.hok.kept hk,?_,λq hq=>absurd (show q∈([]:List (Addr×Obj×Str))from hq) 'c'⟩
 . have hy:scope.names.lookup y=some .cell\/scope.names.lookup y=some .free:=hy
   rcases hy with hy|hy
   . exact absurd rfl (S.all _ (j6 hy)).1
   . obtain⟨i,hi⟩:=List.mem_iff_getElem?.mp ((S.all _ (j6 hy)).2 rfl)
     obtain⟨c,_,_,e,_⟩:=C.get i y hi;exact⟨c,e⟩
 . have h1:N[i]? = some y:=h1
   have hi:i<(vs++vc).length:=by
    unfold start at h2
    by_cases hi:i<(vs++vc).length
    . exact hi
    . rw [jG (by simpa using hi)]at h2
      rw [j5]at h2
      split at h2<;>cases h2
   have ha:(vs++vc)[i]? = some v:=by
    unfold start at h2;rw [jD (by simpa using hi),ji]at h2;cases e:(vs++vc)[i]? with
    |none=>rw [e]at h2;cases h2
    |some a=>rw [e]at h2;cases h2;rfl
   have hp:(ps++fr)[i]? = some y:=by
    rw [<-S.pre,uw 'a'];exact h1
   have ndP:(ps++fr).Nodup:=by rw [<-S.pre];exact S.nd.sublist (List.take_sublist _ _)
   by_cases hv:i<vs.length
   . rw [jD hv]at ha
     rw [jD 'a']at hp;obtain⟨u,hu,rv⟩:=r.get ha;exact⟨u,rv,.inl ⟨S.par y (jI hp),ZjR (ndP.sublist (List.sublist_append_left _ _)) hp hu⟩⟩
   . rw [jG 'a']at ha
     rw [jG 'a',<-hl]at hp;obtain⟨c,u,v',e1,e2,e3,e4⟩:=C.get _ y hp;rw [ha]at e2;cases e2;exact⟨u,e3,.inr ⟨.inr (S.frk y (jI hp)),c,e1,ck _ _ (cb y c _ e1 e4).1⟩⟩
 . obtain⟨v,hv⟩:=C.cell y c h
   exact⟨v,ck _ _ (cb y c v h hv).1⟩
 . obtain⟨v,hv⟩:=C.cell y c h
   exact(cb y c v h hv).2
 . unfold start
   show _=N.length;rw [jc,ja,jH];omega
theorem ZjS {K:Frag} {base:Heap} {k:Nat} {fo:Obj} {params:Arguments} {scope:Scope} {cl:List (Str×Addr)} {dV kV doc pm ct:Value} {N ps fr:List Str} {vc:List V} {sp:Sp}
 (hf:base.get? f=some fo) (hd:fo.data = .func (PySem.W.fnX name qual params body scope cl dV kV doc pm an (.ref c) ct)) (S:CloScope N ps fr scope) (C:Caps base cl fr vc)
 (len:∀vs H Q E,sp vs H Q E->vs.length=ps.length) (hcd:∀vs H Q E,sp vs H Q E->∃oc,H c=some (.frz oc (.cod qual)))
 (hbody:∀(A:Around)(outer:List Env)(s:Shared)(H:Hp)(vs:List V)(Q:VK)(E:XK),Room k (A.deeper (PySem.W.envX qual scope s.heap.objs.size f (.ref c) cl))->sp vs H Q E ->
   ∃t,PSs (cxC P w K mg base N qual scope f (.ref c) cl A outer s H) body t/\t { nx:=λ_ H'=>Q .non H',rt:=Q } (start N (vs++vc)) H) :
 FnOk P w K mg base CX0 (k+1) f (PySem.W.fnX name qual params body scope cl dV kV doc pm an (.ref c) ct) ps sp:=by
 refine⟨len,λA outer s H args us vs Q E hr e0 hb r hsp => ?_⟩;have hl:=len _ _ _ _ hsp;have lim:s.heap.NoLimit:=e0.mod.nolimit.keeps λb o e=>(e0.bs b o e).1
 obtain⟨oc,hoc⟩:=hcd _ _ _ _ hsp;have hc:s.heap.CodeRec (.ref c) qual:=(e0.hok c _ hoc).2;refine codeAny_call_def (fd:=PySem.W.fnX name qual params body scope cl dV kV doc pm an (.ref c) ct) (body:=body) (binds:=ps.zip us) hr.depth (e0.bs f fo hf).1 hd lim hc rfl hb (λx hx=>(S.all x hx).1) (λx hx=>S.par x.1 (ud hx).1) (λh₁ hns hk => ?_) S.co S.gen S.kind;obtain⟨t,ht,hq⟩:=hbody A outer s H vs Q E (hr.deeper _) hsp
 have I:Inv (cxC P w K mg base N qual scope f (.ref c) cl A outer s H) [] (start N (vs++vc)) H { s with heap:=h₁,toks:=s.toks+(ps.zip us).length }:=Zho S C hr.hd e0 hl r hns hk;refine qJ (ht [] _ (start N (vs++vc)) H _ I hq) (λfl s' hs => ?_) λe s' hs=>False.elim hs
 have fin:∀{σ':St}{H':Hp}{v:V}{u:Value},Inv (cxC P w K mg base N qual scope f (.ref c) cl A outer s H) [] σ' H' s'->RelV v u->Q v H'->CE outer P w H s Q u s':=
  λ{σ' H' v u} J rv q=>⟨v,H',J.os,J.bare,J.base,J.hok,rv,q⟩
 cases fl with
 |ret u=>
  obtain⟨v,σ',H',J,rv,q⟩:=hs;exact fin J rv q
 |next=>
  obtain⟨σ',H',J,q⟩:=hs;exact fin (v:=V.non) (u:=Value.none) J rfl q
 |brk=>
  obtain⟨_,_,_,q⟩:=hs;exact False.elim q
 |cont=>
  obtain⟨_,_,_,q⟩:=hs;exact False.elim q
def Zf8(i:Nat)(p c:Addr)(qual:Str)(sp:Sp)(t:TA):TE:=λσ H Q=>σ[i]? = some (some (.ref p))/\t σ H λvs H1=>(∃oc,H1 c=some (.frz oc (.cod qual)))->sp vs H1 Q E0
section
variable{X:Cx}{pins:List 'g'}{σ:St}{H:Hp}{s:Shared}
theorem Ze4 {i k:Nat} {x qual:Str} {fo:Obj} {e:Expr} {es:List Expr} (F:FnOk X.prog X.w X.K X.mg X.base CX0 k p fd ps sp) (hr:Room k X.A) (hfo:X.base.get? p=some fo) (hdat:fo.data = .func fd0) (hc0:X.H₀ c=some (.frz oc (.cod qual))) (hb:Binds X.K fd ps [])
 (hN:X.N[i]? = some x) (hv:Vis X.env.scope x) (ha:PA X (e::es) t)
 (hd:(x == ("__debug__" : Str))=false:=by decide) (hcd:(x == ("__classdict__" : Str))=false:=by decide)
 (he:starEach (e::es) X.env=(false,eval e X.env)::starEach es X.env:=by rfl) (hpl:(backTo pos (starEach es X.env)).any (·.1)=false:=by rfl) :
 PE X (.Call (.Name x pn) (e::es) [] pos) (Zf8 i p c qual sp t):=by
 intro pins s σ H Q I h;obtain⟨h0,h⟩:=h
 have fa:∀{σ:St}{H:Hp}{s:Shared},Inv X pins σ H s->PySem.W.FnAt p s.heap:=λJ=>by
  obtain⟨a,b,c,d⟩:=fo;dsimp only at hdat;subst hdat;exact⟨a,b,_,d,J.bk _ _ hfo⟩
 refine yv (thn (J8 hN hv hd hcd pins s σ H (λv H'=>v = .ref p/\H'=H) I ⟨_,h0,rfl,rfl⟩) λu s1 ⟨v,H1,I1,rv,e1,e2⟩ => ?_);subst e1 e2;cases rv;refine PySem.W.callWith_F (fa I1) (thn (ha pos pins s1 σ _ _ I1 h) λus s2 ⟨vs,H2,I2,r,q⟩=>⟨fa I2,?_⟩) he hpl;exact ZfN (dvs:=[]) F hr hb .nil Z2 I2 r (by rw [qj];exact q ⟨oc,I2.base.frzs _ _ _ hc0⟩)
def wide(h:Heap)(H:Hp)(fs:List Addr):Heap:=PySem.W.hideAll h (trk h H++fs)
theorem mem_trk{h:Heap}{H:Hp}{b:Addr}:b∈trk h H ↔ b<h.objs.size/\(H b).isSome=true:=by
 unfold trk;rw [qh,List.mem_range]
theorem Jj{h:Heap}{H:Hp}{fs:List Addr}{b:Addr}{o:Obj}(e:h.get? b=some o)(n:H b=none)(f:b∉fs):(wide h H fs).get? b=some o:=by
 refine PySem.W.hideAll_get _ e λz => ?_
 rcases jK.mp z with z|z
 . have:=(mem_trk.mp z).2
   rw [n]at this;cases this
 . exact f z
theorem Jk{h:Heap}{H:Hp}{fs:List Addr}{b:Addr}{o:Obj}(e:(wide h H fs).get? b=some o):h.get? b=some o/\H b=none/\b∉fs:=by
 have e1:=PySem.W.of_hideAll _ e
 have hn:b∉trk h H++fs:=λz=>by
  have:=PySem.W.hideAll_none (h:=h) _ z;unfold wide at e;rw [e]at this;cases this
 refine⟨e1,?_,λz=>hn (jw _ z)⟩;cases q:H b with
 |none=>rfl
 |some u=>exact absurd (j2 _ (mem_trk.mpr ⟨jz e1,by rw [q];rfl⟩)) hn
theorem Inv.base_wide(I:Inv X pins σ H s):∀b o,X.base.get? b=some o->(wide s.heap H (frs X.stack)).get? b=some o:=λb o e=>by
 obtain⟨h1,h2⟩:=I.bs b o e;refine Jj h1 h2 λz => ?_
 rcases jA.mp (I.stkSub b z)with q|q
 . have:=jz e
   rw [q]at this;exact absurd (jJ this (jL I.ok.bsz I.ok.above)) (qO _)
 . exact I.ok.nofr e q
theorem Za9{h base b2:Heap}:∀{l:List Env},(∀L∈frs l,b2.get? L=none)->h.FunFrames base l->h.FunFrames b2 l
 | [],_,_=>trivial
 |env::r,hn,hl=>by
  obtain⟨hk,⟨L,o,hf,_,ho,hd⟩,hr⟩:=hl;have hL:L∈frs (env::r):=by unfold frs;rw [yF,hf];exact jj
  refine⟨hk,⟨L,o,hf,hn L hL,ho,hd⟩,Za9 (λb hb=>hn b ?_) hr⟩;unfold frs at hb ⊢;rw [yF,hf];exact jq _ hb
theorem Mod.keeps{K:Frag}{mg:Str->Option Value}{b1 b2:Heap}(M:Mod K mg b1)(k:∀b o,b1.get? b=some o->b2.get? b=some o):Mod K mg b2:=
 ⟨M.kin.keeps k,M.glob.keeps k,let⟨mb,h1,h2⟩:=M.blt;⟨mb,h1.keeps k,h2⟩,M.nolimit.keeps k⟩
theorem Inv.env0W(I:Inv X pins σ H s):Env0 X.prog X.w X.K X.mg (wide s.heap H (frs X.stack)) X.A X.stack s H:=
 ⟨I.ok.frames,I.ok.mod.keeps I.base_wide,λb o e=>⟨(Jk e).1,(Jk e).2.1⟩,Nat.le_of_eq (PySem.W.hideAll_size _ _),Za9 (λL hL=>by
   cases q:(wide s.heap H (frs X.stack)).get? L with
   |none=>rfl
   |some o=>exact absurd hL (Jk q).2.2) I.stack,I.stkFree,I.hok,I.bare,I.tabs⟩
def Zf9(sp:List V->Sp)(c:Addr)(oc:Obj)(qual:Str)(js:List Nat)(t:TA):TE:=λσ H Q=>∃vc:List V,vc.length=js.length/\(∀i j:Nat,js[i]? = some j->∃v,σ[j]? = some (some v)/\vc[i]? = some v)/\t σ H λvs H1=>H1 c=some (.frz oc (.cod qual))->sp vc vs H1 Q E0
theorem Ze5 {k:Nat} {x qual:Str} {f p c:Addr} {fo oc:Obj} {ps fr:List Str} {cl:List (Str×Addr)} {sp:List V->Sp} {js:List Nat} {e:Expr} {es:List Expr}
 (F:∀(base:Heap)(vc:List V),base.get? p=some fo->Caps base cl fr vc->FnOk X.prog X.w X.K X.mg base CX0 k f fd ps (sp vc)) (hr:Room k X.A) (hp:(p,fo)∈X.pn) (hz:(c,oc,qual)∈X.fz) (hfn:∀y,X.fn y=true)
 (hci:∀x y c,cl.lookup x=some c->cl.lookup y=some c->x=y) (hce:∀q∈cl,X.env.cells.lookup q.1=some q.2)
 (hjs:∀(i:Nat)(y:Str),fr[i]? = some y->∃j c,js[i]? = some j/\X.N[j]? = some y/\(X.env.kindOf y=some .cell\/X.env.kindOf y=some .free)/\Vis X.env.scope y/\cl.lookup y=some c) (hjl:js.length=fr.length)
 (hg:Gl X x) (hm:X.mg x=some (.ref f)) (hk:keepIn X.K (.ref f)=true) (hb:Binds X.K fd ps []) (ha:PA X (e::es) t) (hdb:(x == ("__debug__" : Str))=false:=by decide)
 (he:starEach (e::es) X.env=(false,eval e X.env)::starEach es X.env:=by rfl) (hpl:(backTo pos (starEach es X.env)).any (·.1)=false:=by rfl) :
 PE X (.Call (.Name x pn) (e::es) [] pos) (Zf9 sp c oc qual js t):=by
 intro pins s σ H Q I h;obtain⟨vc,hvl,hvs,h⟩:=h;refine yv (J9 I hg hm ?_ hdb);refine PySem.W.callWith_K (h₀:=X.base) I.ok.mod.kin hk (thn (ha pos pins s σ H _ I h) λus s1 ⟨vs,H1,I1,r,q⟩=>⟨I1.kIn,?_⟩) he hpl;have hpin:=I1.pin (p,fo) (j2 _ hp)
 have nfs:p∉frs X.stack:=λz=>by
  rcases jA.mp (I1.stkSub p z)with q|q
  . exact hpin.2.2.1 q
  . exact hpin.2.2.2.1 q
 have cellW:∀y c v,X.env.cells.lookup y=some c->s1.heap.IsCell c v->(wide s1.heap H1 (frs X.stack)).IsCell c v:=λy c v hc ⟨o,ho,hd⟩=>by
  refine⟨o,Jj ho (I1.freeC y c hc) λz => ?_,hd⟩;rcases jA.mp (I1.stkSub c z)with q|q
  . exact I1.cne y c hc q
  . obtain⟨_,o',ho',_⟩:=I1.ok.funs.mem q
    exact absurd (jJ (jz ho') (I1.ok.cab y c (hfn y) hc)) (qO _)
 have C:Caps (wide s1.heap H1 (frs X.stack)) cl fr vc:=by
  refine⟨hci,λy c hc => ?_,λi y hy => ?_,hvl.trans hjl⟩
  . have hc2:=hce (y,c) (j6 hc)
    obtain⟨v,hv⟩:=I1.cell y c hc2;exact⟨v,cellW y c v hc2 hv⟩
  . obtain⟨j,c,e1,e2,e3,e4,e5⟩:=hjs i y hy
    obtain⟨v,h1,h2⟩:=hvs i j e1;have hc2:=hce (y,c) (j6 e5);obtain⟨m,_,hl⟩:=I1.loc;obtain⟨u,rv,lk⟩:=hl j y v e2 h1 e4;rcases lk with⟨k1,_⟩|⟨_,c',hc',hcell⟩
    . rcases e3 with z|z<;>(rw [k1]at z;cases z)
    . have hc2':X.env.cells.lookup y=some c:=hc2
      rw [hc']at hc2';cases hc2';exact⟨_,u,v,e5,h2,rv,cellW y _ _ hc' hcell⟩
 have q:=q (I1.fzs _ hz);have FF:=F (wide s1.heap H1 (frs X.stack)) vc (Jj hpin.1 hpin.2.1 nfs) C;have hl:us.length=ps.length:=by rw [<-r.length];exact FF.len _ _ _ _ q
 have hb2:=hb s1 us I1.kIn (by rw [qj];exact hl);rw [qj]at hb2;refine wpAny_call (codeAny_mono (FF.run X.A X.stack s1 H1 ⟨us,[]⟩ us vs Q E0 hr I1.env0W hb2 r q) λr s' hq => ?_);cases r with
 |error e=>exact False.elim hq
 |ok fl=>
  cases fl with
  |ret u=>exact I1.after hq
  |next=>exact False.elim hq
  |brk=>exact False.elim hq
  |cont=>exact False.elim hq
abbrev Cx.pinC(X:Cx)(l:List 'g')(z:List (Addr×Obj×Str)):Cx:={ X with pn:=l++X.pn,fz:=z++X.fz }
theorem Cx.Ok.pinC{X:Cx}(ok:X.Ok)(l:List 'g')(z:List (Addr×Obj×Str)):(X.pinC l z).Ok:=
 ⟨ok.mod,ok.kind,ok.glob,ok.blt,ok.above,ok.inj,ok.has,ok.cab,ok.hd,ok.frames,ok.stk,ok.exf,ok.bs,ok.bsz,ok.noex,ok.exfs,ok.funs,ok.frf,ok.tb⟩
theorem Cx.Ok.unpinC{X:Cx}{l:List 'g'}{z:List (Addr×Obj×Str)}(ok:(X.pinC l z).Ok):X.Ok:=
 ⟨ok.mod,ok.kind,ok.glob,ok.blt,ok.above,ok.inj,ok.has,ok.cab,ok.hd,ok.frames,ok.stk,ok.exf,ok.bs,ok.bsz,ok.noex,ok.exfs,ok.funs,ok.frf,ok.tb⟩
theorem Inv.pinC{l:List 'g'}{z:List (Addr×Obj×Str)}(I:Inv X (l++pins) σ H s)(hz:∀q∈z,H q.1=some (.frz q.2.1 (.cod q.2.2))):Inv (X.pinC l z) pins σ H s:=
 ⟨I.ok.pinC l z,I.os,I.bare,I.base,I.loc,I.cell,I.free,I.freeC,λp hp=>I.pin p (by
   have hp:p∈(l++X.pn)++pins:=hp;simp only [jK]at hp ⊢;rcases hp with(z|z)|z
   . exact .inr (.inl z)
   . exact .inl z
   . exact .inr (.inr z)),I.hok,I.len,λq hq=>(jK.mp hq).elim (hz q) (I.fzs q)⟩
theorem Inv.unpinC{l:List 'g'}{z:List (Addr×Obj×Str)}(I:Inv (X.pinC l z) pins σ H s):Inv X pins σ H s:=
 ⟨I.ok.unpinC,I.os,I.bare,I.base,I.loc,I.cell,I.free,I.freeC,λp hp=>I.pin p (by
   show p∈(l++X.pn)++pins;simp only [jK]at hp ⊢;rcases hp with z|z
   . exact .inl (.inr z)
   . exact .inr z),I.hok,I.len,λq hq=>I.fzs q (jw _ hq)⟩
theorem SP.unpinC{l:List 'g'}{z:List (Addr×Obj×Str)}{D:Ends}{f:Flow}{s':Shared}(h:SP (X.pinC l z) pins D f s'):SP X pins D f s':=by
 cases f with
 |next=>obtain⟨σ',H',I,q⟩:=h;exact⟨σ',H',I.unpinC,q⟩
 |brk=>obtain⟨σ',H',I,q⟩:=h;exact⟨σ',H',I.unpinC,q⟩
 |cont=>obtain⟨σ',H',I,q⟩:=h;exact⟨σ',H',I.unpinC,q⟩
 |ret u=>obtain⟨v,σ',H',I,r,q⟩:=h;exact⟨v,σ',H',I.unpinC,r,q⟩
theorem Zaf{a b:Int}{c cv:Value}:∀(l:List Value),TriplesOk l->codeAmong pos (l++[rawInt a,rawInt b,c])=some cv->codeAmong pos l=some cv\/cv=c
 | [],_,h=>by
  have h:(if(a == (pos.line:Int)&&b == (pos.col:Int))=true then some c else none)=some cv:=h
  split at h
  . cases h;exact .inr rfl
  . cases h
 | .int x tx :: .int y ty::z::r,ht,h=>by
  have h:(if(x == (pos.line:Int)&&y == (pos.col:Int))=true then some z else codeAmong pos (r++[rawInt a,rawInt b,c]))=some cv:=h;show(if(x == (pos.line:Int)&&y == (pos.col:Int))=true then some z else codeAmong pos r)=some cv\/_
  by_cases hz:(x == (pos.line:Int)&&y == (pos.col:Int))=true
  . rw [je hz]at h ⊢
    exact .inl h
  . rw [jg hz]at h ⊢
    exact Zaf r ht h
structure NestIn(mg:Str->Option Value)(base:Heap)(c P:Addr):Prop where
 hd:PySem.W.CodeHd base c P
 bm:∃bm ob,mg "__builtins__" = some (.ref bm)/\bm≠builtinsNs/\base.get? bm=some ob/\ob.cls = .type "module" /\ ob.dict=some builtinsNs/\ob.data = .plain
structure NestK(K:Frag)(mg:Str->Option Value)(c P:Addr):Prop where
 hd:∃o vs file tf flags tg inF text tt,K.lookup c=some o/\o.cls = .type "code" /\ o.data = .fields vs/\vs[11]? = some (.ref P)/\vs.getD 11 .none = .ref P/\vs.getD 18 .none = .str file tf/\vs.getD 7 .none = .int flags tg/\vs.getD 9 .none = .bool inF/\vs.getD 10 .none = .int text tt/\c≠P
 bm:∃bm ob,mg "__builtins__" = some (.ref bm)/\bm≠builtinsNs/\K.lookup bm=some ob/\ob.cls = .type "module" /\ ob.dict=some builtinsNs/\ob.data = .plain
theorem NestK.at{K:Frag}{mg:Str->Option Value}{c P:Addr}{base:Heap}(N:NestK K mg c P)(M:K.In base):NestIn mg base c P:=
 ⟨let⟨o,vs,file,tf,flags,tg,inF,text,tt,e,r⟩:=N.hd;⟨o,vs,file,tf,flags,tg,inF,text,tt,M _ _ e,r⟩,let⟨bm,ob,h1,h2,h3,r⟩:=N.bm;⟨bm,ob,h1,h2,M _ _ h3,r⟩⟩
theorem Ze6 {c' P:Addr} {h':Heap} {fo oc:Obj} {tk:Nat} {pos:Pos} {ps qs:Array Value} (I:Inv X pins σ H s) (hP:H P=some (.tbl ps)) (hps:ps[0]? = some (.str qual 0)) (hq:s.heap.get? P=some (PySem.W.tabObj qs)) (ht:TriplesOk qs.toList)
 (hrow:∀pos cv,codeAmong pos qs.toList=some cv->∃c oc q u,cv = .ref c/\H c=some (.frz oc (.cod q))/\ps[0]? = some (.str q u))
 (hx:Heap.ExtBut P s.heap h') (hge:s.heap.objs.size<=c') (hoc:h'.get? c'=some oc) (hrec:h'.CodeRec (.ref c') qual) (htb:h'.get? P=some (PySem.W.tabObj (qs ++ #[rawInt pos.line,rawInt pos.col,.ref c']))) :
 Inv X pins σ (upd H c' (.frz oc (.cod qual))) { s with heap:=h'.push fo,toks:=tk }:=by
 have hcn:H c'=none:=I.hok.fresh hge;have neP:∀b,H b=none->b≠P:=λb n z=>by rw [z,hP]at n;cases n
 have hPc:P≠c':=λz=>by rw [z,hcn]at hP;cases hP
 have old:∀b o,b≠P->s.heap.get? b=some o->(h'.push fo).get? b=some o:=λb o n e=>jh _ (hx b o n e)
 have lt:∀b o,s.heap.get? b=some o->b≠c':=λb o e=>jQ (jJ (jz e) hge)
 refine I.step (g':=s.gens) (d':=s.drawn) (ch:=[]) (λ_ z=>nomatch z) (λb o _ _ _ e n=>old b o (neP b n) e) (λb o _ _ _ e n=>⟨o.slots,old b o (neP b n) e⟩) (λb o _ e n=>by rw [Zc (lt b o e)];exact n)
  (λb o _ e => ?_) (λb xs e=>by rw [Zc (Zx e hcn)];exact e) (λb o u e=>by rw [Zc (Zx e hcn)];exact e) (λb ps e=>⟨#[],by rw [Zc (Zx e hcn),e];simp⟩) (λm hm=>(hm.extBut hx (neP _ I.free)).push _) (λb u e => ?_) I.bare
 . by_cases hb:b=P
   . exact⟨_,by rw [hb];exact jh _ htb⟩
   . exact⟨o,old b o hb e⟩
 . by_cases hb:b=c'
   . subst hb
     rw [Zi]at e;cases e;obtain⟨c2,o,vs,t,e2,g,r⟩:=hrec;cases e2;exact⟨jh _ hoc,_,o,vs,t,rfl,jh _ g,r⟩
   . rw [Zc hb]at e
     by_cases hbP:b=P
     . subst hbP
       rw [hP]at e;cases e;refine⟨_,jh _ htb,?_,λpos' cv z => ?_⟩
       . have:=TriplesOk_snoc pos.line pos.col (.ref c') qs.toList ht
         simpa using this
       . have z:codeAmong pos' (qs.toList++[rawInt pos.line,rawInt pos.col,.ref c'])=some cv:=by simpa using z
         rcases Zaf _ ht z with z|z
         . obtain⟨c,oc',q,u,z1,z2,z3⟩:=hrow pos' cv z
           exact⟨c,oc',q,u,z1,by rw [Zc (Zx z2 hcn)];exact z2,z3⟩
         . exact⟨c',oc,qual,0,z,Zi,hps⟩
     . refine(I.hok b u e).stay (λc v hc q=>old c v ?_ q) (λc q=>by rw [Zc (Zx q hcn)];exact q) (λc xs q=>by rw [Zc (Zx q hcn)];exact q)
       rcases hc with rfl|hc
       . exact hbP
       . intro z
         rw [z,hP]at hc;cases hc
def Jl(fo:Obj)(name qual:Str)(params:Arguments)(body:List Stmt)(scope:Scope)(cl:List (Str×Addr))(c:Addr):Prop:=
 ∃doc pm ct:Value,fo={ cls := .type "function",data := .func (PySem.W.fnX name qual params body scope cl .none .none doc pm none (.ref c) ct) }
def ZiD(i:Nat)(qual:Str)(R:Obj->Addr->Prop)(tr:Addr->Obj->Addr->Obj->TS):TS:=λD σ H=>∀p fo c oc H',Same H H'->H' c=some (.frz oc (.cod qual))->R fo c->tr p fo c oc D (σ.set i (some (.ref p))) H'
theorem Ze7 {i:Nat} {name qual:Str} {params:Arguments} {scope:Scope} {rest:List Stmt} {cl:List (Str×Addr)} {c0 P:Addr} {tr:Addr->Obj->Addr->Obj->TS}
 (hrest:∀p fo c oc,Jl fo name qual params body scope cl c->PSs (X.pinC [(p,fo)] [(c,oc,qual)]) rest (tr p fo c oc)) (Nk:NestK X.K X.mg c0 P) (htab:(P,qual)∈Xo X.K) (hcode:X.env.code = .ref c0) (hcl:closureFor scope X.env=pure cl)
 (hN:X.N.Nodup) (hi:X.N[i]? = some name) (hloc:X.env.scope.names.lookup name=some .local) (hq:qualnameIn X.env name name=qual)
 (hd0:params.defaults=[]:=by rfl) (hk0:params.kw_defaults=[]:=by rfl) (han:annTrees params none X.env=[]:=by rfl) :
 PSs X (.FunctionDef name params body [] none [] scope none name pos::rest) (ZiD i qual (λfo c=>Jl fo name qual params body scope cl c) tr):=by
 intro pins s σ H D I h;obtain⟨more,hP⟩:=I.tabs _ htab;have hP:H P=some (.tbl (#[.str qual 0]++more)):=hP
 have hps:(#[Value.str qual 0]++more)[0]? = some (.str qual 0):=by
  rw [Array.getElem?_append_left 'c'];rfl
 obtain⟨qs,eq,ht,hrow⟩:=I.hok P _ hP;have Nn:=Nk.at I.mod.kin;obtain⟨bm,ob,b1,b2,b3,b4,b5,b6⟩:=Nn.bm;have hg:=I.mod.glob.keeps I.bk
 have neP:∀b o,X.base.get? b=some o->b≠P:=λb o e z=>by
  have:=(I.bs b o e).2;rw [z,hP]at this;cases this
 have hgP:mainGlobals≠P:=by
  obtain⟨o,_,_,e,_⟩:=I.mod.glob;exact neP _ o e
 have hbG:bm≠mainGlobals:=λq=>by
  obtain⟨o,es,ep,e,hd,_⟩:=I.mod.glob;rw [q,e]at b3;cases b3;rw [hd]at b6;cases b6
 have hb:s.heap.BuiltinsAt X.mg P:=⟨bm,ob,b1,b2,hbG,neP bm ob b3,I.bk _ _ b3,b4,b5,b6⟩
 have hC:=Nn.hd.keeps I.bk
 have fin:∀(fo:Obj)(c:Addr)(oc:Obj)(H':Hp)(h'':Heap)(tk:Nat),Same H H'->H' c=some (.frz oc (.cod qual))->Jl fo name qual params body scope cl c->s.heap.objs.size<=h''.objs.size->H' h''.objs.size=none->Inv X pins σ H' { s with heap:=h''.push fo,toks:=tk } ->
  wpAny 'e' X.A (storeName X.env name (.ref h''.objs.size)) (λ_ s2=>wpAny 'e' X.A (execs rest X.env) (SP X pins D) X.xe s2) X.xe { s with heap:=h''.push fo,toks:=tk }:=λfo c oc H' h'' tk sm hc hfo hsz hfn J=>by
  obtain⟨doc,pm,ct,hdat⟩:=id hfo;have hL:=I.lt
  have J2:Inv X ((h''.objs.size,fo)::pins) σ H' { s with heap:=h''.push fo,toks:=tk }:=J.pins_of λp hp=>by
   rcases jA.mp hp with e|hp
   . subst e
     refine⟨jr _ (by rw [hdat];rfl),?_,?_,?_,λv=>by rw [hdat];exact λz=>by cases z⟩
     . exact hfn
     . intro z
       have z:h''.objs.size=X.env.locals:=z;rw [z]at hsz;exact absurd (jJ hL hsz) (qO _)
     . exact λz=>absurd (I.nofs hsz) (λw=>w z)
   . exact J.pin p (jw _ hp)
  refine QD (v:=.ref h''.objs.size) J2 hN hi (.inl hloc) rfl (λs2 J3 => ?_) (.inr hloc)
  have J4:Inv (X.pinC [(h''.objs.size,fo)] [(c,oc,qual)]) pins _ H' s2:=J3.pinC (l:=[(h''.objs.size,fo)]) λq hq=>by
   rw [ju.mp hq];exact hc
  exact thn (hrest h''.objs.size fo c oc hfo pins s2 _ H' D J4 (h _ fo c oc H' sm hc hfo)) λfl s3 z=>z.unpinC
 refine wpAny_execs_cons (PySem.W.nestDef_K (Q:=λf s1=>match f with
  | .next=>wpAny 'e' X.A (execs rest X.env) (SP X pins D) X.xe s1
  |f=>SP X pins D f s1) hd0 hk0 han ?_)
 rw [hq];cases hz:codeAmong pos qs.toList with
 |none=>
  refine PySem.W.makeFunction_K (mg:=X.mg) hcl I.ok.glob hg hcode hC eq ht hz hgP hb λc' ctv doc h' tk hx hge hlt hrec htb => ?_
  have hcn:H c'=none:=I.hok.fresh hge;obtain⟨c2,oc,vs2,t2,e2,hoc,_⟩:=id hrec;cases e2;refine fin _ c' oc (upd H c' (.frz oc (.cod qual))) h' tk (λb o e=>by rw [Zc (Zx e hcn)];exact e) Zi ⟨doc,_,ctv,rfl⟩ (jL hge (uk hlt)) ?_ (Ze6 I hP hps eq ht hrow hx hge hoc hrec htb);rw [Zc (yf hlt)];exact I.hok.fresh (jL hge (uk hlt))
 |some cv=>
  obtain⟨c,oc,q,u,e1,e2,e3⟩:=hrow pos cv hz;rw [hps]at e3;cases e3;subst e1;refine PySem.W.makeFunction_hit (mg:=X.mg) hcl I.ok.glob hg hcode hC eq ht hz hb λctv doc h' tk hk hsz => ?_
  exact fin _ c oc H h' tk 'q' e2 ⟨doc,_,ctv,rfl⟩ hsz (I.hok.fresh hsz) (I.kept λb o e=>jh _ (hk b o e))
end
theorem Inv.hidden{X:Cx}{pins:List 'g'}{σ σ':St}{H:Hp}{s:Shared}(I:Inv X pins σ H s)(hl:σ'.length=σ.length)(w:∀(i:Nat)(v:V),σ'[i]? = some (some v)->σ[i]? = some (some v)\/∃x,X.N[i]? = some x/\¬Vis X.env.scope x):Inv X pins σ' H s:=
 ⟨I.ok,I.os,I.bare,I.base,let⟨m,hn,hl'⟩:=I.loc;⟨m,hn,λi x v e1 e2 e3=>(w i v e2).elim (λz=>hl' i x v e1 z e3) λ⟨y,h1,h2⟩=>by rw [e1]at h1;cases h1;exact absurd e3 h2⟩,I.cell,I.free,I.freeC,I.pin,I.hok,hl.trans I.len,I.fzs⟩
theorem Zga {K:Frag} {k:Nat} {params:Arguments} {scope:Scope} {dV kV doc pm cdv ct oc:Value} {an od:Option Addr}
 {osl:Array (Option Value)} {N ps:List Str} {sp:Sp} (lk:K.lookup f=some ⟨oc,od,.func (fnOf name qual params body scope dV kV doc pm an cdv ct),osl⟩) (hcd:codeIn K cdv qual=true) (S:FnScope N ps scope)
 (len:∀vs H Q E,sp vs H Q E->vs.length=ps.length)
 (hbody:∀(A:Around)(outer:List Env)(s:Shared)(H:Hp)(vs:List V)(Q:VK)(E:XK),Room k (A.deeper (envOfC qual scope s.heap.objs.size f cdv))->sp vs H Q E ->
   ∃t σ₀,PSs (Yd CX P w K mg base N qual scope f cdv A outer s H E) body t/\σ₀.length=N.length/\(∀(i:Nat)(v:V),σ₀[i]? = some (some v)->(start N vs)[i]? = some (some v)\/∃x,N[i]? = some x/\¬Vis scope x)/\t { nx:=λ_ H'=>Q .non H',rt:=Q } σ₀ H) :
 FnOk P w K mg base CX (k+1) f (fnOf name qual params body scope dV kV doc pm an cdv ct) ps sp:=by
 refine⟨len,λA outer s H args us vs Q E hr e0 hb r hsp => ?_⟩;have hl:=len _ _ _ _ hsp;have KX:K.In s.heap:=e0.mod.kin.keeps λb o e=>(e0.bs b o e).1
 have lim:s.heap.NoLimit:=e0.mod.nolimit.keeps λb o e=>(e0.bs b o e).1
 have hkind:∀y∈ps.zip us,scope.names.lookup y.1=some .local\/(scope.names.lookup y.1=some .cell/\((cellsFrom (s.heap.objs.size+1) scope.names []).lookup y.1).isSome=true):=λ⟨n,v⟩ hy=>by
  rcases S.par n (ud hy).1 with q|q
  . exact .inl q
  . exact .inr ⟨q,uC _ _ _ (.inl q)⟩
 refine codeAny_call_function hr.depth (KX _ _ lk) rfl S.co S.gen rfl (PySem.W.codeRec_of KX hcd) (hb _ _ _ _ ?_);refine wpAny_newFunctionEnv_cells S.kind hkind λenv he s1 x => ?_
 subst he;refine⟨lim.keeps x.toInCall.keep,codeAny_func ?_⟩;obtain⟨t,σ₀,ht,hσ,hw,hq⟩:=hbody A outer s H vs Q E (hr.deeper _) hsp;have I0:Inv (Yd CX P w K mg base N qual scope f cdv A outer s H E) [] (start N vs) H s1:=ZaS S hr.hd e0 hl r x;have I:=I0.hidden (hσ.trans I0.len.symm) hw;refine qJ (ht [] s1 σ₀ H _ I hq) (λfl s' hs => ?_) λe s' hs=>hs
 have fin:∀{σ':St}{H':Hp}{v:V}{u:Value},Inv (Yd CX P w K mg base N qual scope f cdv A outer s H E) [] σ' H' s'->RelV v u->Q v H'->CE outer P w H s Q u s':=
  λ{σ' H' v u} J rv q=>⟨v,H',J.os,J.bare,J.base,J.hok,rv,q⟩
 cases fl with
 |ret u=>
  obtain⟨v,σ',H',J,rv,q⟩:=hs;exact fin J rv q
 |next=>
  obtain⟨σ',H',J,q⟩:=hs;exact fin (v:=V.non) (u:=Value.none) J rfl q
 |brk=>
  obtain⟨_,_,_,q⟩:=hs;exact False.elim q
 |cont=>
  obtain⟨_,_,_,q⟩:=hs;exact False.elim q
end L2
namespace DL
open PySem PySem.Spec L2
section
variable{cA:Kn}{G:Cn}{ow owN owB owC:List Nat}
def spC(cA:Kn)(c:Addr)(qual:Str)(vc:List V)(n:Nat)(m:List D->Option D):Sp:=λvs H Q _=>∃av ds cs d,(∀a,av a->H a≠none)/\RepL cA av H ds vs/\ds.length=n/\RepL cA av H cs vc/\(∃oc,H c=some (.frz oc (.cod qual)))/\m (ds++cs)=some d/\∀v H',Same H H'->Rep cA av H' d v->Q v H'
def ins{α:Type}(j:Nat)(x:α)(l:List α):List α:=l.take j++x::l.drop j
theorem ins_get{α:Type}{j:Nat}{x:α}{l:List α}(hj:j<=l.length)(i:Nat):(ins j x l)[i]? = if i<j then l[i]? else if i=j then some x else l[i-1]? := by
 unfold ins
 by_cases h1:i<j
 . rw [je h1,jD (by rw [jY];omega),uw h1]
 . rw [jg h1,jG (by rw [jY];omega),jY,uc hj]
   by_cases h2:i=j
   . rw [je h2,h2,yQ]
     rfl
   . rw [jg h2,show i-j=(i-1-j)+1 by omega,List.getElem?_cons_succ,List.getElem?_drop]
     congr 1
     omega
theorem Y3{α:Type}{j:Nat}{x:α}{l:List α}:(ins j x l).length=l.length+1:=by
 unfold ins;rw [jc,jx,jY,List.length_drop];omega
theorem Zhp{α β:Type}(f:α->β)(j:Nat)(x:α)(l:List α):(ins j x l).map f=ins j (f x) (l.map f):=by
 unfold ins;rw [jm,jp,List.map_take,List.map_drop]
def spF(cA:Kn)(p c:Addr)(qual:Str)(vc:List V)(j n:Nat)(m:List D->Option D):Sp:=λvs H Q _=>∃av ds ws cs d,(∀a,av a->H a≠none)/\vs=ins j (.ref p) ws/\RepL cA av H ds ws/\ds.length=n/\RepL cA av H cs vc/\(∃oc,H c=some (.frz oc (.cod qual)))/\m (ds++cs)=some d/\∀v H',Same H H'->Rep cA av H' d v->Q v H'
def Jm(j N:Nat)(φ:Env->Option Out)(ds:List D):Option D:=match φ (ins j none (ds.map some)++List.replicate (N-ds.length-1) none)with
 |some (.rt d)=>some d
 |some (.nx _)=>some .non
 |_=>none
def Vn(l:List (Option V)):Nat->Option (Addr ⊕ V):=λi=>match l[i]? with
 |some (some v)=>some (.inr v)
 |_=>none
theorem Zea{N j n:Nat}{ds cs:List D}{ws vc:List V}{av:Addr->Prop}{H:Hp}{l:List (Option V)}(ha:∀a,av a->H a≠none)(r:RepL cA av H ds ws)(rc:RepL cA av H cs vc)(hn:ds.length=n)(hj:j<=n)(hl:l=ins j (some (.ref p)) (List.replicate n none++vc.map some)) :
 ER ⟨cA,Vn l⟩ [] H av (λ_=>none) (ins j (some (.ref p)) ((ws++vc).map some)++List.replicate (N-(ds++cs).length-1) none) H (ins j none ((ds++cs).map some)++List.replicate (N-(ds++cs).length-1) none):=by
 have hwl:=r.length;have rr:=r.append rc;have hal:=rr.length;have hj1:j<=((ds++cs).map some).length:=by rw [ja,jc];omega
 have hj2:j<=((ws++vc).map (some:V->Option V)).length:=by rw [ja,jc];omega
 refine⟨Same.refl H,ha,λ_ _ z=>(by cases z),λ_ _ _ z=>(by cases z),λ_ _ z=>(by cases z),λ_ z=>absurd rfl z,λ_ z=>(by cases z),?_,λi a z => ?_,λi v z => ?_,λi d e => ?_⟩
 . have e1:(ins j (some (V.ref p)) ((ws++vc).map some)).length=(ws++vc).length+1:=by rw [Y3,ja]
   have e2:(ins j (none:Option D) ((ds++cs).map some)).length=(ds++cs).length+1:=by rw [Y3,ja]
   show(ins j (some (V.ref p)) ((ws++vc).map some)++List.replicate (N-(ds++cs).length-1) none).length=(ins j (none:Option D) ((ds++cs).map some)++List.replicate (N-(ds++cs).length-1) none).length;rw [jc (as:=ins j (some (V.ref p)) ((ws++vc).map some)),jc (as:=ins j (none:Option D) ((ds++cs).map some)),e1,e2,hal,jH,jH]
 . have z:Vn l i=some (.inl a):=z
   unfold Vn at z
   split at z<;>cases z
 . have z:Vn l i=some (.inr v):=z
   unfold Vn at z
   split at z
   . rename_i v' hv
     cases z;rw [hl,ins_get (by rw [jc,jH];omega)]at hv
     have hi:i<(ins j (some (V.ref p)) ((ws++vc).map some)).length:=by
      rw [Y3,ja,jc]
      by_cases h1:i<j
      . omega
      . rw [jg h1]at hv
        by_cases h2:i=j
        . omega
        . rw [jg h2]at hv
          have:=(jt.mp hv).1;rw [jc,jH,ja]at this;omega
     rw [jD hi,ins_get hj2]
     by_cases h1:i<j
     . rw [je h1,jD (by rw [jH];omega),j5,je 'a']at hv
       cases hv
     . rw [jg h1]at hv ⊢
       by_cases h2:i=j
       . rw [je h2]at hv ⊢
         exact hv
       . rw [jg h2]at hv ⊢
         by_cases h3:i-1<n
         . rw [jD (by rw [jH];omega),j5,je h3]at hv
           cases hv
         . rw [jG (by rw [jH];omega),jH]at hv
           rw [jm,jG (by rw [ja];omega),ja,<-hwl,hn];exact hv
   . cases z
 . by_cases hi:i<(ins j (none:Option D) ((ds++cs).map some)).length
   . rw [jD hi,ins_get hj1]at e
     have hi2:i<(ins j (some (V.ref p)) ((ws++vc).map some)).length:=by
      rw [Y3,ja]at hi ⊢;omega
     have key:∀q:Nat,((ds++cs).map some)[q]? = some (some d)->∃v,((ws++vc).map some)[q]? = some (some v)/\Rep cA av H d v:=λq e=>by
      rw [ji]at e;cases hq:(ds++cs)[q]? with
      |none=>rw [hq]at e;cases e
      |some x=>
       rw [hq]at e;cases e;obtain⟨v,hv,rv⟩:=rr.get hq;exact⟨v,by rw [ji,hv];rfl,rv⟩
     have fin:∀v,(ins j (some (V.ref p)) ((ws++vc).map some))[i]? = some (some v)->Rep cA av H d v->∃v,(ins j (some (V.ref p)) ((ws++vc).map some)++List.replicate (N-(ds++cs).length-1) none)[i]? = some (some v)/\((none:Option Addr)=none->Rep cA (AV av λ_=>none) H d v)/\∀a,(none:Option Addr)=some a->v = .ref a/\Own cA (AV av λ_=>none) H d a:=λv hv rv=>
      ⟨v,by rw [jD hi2];exact hv,λ_=>rv.av (λb z=>by
        rcases z with z|⟨_,z⟩
        . exact .inl z
        . cases z),λ_ z=>(by cases z)⟩
     by_cases h1:i<j
     . rw [je h1]at e
       obtain⟨v,hv,rv⟩:=key i e;exact fin v (by rw [ins_get hj2,je h1];exact hv) rv
     . rw [jg h1]at e
       by_cases h2:i=j
       . rw [je h2]at e
         cases e
       . rw [jg h2]at e
         obtain⟨v,hv,rv⟩:=key (i-1) e;exact fin v (by rw [ins_get hj2,jg h1,jg h2];exact hv) rv
   . rw [jG 'a',j5]at e
     split at e<;>cases e
theorem fn_F {K:Frag} {st:Stmt} {N ps:List Str} {k j n:Nat} {vc:List V} {l:List (Option V)} {body:List Stmt} {scope:Scope} {m:List D->Option D}
 (F:FunX K x qual st f fd) (S:FnScope N ps (defScope st)) (hS:defScope st=scope) (hB:defBody st=body) (hnp:ps.length=n+1) (hj:j<=n) (hl:l=ins j (some (.ref p)) (List.replicate n none++vc.map some)) (hvN:n+1+vc.length<=N.length) (hhid:∀i y,n+1<=i->i<n+1+vc.length->N[i]? = some y->¬Vis scope y)
 (hbody:∀(cdv:Value)(A:Around)(outer:List PySem.Env)(s:Shared)(H:Hp)(E:XK)(oc:Obj),H c=some (.frz oc (.cod q2))->Room k (A.deeper (PyProof.Rows.envOfC qual scope s.heap.objs.size f cdv)) ->
   ∃t,PSs (Yd CX0 P w K mg base N qual scope f cdv A outer s H E).nox body t/\∃owN,VS ⟨cA,Vn l⟩ [] owN [] [] t φ) (hm:m=Jm j N.length φ) :
 FnOk P w K mg base CX0 (k+1) f fd ps (spF cA p c q2 vc j n m):=by
 subst hS hB hm;obtain⟨oc,od,dV,kV,doc,pm,an,cdv,ct,osl,rfl,lk,hcd⟩:=F.ex;refine Zga lk hcd S (λvs H Q E h => ?_) λA outer s H vs Q E hr h => ?_
 . obtain⟨av,ds,ws,cs,d,_,e,r,h1,_⟩:=h
   rw [e,Y3,<-r.length,h1,hnp]
 . obtain⟨av,ds,ws,cs,d,ha,e,r,h1,rc,⟨oc',hoc⟩,hm,q⟩:=h
   obtain⟨t,ht,owN,hv⟩:=hbody cdv A outer s H E oc' hoc hr;have hwl:=r.length;have hcl:=rc.length;refine⟨t,ins j (some (.ref p)) ((ws++vc).map some)++List.replicate (N.length-(ds++cs).length-1) none,ht.nox,?_,λi v hi => ?_,?_⟩
   . rw [jc,Y3,ja,jH,jc,jc]
     omega
   . by_cases h2:i<n+1
     . left
       have hb:i<(ins j (some (V.ref p)) ((ws++vc).map some)).length:=by rw [Y3,ja,jc];omega
       rw [jD hb,ins_get (by rw [ja,jc];omega)]at hi;unfold L2.start;rw [e,jD (by rw [ja,Y3];omega),Zhp,ins_get (by rw [ja];omega)]
       by_cases h3:i<j
       . rw [je h3]at hi ⊢
         rw [jm,jD (by rw [ja];omega)]at hi;exact hi
       . rw [jg h3]at hi ⊢
         by_cases h4:i=j
         . rw [je h4]at hi ⊢
           exact hi
         . rw [jg h4]at hi ⊢
           rw [jm,jD (by rw [ja];omega)]at hi;exact hi
     . right
       have hb:i<n+1+vc.length:=by
        by_cases hb:i<(ins j (some (V.ref p)) ((ws++vc).map some)).length
        . rw [Y3,ja,jc]at hb
          omega
        . rw [jG 'a',j5]at hi
          split at hi<;>cases hi
       have hiN:i<N.length:=by omega
       exact⟨N[i],jd hiN,hhid i _ 'a' hb (jd hiN)⟩
   . unfold Jm at hm
     cases hφ:φ (ins j none ((ds++cs).map some)++List.replicate (N.length-(ds++cs).length-1) none)with
     |none=>rw [hφ]at hm;cases hm
     |some o=>
      rw [hφ]at hm;refine hv H av _ _ H _ (Zea ha r rc h1 hj hl) o hφ _ ?_;cases o with
      |nx δ'=>cases hm;exact λA' σ' H' E'=>q .non H' E'.same rfl
      |rt d'=>cases hm;exact λv H' s' r'=>q v H' s' r'
      |bk δ'=>cases hm
      |ct δ'=>cases hm
end
section
variable{G:Cn}{ow owN owB owC:List Nat}
theorem ER.notOwn{H0 H:Hp}{av:Addr->Prop}{A:Nat->Option Addr}{σ:L2.St}{δ:Env}(E:ER G ow H0 av A σ H δ){i:Nat}(hi:(ow.contains i)=false):A i=Option.none:=by
 cases q:A i with
 |none=>rfl
 |some a=>
  have:=E.dom i (by rw [q];exact λz=>by cases z);simp at hi;exact absurd this hi
def UK(G:Cn)(ow:List Nat)(κ:Env->Option (List D))(vc:List V):Prop:=
 ∀H0 av A σ H δ,ER G ow H0 av A σ H δ->∀cs,κ δ=some cs->RepL G.1 (AV av A) H cs vc
theorem Zhq:UK G ow eNil []:=λH0 av A σ H δ E cs e=>by
 cases e;exact .nil
theorem Jn{a:Env->Option D}{r:Env->Option (List D)}{ds:List D}(e:Zb a r δ=some ds):∃x xs,a δ=some x/\r δ=some xs/\ds=x::xs:=by
 unfold Zb at e;cases h1:a δ with
 |none=>rw [h1]at e;cases e
 |some x=>
  rw [h1]at e;dsimp only at e;cases h2:r δ with
  |none=>rw [h2]at e;cases e
  |some xs=>
   rw [h2]at e;cases e;exact⟨x,xs,rfl,rfl,rfl⟩
theorem Ze8{j:Nat}{v:V}{vc:List V}(hj:G.2 j=some (.inr v))(ho:(ow.contains j)=false)(h:UK G ow κ vc):UK G ow (Zb (Za j) κ) (v::vc):=λH0 av A σ H δ E cs e=>by
 obtain⟨x,xs,h1,h2,rfl⟩:=Jn e;obtain⟨v',e1,e2,_⟩:=E.var j x (Z9 h1);rw [E.kept j v hj]at e1;cases e1;exact .cons (e2 (E.notOwn ho)) (h H0 av A σ H δ E xs h2)
def UL(G:Cn)(ow:List Nat)(κ:Env->Option (List D))(js:List Nat):Prop:=
 ∀H0 av A σ H δ,ER G ow H0 av A σ H δ->∀cs,κ δ=some cs->∃vc:List V,vc.length=js.length/\(∀i j:Nat,js[i]? = some j->∃v,σ[j]? = some (some v)/\vc[i]? = some v)/\RepL G.1 (AV av A) H cs vc
theorem Ze9:UL G ow eNil []:=λH0 av A σ H δ E cs e=>by
 cases e;exact⟨[],rfl,λi j z=>(by cases z),.nil⟩
theorem Zeb{j:Nat}{js:List Nat}(ho:(ow.contains j)=false)(h:UL G ow κ js):UL G ow (Zb (Za j) κ) (j::js):=λH0 av A σ H δ E cs e=>by
 obtain⟨x,xs,h1,h2,rfl⟩:=Jn e;obtain⟨v,e1,e2,_⟩:=E.var j x (Z9 h1);obtain⟨vc,g1,g2,g3⟩:=h H0 av A σ H δ E xs h2;refine⟨v::vc,by rw [jx,jx,g1],λi k z => ?_,.cons (e2 (E.notOwn ho)) g3⟩;cases i with
 |zero=>cases z;exact⟨v,e1,rfl⟩
 |succ i=>exact g2 i k z
def YR(n:Nat)(m:List D->Option D)(α κ:Env->Option (List D))(δ:Env):Option D:=match α δ,κ δ with
 |some ds,some cs=>if ds.length=n then m (ds++cs)else none
 |_,_=>none
theorem Zap{n:Nat}{m:List D->Option D}{α κ:Env->Option (List D)}{d:D}(e:YR n m α κ δ=some d):∃ds cs,α δ=some ds/\κ δ=some cs/\ds.length=n/\m (ds++cs)=some d:=by
 unfold YR at e
 split at e
 . rename_i ds cs h1 h2
   by_cases hz:ds.length=n
   . rw [je hz]at e
     exact⟨ds,cs,h1,h2,hz,e⟩
   . rw [jg hz]at e;cases e
 . cases e
theorem Zfa{i n:Nat}(hi:G.2 i=some (.inr (.ref p)))(hk:UK G ow κ vc)(h:VA G ow t .cl α) :
 VE G ow (Zf8 i p c qual (spC G.1 c qual vc n m) t) .cl (YR n m α κ):=λH0 av A σ H δ E d e Q k=>by
 obtain⟨ds,cs,h1,h2,hn,hm⟩:=Zap e;refine⟨E.kept i _ hi,h H0 av A σ H δ E ds h1 _ λvs H1 s1 r1 hc => ?_⟩;have E1:=E.mono s1;exact⟨AV av A,ds,cs,d,E1.avl,r1.cl,hn,hk H0 av A σ H1 δ E1 cs h2,hc,hm,λv H' s r=>k v H' (s1.trans s) r.t⟩
def VAJ(G:Cn)(ow:List Nat)(t:TA)(j:Nat)(p:Addr)(α:Env->Option (List D)):Prop:=
 ∀H0 av A σ H δ,ER G ow H0 av A σ H δ->∀ds,α δ=some ds->∀Q:List V->Hp->Prop,(∀ws H',Same H H'->RepL G.1 (AV av A) H' ds ws->Q (ins j (.ref p) ws) H')->t σ H Q
theorem Zhr{i:Nat}(hi:G.2 i=some (.inr (.ref p)))(h:VA G ow t .cl α):VAJ G ow (Zy (Zl i) t) 0 p α:=λH0 av A σ H δ E ds e Q k=>
 ⟨_,E.kept i _ hi,h H0 av A σ H δ E ds e _ λws H1 s1 r1=>k ws H1 s1 r1.cl⟩
theorem Zhs{j:Nat}(ha:VE G ow te .cl a)(h:VAJ G ow t j p α):VAJ G ow (Zy te t) (j+1) p (Zb a α):=λH0 av A σ H δ E ds e Q k=>by
 obtain⟨x,xs,h1,h2,rfl⟩:=Jn e;refine ha H0 av A σ H δ E x h1 _ λv H1 s1 r1=>h H0 av A σ H1 δ (E.mono s1) xs h2 _ λws H2 s2 r2 => ?_
 exact k (v::ws) H2 (s1.trans s2) (.cons ((RepT.r r1).same s2) r2)
theorem Zfb{j n:Nat}(hk:UL G ow κ js)(h:VAJ G ow t j p α) :
 VE G ow (Zf9 (λvc=>spF G.1 p c qual vc j n m) c oc qual js t) .cl (YR n m α κ):=λH0 av A σ H δ E d e Q k=>by
 obtain⟨ds,cs,h1,h2,hn,hm⟩:=Zap e;obtain⟨vc,g1,g2,g3⟩:=hk H0 av A σ H δ E cs h2;refine⟨vc,g1,g2,h H0 av A σ H δ E ds h1 _ λws H1 s1 r1 hc => ?_⟩;exact⟨AV av A,ds,ws,cs,d,(E.mono s1).avl,rfl,r1,hn,g3.same s1,⟨oc,hc⟩,hm,λv H' s r=>k v H' (s1.trans s) r.t⟩
def Vo(g:Nat->Option (Addr ⊕ V))(i:Nat)(v:V):Nat->Option (Addr ⊕ V):=λk=>if k=i then some (.inr v)else g k
def UM(i:Nat)(φ:Env->Option Out)(δ:Env):Option Out:=match δ[i]? with
 |some none=>φ δ
 |_=>none
theorem ER.pinned{H0 H:Hp}{av:Addr->Prop}{A:Nat->Option Addr}{σ:L2.St}{δ:Env}{i:Nat}{v:V}(E:ER G ow H0 av A σ H δ)(hδ:δ[i]? = some Option.none):ER ⟨G.1,Vo G.2 i v⟩ ow H0 av A (σ.set i (some v)) H δ:=by
 have hi:i<σ.length:=by rw [E.len];exact(jt.mp hδ).1
 refine⟨E.same,E.avd,E.fr,E.inj,E.live,E.dom,E.dom',by rw [jU];exact E.len,λk a z => ?_,λk u z => ?_,λk d e => ?_⟩
 . have z:(if k=i then some (Sum.inr v)else G.2 k)=some (Sum.inl a):=z
   by_cases hk:k=i
   . rw [je hk]at z;cases z
   . rw [jg hk]at z;exact E.pin k a z
 . have z:(if k=i then some (Sum.inr v)else G.2 k)=some (Sum.inr u):=z
   by_cases hk:k=i
   . rw [je hk]at z
     cases z;rw [hk,jB hi]
   . rw [jg hk]at z
     rw [jl (jO hk)];exact E.kept k u z
 . have hk:k≠i:=λz=>by rw [z,hδ]at e;cases e
   obtain⟨u,h1,h2⟩:=E.var k d e;exact⟨u,by rw [jl (jO hk)];exact h1,h2⟩
theorem ER.unpinA{H0 H:Hp}{av:Addr->Prop}{A:Nat->Option Addr}{σ:L2.St}{δ:Env}{i:Nat}{v:V}(hn:G.2 i=Option.none)(E:ER ⟨G.1,Vo G.2 i v⟩ ow H0 av A σ H δ):ER G ow H0 av A σ H δ:=by
 have ne:∀k x,G.2 k=some x->Vo G.2 i v k=some x:=λk x z=>by
  unfold Vo;rw [jg (λh=>by rw [h,hn]at z;cases z)];exact z
 exact⟨E.same,E.avd,E.fr,E.inj,E.live,E.dom,E.dom',E.len,λk a z=>E.pin k a (ne k _ z),λk u z=>E.kept k u (ne k _ z),E.var⟩
theorem Wants.pinned{H0:Hp}{av:Addr->Prop}{De:Ends}{o:Out}{i:Nat}{v:V}(hn:G.2 i=none)(h:Wants G owN owB owC H0 av De o):Wants ⟨G.1,Vo G.2 i v⟩ owN owB owC H0 av De o:=by
 cases o with
 |nx δ'=>exact λA' σ' H' E=>h A' σ' H' (E.unpinA hn)
 |rt d=>exact h
 |bk δ'=>exact λA' σ' H' E=>h A' σ' H' (E.unpinA hn)
 |ct δ'=>exact λA' σ' H' E=>h A' σ' H' (E.unpinA hn)
theorem Zht{i:Nat}{R:Obj->Addr->Prop}{tr:Addr->Obj->Addr->Obj->TS}(hn:G.2 i=none)(h:∀p fo c oc,R fo c->VS ⟨G.1,Vo G.2 i (.ref p)⟩ ow owN owB owC (tr p fo c oc) φ):VS G ow owN owB owC (ZiD i qual R tr) (UM i φ):=λH0 av A σ H δ E o e De k=>by
 unfold UM at e
 split at e
 . rename_i hδ
   intro p fo c oc H' s _ hR;exact h p fo c oc hR H0 av A (σ.set i (some (.ref p))) H' δ ((E.mono s).pinned hδ) o e De (k.pinned hn)
 . cases e
end
end DL
namespace L2
open PySem PySem.Spec PyProof.Rows
theorem Zec {K:Frag} {mg mb:Str->Option Value} {CX:CXT} {k:Nat} {fa a Pt:Addr} {qual:Str} {x:Str} {sp:Sp} {s₁:Shared} {vs:List Value} {ns:List Int}
 (KX:K.In s₁.heap) (hns:s₁.heap.Ns mainGlobals mg) (hb:s₁.heap.Ns builtinsNs mb) (hbb:∀x:Str,x ≠ "__name__" -> mb x=bootBuiltins x) (hlim:s₁.heap.NoLimit) (hg:s₁.gens = #[])
 (ha:s₁.heap.get? a=some { cls := .type "list",data := .seq vs.toArray }) (hi:IntsAre vs ns) (hl:ns.length<=sizeLine) (hr:Room k callerA)
 (hP:s₁.heap.get? Pt=some (PySem.W.tabObj #[])) (hT:Xo K=[(Pt,qual)]) (hKP:K.lookup Pt=none) (hct:isCodeTable s₁.heap Pt)
 (F:∀base:Heap,K.In base->base.Ns mainGlobals mg->FnOk P w K mg base CX k fa fd [x] sp) (hbind:∀(s:Shared)(u:Value),BindsTo s fd ⟨[u],[]⟩ [(x,u)])
 (hsp:∀H:Hp,SqL K H a (ns.map V.int)->sp [.ref a] H (λv _=>v = .bl true) λ_ _ _=>False)
 (hCX:∀H e s',CX [] H s₁ (λ_ _ _=>False) e s'->False) :
 codeAny (model P w) callerA (.call (.ref fa) ⟨[.ref a],[]⟩) (λr s'=>r = .ok (.ret (.bool true))/\OldK s₁.heap s'.heap/\s'.os=s₁.os/\AllBare s'.gens) s₁:=by
 have rv:=ZaU hi;have lenV:=hi.length;have haP:a≠Pt:=λz=>by rw [z,hP]at ha;cases ha
 have core:∀H:Hp,H Pt=some (.tbl #[.str qual 0])->(∀b,b≠Pt->H b=none\/(b=a/\K.lookup a=none/\∃xs,H b=some (.frz { cls := .type "list",data := .seq vs.toArray } (.lst xs))))->SqL K H a (ns.map V.int)->HOk P w H s₁.heap ->
  codeAny (model P w) callerA (.call (.ref fa) ⟨[.ref a],[]⟩) (λr s'=>r = .ok (.ret (.bool true))/\OldK s₁.heap s'.heap/\s'.os=s₁.os/\AllBare s'.gens) s₁:=by
  intro H hHP hO hS hok;have base_of:∀{b:Addr}{o:Obj},s₁.heap.get? b=some o->H b=none->(Xa s₁.heap H).get? b=some o:=λe n=>Zev e n
  have noA:∀{b:Addr}{o:Obj}{es:Array DictEntry}{ep:Nat},s₁.heap.get? b=some o->o.data = .dict es ep->H b=none:=λ{b o es ep} e d=>by
   by_cases hbP:b=Pt
   . rw [hbP,hP]at e;cases e;cases d
   . rcases hO b hbP with z|⟨z,_⟩
     . exact z
     . rw [z,ha]at e;cases e;cases d
  have nsK:∀{b:Addr}{m:Str->Option Value},s₁.heap.Ns b m->(Xa s₁.heap H).Ns b m:=λ{b m} ⟨o,es,ep,e,d,r⟩=>⟨o,es,ep,base_of e (noA e d),d,r⟩
  have hKb:K.In (Xa s₁.heap H):=λb o e=>base_of (KX b o e) (by
   by_cases hbP:b=Pt
   . rw [hbP,hKP]at e;cases e
   . rcases hO b hbP with z|⟨z,z2,_⟩
     . exact z
     . rw [z,z2]at e;cases e)
  have hM:Mod K mg (Xa s₁.heap H):=⟨hKb,nsK hns,⟨mb,nsK hb,hbb⟩,let⟨mc,h1,h2⟩:=hlim;⟨mc,nsK h1,h2⟩⟩
  have e0:Env0 P w K mg (Xa s₁.heap H) callerA [] s₁ H:=⟨rfl,hM,λb o e=>ZgH e,Nat.le_of_eq (ZdD _ _),trivial,λb hb=>absurd (show b∈([]:List Addr)from hb) 'c',hok,.of_eq hg,λq hq=>by
   rw [hT]at hq;rw [ju.mp hq];exact⟨#[],by rw [hHP];rfl⟩⟩
  refine codeAny_mono ((F _ hKb (nsK hns)).run callerA [] s₁ H ⟨[.ref a],[]⟩ [.ref a] [.ref a] _ _ hr e0 (hbind s₁ (.ref a)) (.cons rfl .nil) (hsp H hS)) λr s' h => ?_
  cases r with
  |error e=>exact(hCX H e s' h).elim
  |ok fl=>
   cases fl with
   |next=>exact False.elim h
   |brk=>exact False.elim h
   |cont=>exact False.elim h
   |ret u=>
    obtain⟨v,H',os,bare,un,hok',r',q⟩:=h;have q':v = .bl true:=q;subst q';obtain rfl:u=Value.bool true:=r'
    have kept:∀b o,b≠Pt->s₁.heap.get? b=some o->s'.heap.get? b=some o:=λb o hbP e=>by
     rcases hO b hbP with z|⟨z,_,xs,z2⟩
     . exact un.keep b o e z (by intro z;exact absurd (show b∈([]:List Addr)from z) 'c') 'c'
     . have z3:=un.frzs b _ _ z2
       obtain⟨e2,_⟩:=hok' b _ z3;rw [z,ha]at e;cases e;exact e2
    have tab:∃qs,s'.heap.get? Pt=some (PySem.W.tabObj qs):=by
     obtain⟨more,z⟩:=un.tbls Pt _ hHP;obtain⟨qs,e,_⟩:=hok' Pt _ z;exact⟨qs,e⟩
    refine⟨rfl,⟨λb o e => ?_,λb o e => ?_⟩,os,bare⟩
    . by_cases hbP:b=Pt
      . subst hbP
        obtain⟨qs,e2⟩:=tab;rw [hP]at e;cases e;exact .inr (.inl ⟨hct,rfl,#[],qs,rfl,by rw [Array.empty_append];exact e2⟩)
      . exact .inl (kept b o hbP e)
    . by_cases hbP:b=Pt
      . rw [hbP]
        obtain⟨qs,e2⟩:=tab;exact⟨_,e2⟩
      . exact⟨o,kept b o hbP e⟩
 have tabOk:∀H:Hp,ObjOk P w H s₁.heap Pt (.tbl #[.str qual 0]):=λH=>⟨#[],hP,trivial,λpos cv z=>by cases z⟩
 cases hk:K.lookup a with
 |some o=>
  have e:=KX a o hk;rw [ha]at e;cases e;refine core (λb=>if b=Pt then some (.tbl #[.str qual 0])else none) (je rfl) (λb hb => .inl (jg hb)) (.inr ⟨_,vs.toArray,_,hk,rfl,rfl,rfl,by rw [jM,lenV];exact hl,by simpa using rv⟩) (λb u z => ?_)
  by_cases hb:b=Pt
  . have z':=(je hb).symm.trans z
    cases z';rw [hb];exact tabOk _
  . have z':=(jg hb).symm.trans z
    cases z'
 |none=>
  refine core (λb=>if b=Pt then some (.tbl #[.str qual 0])else if b=a then some (.frz { cls := .type "list",data := .seq vs.toArray } (.lst (ns.map V.int)))else none) (je rfl) (λb hb => ?_) (.inl (.inr ⟨{ cls := .type "list",data := .seq vs.toArray },(jg haP).trans (je rfl)⟩)) (λb u z => ?_)
  . by_cases hb2:b=a
    . exact .inr ⟨hb2,hk,_,(jg hb).trans (je hb2)⟩
    . exact .inl ((jg hb).trans (jg hb2))
  . by_cases hb:b=Pt
    . have z':=(je hb).symm.trans z
      cases z';rw [hb];exact tabOk _
    . have z:=(jg hb).symm.trans z
      by_cases hb2:b=a
      . have z':=(je hb2).symm.trans z
        cases z';subst hb2;exact⟨ha,by rw [ja];exact hl,vs,_,rv,ha⟩
      . have z':=(jg hb2).symm.trans z
        cases z'
theorem walk_of1 {l:PySem.W.OpenLaw} {n k:Nat} {XP:(Str->Option Value)->Heap->Prop} {YP:World->Heap->Prop} {d:DefRec} {K:Params->Frag} {CX:World->CXT} {sp:World->Sp} {x:Str} {Pt:Addr} {qual:Str}
 (hn:l.most=some n) (hn2:n<=sizeLine) (hdf:d.params.defaults=[]) (hr:Room k callerA)
 (hY:∀(w:World)(h:Heap),YP w h->(K w.params).In h/\h.get? Pt=some (PySem.W.tabObj #[]))
 (hT:∀w:World,Xo (K w.params)=[(Pt,qual)]) (hKP:∀w:World,(K w.params).lookup Pt=none)
 (hct:∀w:World,∃c o vs,(K w.params).lookup c=some o/\o.cls = .type "code" /\ o.data = .fields vs/\vs[11]? = some (.ref Pt))
 (F:∀(w:World)(mg:Str->Option Value)(fa:Addr)(h:Heap),(K w.params).In h->h.Ns mainGlobals mg->mg d.name=some (.ref fa) ->
   ∃fd:FuncData,(∀(s:Shared)(u:Value),BindsTo s fd ⟨[u],[]⟩ [(x,u)]) /\
    ∀base:Heap,(K w.params).In base->base.Ns mainGlobals mg->FnOk l.prog w (K w.params) mg base (CX w) k fa fd [x] (sp w))
 (hsp:∀(w:World)(H:Hp)(a:Addr)(ns:List Int),ns.length<=n->SqL (K w.params) H a (ns.map V.int)->sp w [.ref a] H (λv _=>v = .bl true) λ_ _ _=>False)
 (hCX:∀(w:World)(H:Hp)(s:Shared)(e:Value)(s':Shared),CX w [] H s (λ_ _ _=>False) e s'->False) :
 PySem.W.WalkO q loose XP YP l.row.toRowW d [] (λf vs=>PySem.call f vs):=by
 refine Att.attach_call hn hdf λw s₀ s₁ mg mb fa o pm cd doc a vs ns G Y ho hd hcd hmg hobj hints hlen hg => ?_
 obtain⟨KX,hP⟩:=hY w _ Y;obtain⟨fd,hb,hF⟩:=F w mg fa _ KX G.T.g hmg;obtain⟨c,oc,vc,h1,h2⟩:=hct w;exact Zec KX G.T.g G.T.b G.T.builtins G.T.nolimit hg hobj hints (jL hlen hn2) hr hP (hT w) (hKP w) ⟨c,oc,vc,KX _ _ h1,h2⟩ hF hb (λH hS=>hsp w H a ns hlen hS) λH e s'=>hCX w H s₁ e s'
end L2
namespace DL
open PySem PySem.Spec L2
section
variable{P:Program}{w:World}{K:Frag}{mg:Str->Option Value}{base:Heap}{cA:Kn}
def Zk7(s:Stmt)(j:Nat):Stmt:=(defBody s).getD j (.Pass ⟨0,0,0,0⟩)
end
end DL
namespace L2
open PySem PySem.Spec PyProof.Rows
theorem Zbw{I:Frag}{x:Addr×Obj}{b:Addr}{o:Obj}(e:(I++[x]).lookup b=some o):I.lookup b=some o\/(I.lookup b=none/\b=x.1/\o=x.2):=by
 induction I with
 |nil=>
  obtain⟨a,u⟩:=x;rw [ue,jS]at e;cases hb:b == a with
  |true=>rw [hb]at e;cases e;exact .inr ⟨rfl,eq_of_beq hb,rfl⟩
  |false=>rw [hb]at e;cases e
 |cons p I ih=>
  obtain⟨a,u⟩:=p;rw [qD,jS]at e;rw [jS];cases hb:b == a with
  |true=>rw [hb]at e;exact .inl e
  |false=>rw [hb]at e;exact ih e
theorem Zbx{I:Frag}{x:Addr×Obj}{o:Obj}(e:I.lookup b=some o):(I++[x]).lookup b=some o:=by
 induction I with
 |nil=>cases e
 |cons p I ih=>
  obtain⟨a,u⟩:=p;rw [jS]at e;rw [qD,jS];cases hb:b == a with
  |true=>rw [hb]at e;exact e
  |false=>rw [hb]at e;exact ih e
theorem Zed{I:Frag}{x:Addr×Obj}(e:I.lookup x.1=none):(I++[x]).lookup x.1=some x.2:=by
 induction I with
 |nil=>rw [ue,jS,beq_self_eq_true]
 |cons p I ih=>
  obtain⟨a,u⟩:=p;rw [jS]at e;rw [qD,jS];cases hb:x.1 == a with
  |true=>rw [hb]at e;cases e
  |false=>rw [hb]at e;exact ih e
theorem in_marked{I:Frag}{x m:Addr×Obj}{h:Heap}(hm:(I.lookup m.1).isSome=true)(hx:I.lookup x.1=none)(k:Frag.In (I++[x]) h):Frag.In (I++[m]) h/\h.get? x.1=some x.2:=by
 refine⟨λb o e => ?_,k _ _ (Zed hx)⟩;rcases Zbw e with z|⟨z1,z2,_⟩
 . exact k b o (Zbx z)
 . rw [<-z2,z1]at hm
   cases hm
theorem Zfc {K:Frag} {h:Heap} {c P bm:Addr} {od:Option Addr} {vs:Array Value} {sl sl2:Array (Option Value)} {flags text:Int} {inF:Bool} (X:K.In h) (G:h.Ns mainGlobals mg)
 (e1:K.lookup c=some ⟨.type "code",od,.fields vs,sl⟩) (e2:vs[11]? = some (.ref P)) (e3:vs[18]? = some (.str file tf)) (e4:vs[7]? = some (.int flags tg)) (e5:vs[9]? = some (.bool inF)) (e6:vs[10]? = some (.int text tt)) (hne:c≠P)
 (b1:nsIn K mainGlobals "__builtins__" = some (some (.ref bm))) (b2:K.lookup bm=some ⟨.type "module",some builtinsNs,.plain,sl2⟩) (b3:bm≠builtinsNs):NestK K mg c P:=by
 have g:∀{i:Nat}{v:Value},vs[i]? = some v->vs.getD i .none=v:=λ{i v} e=>by
  rw [Array.getD_eq_getD_getElem?,e];rfl
 exact⟨⟨_,vs,file,tf,flags,tg,inF,text,tt,e1,rfl,rfl,e2,g e2,g e3,g e4,g e5,g e6,hne⟩,bm,_,mg_of X G b1,b3,b2,rfl,rfl,rfl⟩
end L2
namespace NK
open PySem PySem.Spec L2 PyProof.Rows
structure NOk(H:Hp)(a:Addr)(rows:List Row)(h:Heap):Prop where
 dat:NDat a rows h
 nd:(rows.map (·.1)).Nodup
 few:rows.length<=100000
 sm:(a == sysModules)=false
 ky:∀x∈rows,KyH H x.1 x.2.1
theorem NOk.dd{P:Program}{w:World}{H:Hp}{h:Heap}{a:Addr}{rows:List Row}(n:NOk H a rows h)(ok:HOk P w H h):h.DictOfH (Uv P w) a rows:=by
 obtain⟨o,es,ep,h1,h2,h3,h4⟩:=n.dat;refine⟨o,es,ep,h1,h2,h3,?_,λx hx=>(n.ky x hx).is ok,n.nd⟩;rw [h4];exact qV λx _=>(ZfX P w x).symm
def NPut(H:Hp)(a:Addr)(y v:V)(H':Hp):Prop:=∃p p' ks b,H a=some (.ext p)/\y = .ref b/\KyH H ks b/\H'=upd H a (.ext p')/\(∀h,p h->∃rows,NOk H a rows h/\∀u h',RelV v u->NDat a (storedH rows ks b u) h'->p' h') /\
 (∀h,p' h->∃o,h.get? a=some o)/\∀h1 h2,p' h1->(∀o,h1.get? a=some o->h2.get? a=some o)->p' h2
section
variable{X:Cx}{pins:List 'g'}{σ:L2.St}{H:Hp}{s:Shared}{a:Addr}{y v:V}{u r:Value}{o:Option V}{A:Around}{E:Value->Shared->Prop}
theorem Zk8(hu:A.units+64<cLine):(Uv P w).room A.in1:=by
 show A.units+1+2<cLine;omega
theorem Zee{Q:Unit->Shared->Prop}(hu:A.units+64<cLine)(I:Inv X pins σ H s)(g:NPut H a y v H')(ry:RelV y u)(rv:RelV v r)(h:∀s',Inv X pins σ H' s'->Q () s') :
 wpAny 'e' A (setItem (.ref a) u r) Q E s:=by
 obtain⟨p,p',ks,b,e,rfl,eb,rfl,hp,ht,hs⟩:=g;cases(show u=Value.ref b from ry);obtain⟨rows,n,hr⟩:=hp _ (I.hok a _ e).1;refine wpAny_setItem_heap (hsz:=by rw [j7];have:=n.few;omega) (Zk8 hu) (eb.is I.hok) (n.dd I.hok) λh' dd' hsb=>h _ ?_
 obtain⟨q,es,ep,hq,y2,y3,y4,_,y5⟩:=dd';have hn:p' h':=hr r h' rv ⟨q,es,ep,hq,y2,y3,by rw [y4];exact qV λx _=>ZfX X.prog X.w x⟩;exact VJ I (by rw [e];exact True.intro) hsb ⟨q,hq⟩ ⟨hn,ht _ hn,hs⟩
end
def sPutN(td ty tv:TE):TS:=λD σ H=>tv σ H λv H1=>td σ H1 λx H2=>ty σ H2 λy H3=>∃a H4,x = .ref a/\NPut H3 a y v H4/\D.nx σ H4
section
variable{X:Cx}{o i e value:Expr}{pos pos' apos cpos tpos:Pos}{td ty tv:TE}
theorem ps_putN(hu:X.A.units+64<cLine)(ho:PE X o td)(hi:PE X i ty)(hv:PE X value tv)(hs:swapsWith value (some (.Subscript o i pos')) pos.line X.env=pure false) :
 PS X (.Assign [.Subscript o i pos'] value pos) (sPutN td ty tv):=by
 intro pins s σ H D I h;refine wpAny_Assign_Subscript (thn (hv pins s σ H _ I h) λr s1 ⟨v,H1,I1,rv,q1⟩=>thn (ho pins s1 σ H1 _ I1 q1) λu s2 ⟨x,H2,I2,rx,q2⟩=>thn (hi pins s2 σ H2 _ I2 q2) λiv s3 ⟨y,H3,I3,ry,a,H4,ex,g,q3⟩ => ?_) hs;subst ex;obtain rfl:u=Value.ref a:=rx;exact Zee hu I3 g ry rv λs4 I4=>⟨σ,H4,I4,q3⟩
end
end NK
namespace DL
open PySem PySem.Spec L2
def Y4(ks:List NK.El):List D->Bool
 |k::_::xs=>decide (nkK k=some ks)||Y4 ks xs
 |_=>false
def Xk(ks:List NK.El)(d:D):List D->List D
 |k::x::xs=>k::(if nkK k=some ks then d else x)::Xk ks d xs
 |xs=>xs
def Y5(ks:List NK.El)(kd d:D)(xs:List D):List D:=if Y4 ks xs=true then Xk ks d xs else xs++[kd,d]
def XO(ks:List NK.El)(v:V):List D->List V->List V
 |k::_::xs,u::w::vs=>u::(if nkK k=some ks then v else w)::XO ks v xs vs
 |_,vs=>vs
theorem XQ{motive:List D->List V->List NK.Row->Prop}(h0:motive [] [] [])(h1:∀k x xs u w vs r rows,nkK k=some r.1->u = .ref r.2.1->RelV w r.2.2->Yk xs vs rows->motive xs vs rows->motive (k::x::xs) (u::w::vs) (r::rows)) :
 ∀{xs:List D}{vs:List V}{rows:List NK.Row},Yk xs vs rows->motive xs vs rows
 | [],[],[],_=>h0
 |k::x::xs,u::w::vs,r::rows,h=>h1 k x xs u w vs r rows h.1 h.2.1 h.2.2.1 h.2.2.2 (XQ h0 h1 h.2.2.2)
 | [],[],_::_,h=>by cases h
 | [],_::_,_,h=>by cases h
 | [_],_,_,h=>by cases h
 |_::_::_,[],_,h=>by cases h
 |_::_::_,[_],_,h=>by cases h
 |_::_::_,_::_::_,[],h=>by cases h
theorem Zfd{xs:List D}{rows:List NK.Row}(h:Yk xs vs rows):xs.length=2*rows.length:=by
 refine XQ (motive:=λxs vs rows=>xs.length=2*rows.length) rfl (λk x xs u w vs r rows _ _ _ _ ih => ?_) h;simp only [jx];omega
theorem Zfe(ks:List NK.El){rows:List NK.Row}(h:Yk xs vs rows):(atKey rows ks).isSome=Y4 ks xs:=by
 refine XQ (motive:=λxs vs rows=>(atKey rows ks).isSome=Y4 ks xs) rfl (λk x xs u w vs r rows h1 h2 h3 _ ih => ?_) h;unfold Y4;rw [<-ih,h1];unfold atKey;rw [yc]
 by_cases e:r.1=ks
 . simp [e]
 . have e2:¬some r.1=some ks:=λz=>e (jo z)
   simp only [e,e2,decide_false,Bool.false_or]
theorem Zef{xs:List D}{vs:List V}{rows:List NK.Row}(h:Yk xs vs rows){kd d:D}{b:Addr}{v:V}{u:Value}{ks:List NK.El}(hk:nkK kd=some ks)(r:RelV v u):Yk (xs++[kd,d]) (vs++[.ref b,v]) (rows++[(ks,b,u)]):=
 XQ (motive:=λxs vs rows=>Yk (xs++[kd,d]) (vs++[.ref b,v]) (rows++[(ks,b,u)])) ⟨hk,rfl,r,trivial⟩ (λk x xs u w vs r rows h1 h2 h3 _ ih=>⟨h1,h2,h3,ih⟩) h
theorem Zff{ks:List NK.El}(r:RelV v u){rows:List NK.Row}(h:Yk xs vs rows):Yk (Xk ks d xs) (XO ks v xs vs) (rows.map (putAt ks u)):=by
 refine XQ (motive:=λxs vs rows=>Yk (Xk ks d xs) (XO ks v xs vs) (rows.map (putAt ks u))) trivial (λk x xs u' w vs r' rows h1 h2 h3 _ ih => ?_) h;rw [Xk,XO,jp];unfold putAt
 by_cases e:r'.1=ks
 . rw [je e,h1,je (by rw [e]),je (by rw [e])]
   exact⟨h1,h2,r,ih⟩
 . have e2:¬some r'.1=some ks:=λz=>e (jo z)
   rw [jg e,h1,jg e2,jg e2];exact⟨h1,h2,h3,ih⟩
def Vp(ks:List NK.El)(b:Addr)(v:V)(xs:List D)(vs:List V):List V:=if Y4 ks xs=true then XO ks v xs vs else vs++[.ref b,v]
theorem keys_put(ks:List NK.El)(u:Value)(rows:List NK.Row):(rows.map (putAt ks u)).map (·.1)=rows.map (·.1):=by
 rw [jZ];refine qV λx _ => ?_
 show(putAt ks u x).1=x.1;unfold putAt
 split<;>rfl
theorem Zhu{ks:List NK.El}{rows:List NK.Row}(h:(atKey rows ks).isSome=false):ks∉rows.map (·.1):=λz=>by
 obtain⟨x,hx,e⟩:=jE.mp z
 have h:atKey rows ks=none:=by cases q:atKey rows ks with
  |none=>rfl
  |some p=>rw [q]at h;cases h
 unfold atKey at h;rw [Option.map_eq_none_iff,List.find?_eq_none]at h;exact h x hx (by simpa using e)
theorem Zhv{a b:Addr}{ks:List NK.El}{xs:List D}{rows:List NK.Row}(h:Yk xs vs rows)(nd:(rows.map (·.1)).Nodup)(sm:(a == sysModules)=false)(hz:xs.length<100000)(hk:nkK kd=some ks)(r:RelV v u)(dd:NK.NDat a (storedH rows ks b u) h') :
 NDA a (Y5 ks kd d xs) (Vp ks b v xs vs) h':=by
 have hl:=Zfd h;have hm:=Zfe ks h;unfold storedH at dd;unfold Y5 Vp
 by_cases e:Y4 ks xs=true
 . rw [hm,je e]at dd
   rw [je e,je e];exact⟨_,dd,Zff r h,by rw [keys_put];exact nd,by rw [ja];omega,sm⟩
 . rw [hm,jg e]at dd
   rw [jg e,jg e];refine⟨_,dd,Zef h hk r,?_,by rw [jc];show _+1<=_;omega,sm⟩;rw [jm,qF];refine⟨nd,by simp,λx hx y hy => ?_⟩;rw [ju.mp hy];exact λz=>Zhu (by rw [hm];simpa using e) (z▸hx)
theorem Zeg{h:Heap}(x:NDA a xs vs h):∃o,h.get? a=some o:=by
 obtain⟨rows,⟨o,_,_,e,_⟩,_⟩:=x;exact⟨o,e⟩
theorem ZbO{h1 h2:Heap}(x:NDA a xs vs h1)(k:∀o,h1.get? a=some o->h2.get? a=some o):NDA a xs vs h2:=by
 obtain⟨rows,d,q⟩:=x;exact⟨rows,d.stay k,q⟩
section
variable{cA:Kn}{av:Addr->Prop}{H:Hp}
theorem ZcX{k:Option Int}{v:V}(h:nkO x=some k)(r:Rep cA av H x v):v=NK.oV k:=by
 cases x<;>first|(cases h;done)|skip
 . cases h;exact r
 . cases h;exact r
theorem Zba:∀{xs:List D}{ks:List (Option Int)}{vs:List V},Vg xs=some ks->RepL cA av H xs vs->vs=ks.map NK.oV
 | [],ks,vs,h,l=>by cases h;exact l.nil_of
 |x::xs,ks,vs,h,l=>by
  obtain⟨v,r,rfl,h1,h2⟩:=l.uncons;unfold Vg at h;cases hk:nkO x with
  |none=>rw [hk]at h;cases h
  |some k=>
   cases hks:Vg xs with
   |none=>rw [hk,hks]at h;cases h
   |some ks'=>
    rw [hk,hks]at h;cases h;rw [jp,Zba hks h2,ZcX hk h1]
theorem Zhw{k:NK.El}(h:nkE x=some k)(r:Rep cA av H x v):NK.elV H k v:=by
 have key:∀k',nkO x=some k'->k = .inl k'->NK.elV H k v:=λk' h1 h2=>by subst h2;exact ZcX h1 r
 cases x with
 |tup xs=>
  obtain⟨l,hl,rfl⟩:=qf.mp (show(Vg xs).map Sum.inr=some k from h);obtain⟨a,vs,rfl,_,hH,lr⟩:=r;exact⟨a,rfl,by rw [hH,Zba hl lr]⟩
 |_=>simp only [nkE]at h;obtain⟨k',h1,h2⟩:=qf.mp h;exact key k' h1 h2.symm
theorem ZbP:∀{xs:List D}{ks:List NK.El}{vs:List V},VM xs=some ks->RepL cA av H xs vs->NK.ElsV H ks vs
 | [],ks,vs,h,l=>by cases h;rw [l.nil_of];exact .nil
 |x::xs,ks,vs,h,l=>by
  obtain⟨v,r,rfl,h1,h2⟩:=l.uncons;unfold VM at h;cases hk:nkE x with
  |none=>rw [hk]at h;cases h
  |some k=>
   cases hks:VM xs with
   |none=>rw [hk,hks]at h;cases h
   |some ks'=>
    rw [hk,hks]at h;cases h;exact .cons (Zhw hk h1) (ZbP hks h2)
theorem ZcY{ks:List NK.El}{v:V}(h:nkK x=some ks)(r:Rep cA av H x v):∃b,v = .ref b/\NK.KyH H ks b:=by
 cases x<;>first|(cases h;done)|skip
 obtain⟨a,vs,rfl,_,hH,l⟩:=r;exact⟨a,rfl,vs,hH,ZbP h l⟩
theorem Zhx{rows:List NK.Row}(h:Yk xs vs rows)(l:RepL cA av H xs vs):∀x∈rows,NK.KyH H x.1 x.2.1:=by
 refine XQ (motive:=λxs vs rows=>RepL cA av H xs vs->∀x∈rows,NK.KyH H x.1 x.2.1) (λ_ x hx=>(by cases hx)) (λk x xs u w vs r rows h1 h2 h3 _ ih l y hy => ?_) h l;obtain⟨v,r1,e,g1,g2⟩:=l.uncons;cases e;obtain⟨v',r2,e,_,g3⟩:=g2.uncons;cases e;rcases jA.mp hy with rfl|hy
 . obtain⟨b,e,kb⟩:=ZcY h1 g1
   rw [h2]at e;cases e;exact kb
 . exact ih g3 y hy
theorem nok(l:RepL cA av H xs vs)(h:Heap)(x:NDA a xs vs h):∃rows,NK.NOk H a rows h/\Yk xs vs rows:=by
 obtain⟨rows,d,rv,nd,few,sm⟩:=x;exact⟨rows,⟨d,nd,few,sm,Zhx rv l⟩,rv⟩
theorem Zna{xs:List D}{ks:List NK.El}(e:H a=some (.ext (NDA a xs vs)))(l:RepL cA av H xs vs)(kb:NK.KyH H ks b)(hk:nkK kd=some ks)(hz:xs.length<100000):NK.NPut H a (.ref b) v (upd H a (.ext (NDA a (Y5 ks kd d xs) (Vp ks b v xs vs)))):=
 ⟨_,_,ks,b,e,rfl,kb,rfl,λh x=>let⟨rows,n,rv⟩:=nok l h x;⟨rows,n,λu h' r dd=>Zhv rv n.nd n.sm hz hk r dd⟩,λh x=>Zeg x,λh1 h2 x k=>ZbO x k⟩
theorem ZbQ(ks:List NK.El)(hd:Rep cA av H d v):∀{xs:List D}{vs:List V},RepL cA av H xs vs->RepL cA av H (Xk ks d xs) (XO ks v xs vs)
 | [],vs,l=>l
 | [_],vs,l=>by obtain⟨v,r,rfl,h1,l2⟩:=l.uncons;exact l
 |k::y::xs,vs,l=>by
  obtain⟨v',r,rfl,h1,l2⟩:=l.uncons;obtain⟨w,r2,rfl,h2,l3⟩:=l2.uncons;rw [Xk,XO];refine .cons h1 (.cons ?_ (ZbQ ks hd l3))
  by_cases e:nkK k=some ks
  . rw [je e,je e];exact hd
  . rw [jg e,jg e];exact h2
theorem Zfg(ks:List NK.El)(l:RepL cA av H xs vs)(hk:Rep cA av H kd (.ref b))(hd:Rep cA av H d v):RepL cA av H (Y5 ks kd d xs) (Vp ks b v xs vs):=by
 unfold Y5 Vp
 by_cases e:Y4 ks xs=true
 . rw [je e,je e];exact ZbQ ks hd l
 . rw [jg e,jg e];exact l.append (.cons hk (.cons hd .nil))
end
section
variable{G:Cn}{ow owN owB owC ow1:List Nat}{H0 H:Hp}{av:Addr->Prop}{A:Nat->Option Addr}{σ:L2.St}{δ:Env}
theorem Zfh{i:Nat}{p:Addr}(E:ER G ow H0 av A σ H δ)(hp:H p=none)(l:RepL G.1 (AV av A) H xs vs)(hw:∀j,j∈ow1 ↔ j∈ow\/j=i)(hn:G.2 i=none) :
 ER G ow1 H0 av (λj=>if j=i then some p else A j) (σ.set i (some (.ref p))) (upd H p (.ext (NDA p xs vs))) (δ.set i (some (.dnn xs))):=by
 have hs:Same H (upd H p (.ext (NDA p xs vs))):=Yu hp
 have less:∀b,AV av (λj=>if j=i then some p else A j) b->AV av A b\/H b=none:=λb z=>by
  rcases z with z|⟨j,z⟩
  . exact .inl (.inl z)
  . by_cases e:j=i
    . simp [e]at z;subst z;exact .inr hp
    . simp [e]at z;exact .inl (.inr ⟨j,z⟩)
 have np:∀j a,A j=some a->a≠p:=λj a e z=>by subst z;exact E.live j a e hp
 have h0:H0 p=none:=by
  cases q:H0 p with
  |none=>rfl
  |some o=>rw [E.same p o q]at hp;cases hp
 refine⟨E.same.trans hs,E.avd,λj a e => ?_,λj k a e1 e2 => ?_,λj a e => ?_,λj e => ?_,λj hj => ?_,by simp [E.len],λj a e=>(by
  have q:j≠i:=λz=>by rw [z,hn]at e;cases e
  simp only [q,qP];exact E.pin j a e),(λj v' e=>by
  have q:j≠i:=λz=>by rw [z,hn]at e;cases e
  rw [jl (jO q)];exact E.kept j v' e),λj d' e => ?_⟩
 . by_cases q:j=i
   . simp [q]at e;subst e;exact h0
   . simp [q]at e;exact E.fr j a e
 . by_cases q:j=i
   . by_cases q2:k=i
     . rw [q,q2]
     . simp [q]at e1;simp [q2]at e2
       exact absurd e1.symm (np k a e2)
   . by_cases q2:k=i
     . simp [q]at e1;simp [q2]at e2
       exact absurd e2.symm (np j a e1)
     . simp [q]at e1;simp [q2]at e2;exact E.inj j k a e1 e2
 . by_cases q:j=i
   . simp [q]at e;subst e;rw [Zi];exact λz=>by cases z
   . simp [q]at e
     rw [Zc (np j a e)];exact E.live j a e
 . by_cases q:j=i
   . exact(hw j).mpr (.inr q)
   . simp [q]at e;exact(hw j).mpr (.inl (E.dom j e))
 . by_cases q:j=i
   . simp [q]
   . simp [q]
     exact E.dom' j (((hw j).mp hj).resolve_right q)
 . rcases VQ e with⟨rfl,rfl,hl⟩|⟨q,e'⟩
   . refine⟨.ref p,?_,λz=>by simp at z,λa z => ?_⟩
     . rw [jB (by rw [E.len];exact hl)]
     . simp at z
       subst z;exact⟨rfl,vs,Zi,trivial,(l.av less).same hs⟩
   . obtain⟨v',h1,h2,h3⟩:=E.var j d' e'
     refine⟨v',by rw [jl (jO q)];exact h1,λz => ?_,λa z => ?_⟩
     . simp [q]at z
       exact((h2 z).av less).same hs
     . simp [q]at z
       obtain⟨r1,r2⟩:=h3 a z;refine⟨r1,?_⟩;cases d' with
       |lst xs=>obtain⟨vs',q1,q2⟩:=r2;exact⟨vs',hs _ _ q1,(q2.av less).same hs⟩
       |obj c ks xs=>obtain⟨dx,vs',q1,q0,q2⟩:=r2;exact⟨dx,vs',hs _ _ q1,q0,(q2.av less).same hs⟩
       |dct ks xs=>obtain⟨vs',q1,q0,q2⟩:=r2;exact⟨vs',hs _ _ q1,q0,(q2.av less).same hs⟩
       |dtt ks xs=>obtain⟨vs',q1,q0,q2⟩:=r2;exact⟨vs',hs _ _ q1,q0,(q2.av less).same hs⟩
       |dnn xs=>obtain⟨vs',q1,q0,q2⟩:=r2;exact⟨vs',hs _ _ q1,q0,(q2.av less).same hs⟩
       |_=>exact r2
def ZmK(G:Cn)(ow:List Nat)(te:TE)(ε:Env->Option D):Prop:=
 ∀H0 av A σ H δ,ER G ow H0 av A σ H δ->∀d,ε δ=some d->∀Q:VK,(∀p vs xs H1,Same H H1->H1 p=none->RepL G.1 (AV av A) H1 xs vs->d = .dnn xs->Q (.ref p) (upd H1 p (.ext (NDA p xs vs))))->te σ H Q
theorem ZbR(i:Nat)(h:ZmK G ow te ε)(hn:G.2 i=none)(h1:sub owN (i::ow)=true)(h2:owN.contains i=true)(h3:sub ow owN=true):VS G ow owN owB owC (ZG te (Zs i)) (Ze i ε):=λH0 av A σ H δ E o e De k=>by
 unfold Ze at e;cases he:ε δ with
 |none=>rw [he]at e;cases e
 |some d=>
  rw [he]at e;cases e;refine h H0 av A σ H δ E d he _ λp vs xs H1 s hp l hd => ?_
  subst hd;exact k _ _ _ (Zfh (E.mono s) hp l (QZ h1 h2 h3) hn)
def Xl(i:Nat)(κ ε:Env->Option D)(δ:Env):Option Out:=match ε δ,Za i δ,κ δ with
 |some d,some (.dnn xs),some x=>match nkK x with
  |some k=>if xs.length<100000 then some (.nx (δ.set i (some (.dnn (Y5 k x d xs)))))else none
  |none=>none
 |_,_,_=>none
theorem Zby{i:Nat}{κ ε:Env->Option D}{δ:Env}{o:Out}(h:Xl i κ ε δ=some o):∃d xs x k,ε δ=some d/\Za i δ=some (.dnn xs)/\κ δ=some x/\nkK x=some k/\xs.length<100000/\o = .nx (δ.set i (some (.dnn (Y5 k x d xs)))):=by
 unfold Xl at h
 split at h
 . rename_i d xs x h1 h2 h3
   cases hk:nkK x with
   |none=>rw [hk]at h;cases h
   |some k=>
    rw [hk]at h;dsimp only at h
    by_cases hz:xs.length<100000
    . rw [je hz]at h
      exact⟨d,xs,x,k,h1,h2,h3,hk,hz,(jo h).symm⟩
    . rw [jg hz]at h;cases h
 . cases h
theorem ZcZ(i:Nat)(hi:ow.contains i=true)(h:VE G ow te .cl ε)(hk:VE G ow ti .cl κ):VS G ow ow owB owC (NK.sPutN (Zl i) ti te) (Xl i κ ε):=λH0 av A σ H δ E o e De k=>by
 obtain⟨d,xs,x,kk,e1,e2,e3,hkk,hz,rfl⟩:=Zby e;have hi':i∈ow:=by simpa using hi
 cases hA:A i with
 |none=>exact absurd hA (E.dom' i hi')
 |some a=>
  refine h H0 av A σ H δ E d e1 _ λv H1 s1 r1 => ?_
  have E1:=E.mono s1;obtain⟨u,g1,_,g3⟩:=E1.var i _ (Z9 e2);refine⟨u,g1,hk H0 av A σ H1 δ E1 _ e3 _ λy H2 s2 r2 => ?_⟩;have E2:=E1.mono s2;obtain⟨u',g1',_,g3'⟩:=E2.var i _ (Z9 e2);obtain⟨rfl,vs,q1,q0,q2⟩:=g3' a hA;have eu:u = .ref a:=(g3 a hA).1;subst eu;obtain⟨b,rfl,hbb⟩:=ZcY hkk r2.any;refine⟨a,_,rfl,Zna (d:=d) (kd:=x) q1 q2 hbb hkk hz,k A σ _ (E2.put hA (Z9 e2) (λb o hb e=>by rw [Zc hb];exact e) (by rw [Zi];exact λz=>by cases z) ?_)⟩
  have ex:∀b' o,¬AV av A b'->H2 b'=some o->upd H2 a (.ext (NDA a (Y5 kk x d xs) (Vp kk b v xs vs))) b'=some o:=λb' o n e=>by
   rw [Zc λz=>n (.inr ⟨i,by rw [z];exact hA⟩)];exact e
  exact⟨_,Zi,trivial,Zfg kk (q2.ext ex) ((RepT.r r2).ext ex) ((RepT.r (r1.same s2)).ext ex)⟩
end
end DL
namespace PySem
section
variable{prog:Program}{w:World}{K:Type} [DecidableEq K]{knd:HeapKind prog w K}{A:Around}{E:Value->Shared->Prop}{s:Shared}
theorem Zav {xs:List (K×Addr×Value)} {k:K} {Q:Value->Shared->Prop} (hu:knd.room A) (hkey:knd.is s.heap k a) (hm:s.heap.DictOfH knd d xs)
 (h1:∀p,atKey xs k=some p->Q p.2 { s with toks:=s.toks+knd.draws k })
 (h2:atKey xs k=none->∀h',h'.DictOfH knd d (storedH xs k a v)->Heap.SameBut d s.heap h'->Q v { s with heap:=h',toks:=s.toks+knd.draws k }) (hsz:xs.length<=sizeLine) :
 wpAny 'h' A (dictSetDefault d (.ref a) v) Q E s:=by
 obtain⟨o,es,ep,ho,hc,hd,he,his,hn⟩:=hm;unfold dictSetDefault;refine yj (jb (knd.pyHash hu hkey (jb (wpAny_dictFind_heap (s:={ s with toks:=s.toks+knd.draws k }) hu hkey ho hd he his hn ?_ ?_))))
 . intro hno
   have hnot:k∉xs.map (·.1):=not_mem_keys_of_get hno
   refine jb (ux (jb (wpAny_updateDictKeys (hz:=by have e:=size_of_entries he;omega) (s:={ s with toks:=s.toks+knd.draws k }) ho hd (jf (h2 (uG hno) _ ⟨_,_,ep+1,yh _ ho (Obj.isFreed_of_dict (um hd _)),
    hc.mapDictKeys _,um hd _,?_,?_,?_⟩ (j9 ..))))))
   . rw [storedH_new (uG hno)]
     simp [he,entryOfKey]
   . rw [storedH_new (uG hno)]
     intro x hx;rcases jK.mp hx with hx|hx
     . exact knd.keeps (his x hx) ho hd (j9 ..)
     . simp only [ju]at hx
       subst hx;exact knd.keeps hkey ho hd (j9 ..)
   . rw [storedH_new (uG hno),jm,qF]
     refine⟨hn,by simp,?_⟩;intro x hx y hy;simp only [jp,uE,ju]at hy;subst hy;exact λe=>hnot (e▸hx)
 . intro j p hj
   refine jb (qg (s:={ s with toks:=s.toks+knd.draws k }) ho hd ?_);rw [entry_at he j,hj];exact jb (ux (jf (h1 p (atKey_of_get hn hj))))
theorem Zai(knd:HeapKind prog w K)(d a:Addr)(hd:(d == sysModules)=false)(v:Value) :
 MeetsIn prog w (Builtin.«dict.setdefault» ⟨[.ref d,.ref a,v],[]⟩) (λA R s=>knd.room A.in1/\∃k xs,knd.is s.heap k a/\s.heap.DictOfH knd d xs/\xs.length<=sizeLine /\
  (∀p,atKey xs k=some p->R (.ok (.ret p.2)) { s with toks:=s.toks+knd.draws k }) /\
  (atKey xs k=none->∀h',h'.DictOfH knd d (storedH xs k a v)->Heap.SameBut d s.heap h'->R (.ok (.ret v)) { s with heap:=h',toks:=s.toks+knd.draws k })):=
 .of_wp λA R s ⟨hu,k,xs,hk,hm,hz,h1,h2⟩=>by
  unfold Builtin.«dict.setdefault»;refine jb ?_;unfold Builtin.Dict.keyAndDefault;refine jb (yB hm.typeIs ?_);show wpAny _ _ (pure (d,Value.ref a,some v)) _ _ s;refine jf ?_;show wpAny _ _ (if(d == sysModules)=true then _ else(dictSetDefault d (.ref a) v >>= _)) _ _ s;rw [jg (by rw [hd];exact jy)];exact jb (Zav hu hk hm (λp hp=>jf ⟨_,rfl,h1 p hp⟩) (λhn h' hm' hs'=>jf ⟨_,rfl,h2 hn h' hm' hs'⟩) hz)
end
end PySem
namespace L2
open PySem PySem.Spec PyProof.Rows
section
variable{X:Cx}{pins:List 'g'}{σ:St}{H:Hp}{s:Shared}{a b:Addr}{kvs:List (List Key×V)}{k:List Key}{v:V}{r:Value}{A:Around}{E:Value->Shared->Prop}
theorem ZjT {Q:Value->Shared->Prop} (hu:A.units+1<cLine) (I:Inv X pins σ H s) (e:H a=some 'k') (eb:H b=some (.tup (k.map kV))) (l:kvs.length<sizeLine) (rv:RelV v r)
 (h1:∀x w' s',Zm kvs k=some x->Inv X pins σ H s'->RelV x w'->Q w' s') (h2:∀s',Zm kvs k=none->Inv X pins σ (upd H a (.dT (Zv kvs k v))) s'->Q r s') :
 wpAny 'e' A (call (.builtin "dict.setdefault") [.ref a,.ref b,r]) Q E s:=by
 obtain⟨z,hd,xs,rel,dd⟩:=Ziq I.hok e;have hz:xs.length<=sizeLine:=by rw [<-qI rel];exact z
 have hl:(Zv kvs k v).length<=sizeLine:=by have:=VH kvs k v;omega
 have hv:=rel.val k;refine yY yp dd.typeIs PySem.F.entry_dict_setdefault (PySem.F.args_dict_setdefault_3 _ _ _) (Zai (tupleKind (ZT X.prog X.w)) a b hd r) ⟨yT hu,k,xs,Ve I.hok eb,dd,hz,λp hp => ?_,λhn h' dd' hs => ?_⟩
 . rw [hp]at hv
   cases hx:Zm kvs k with
   |none=>rw [hx]at hv;exact hv.elim
   |some x=>rw [hx]at hv;exact h1 x _ _ hx (I.tok _) hv
 . rw [hn]at hv
   cases hx:Zm kvs k with
   |some x=>rw [hx]at hv;exact hv.elim
   |none=>
    refine h2 _ hx ?_;obtain⟨q,es,ep,hq,y2,y3,y4,_,y5⟩:=dd';refine VJ I (by rw [e];exact True.intro) hs ⟨q,hq⟩ ⟨hl,hd,_,(rel.put k eb rv).keeps λc ys ec => ?_,q,es,ep,hq,y2,y3,y4,y5⟩;rw [Zc (J0 ec e (λz=>nomatch z))];exact ec
end
def UN(td ty tx:TE):TE:=λσ H Q=>td σ H λx H1=>∃a,x = .ref a/\IsD H1 a/\ty σ H1 λy H2=>tx σ H2 λz H3=>∃kvs k b,H3 a=some 'k'/\y = .ref b/\H3 b=some (.tup ((k:List Key).map kV))/\kvs.length<sizeLine /\
 (∀v,Zm kvs k=some v->Q v H3)/\(Zm kvs k=none->Q z (upd H3 a (.dT (Zv kvs k z))))
section
variable{X:Cx}{o e f:Expr}{apos cpos:Pos}{td ty tx:TE}
theorem Zfi (hu:X.A.units+1<cLine) (ho:PE X o td) (he:PE X e ty) (hf:PE X f tx) (m:M2 X o "setdefault" apos e f cpos):PE X (.Call (.Attribute o "setdefault" apos) [e,f] [] cpos) (UN td ty tx):=by
 intro pins s σ H Q I h;refine yE m.base m.few m.line qR yp PySem.F.type_dict_setdefault (thn (ho pins s σ H _ I h) λu s1 ⟨x,H1,I1,rx,a,ex,d,q1⟩ => ?_);subst ex;obtain rfl:u=Value.ref a:=rx;obtain⟨t1,t2,_⟩:=Vf I1 d;refine⟨t1,t2,?_⟩;rw [m.trees]
 refine qA rfl (uq (qQ (thn (he pins s1 σ H1 _ I1 q1) λiv s2 ⟨y,H2,I2,ry,q2⟩=>
  qQ (thn (hf pins s2 σ H2 _ I2 q2) λfv s3 ⟨z,H3,I3,rz,kvs,k,b,ea,ey,eb,hl,q3,q4⟩=>ua ?_))))
 subst ey;obtain rfl:iv=Value.ref b:=ry;exact ZjT hu I3 ea eb hl rz (λx w' s' e' I' r'=>⟨x,H3,I',r',q3 x e'⟩) λs' e' I'=>⟨z,_,I',rz,q4 e'⟩
end
section
variable{prog:Program}{w:World}{A:Around}{E:Value->Shared->Prop}{s:Shared}{d it:Addr}{es:Array DictEntry}{ep i:Nat}{o:Obj}
theorem Zak(d:Addr)(hd:(d == sysModules)=false) :
 MeetsIn prog w (Builtin.«dict.items» ⟨[.ref d],[]⟩) (λ_ R s=>s.TypeIs (.ref d) "dict" /\
  R (.ok (.ret (.ref s.heap.objs.size))) { s with heap:=s.heap.push { cls := .type "dict_items",data := .fields #[.ref d] } }):=
 .of_wp λA R s ⟨hT,h⟩=>by
  unfold Builtin.«dict.items»;refine jb ?_;unfold Builtin.Dict.noArgs;refine jb (yB hT ?_);show wpAny _ _ (pure d) _ _ s;refine jf ?_;show wpAny _ _ (Builtin.Dict.showsAll d >>= _) _ _ s;unfold Builtin.Dict.showsAll;rw [jg (by rw [hd];exact jy)];exact jb (jf (jb (j4 (jf ⟨_,rfl,h⟩))))
theorem Zaq {Q:Value->Shared->Prop} (hv:s.heap.IsItemsView v d) (g:s.heap.get? d=some o) (q:o.data = .dict es ep)
 (k:Q (.ref s.heap.objs.size) { s with heap:=s.heap.push { cls := .type "dict_itemiterator",data := .fields #[.none,.bool false,.ref d,.int 0 0,.int es.size 0,.int ep 0,.none,.none] } }) :
 wpAny 'h' A (pyIter (.ref v)) Q E s:=by
 obtain⟨ov,hov,hcv,hdv⟩:=id hv;refine wpAny_pyIter_slot hv.typeIs PySem.F.slot_dict_items_iter (qc PySem.F.slot_dict_items_iter hv.typeIs PySem.F.entry_dict_items_iter ?_ (PySem.F.args_dict_items_iter_1 _));unfold Builtin.«dict_items.__iter__»;refine jb (jf (jb ?_));unfold Builtin.Dict_items.dictOf;refine jb (qx hov hdv (x:=.ref d) rfl (jf (jb ?_)))
 unfold Builtin.Dict_items.newIterator;refine jb (qg g q (jb (qY g q ?_)));have hown:Builtin.Dict_items.ownsTuple "dict_itemiterator" = true:=by decide
 simp only [hown,if_true]
 refine j4 (jf ⟨_,rfl, "dict_itemiterator",_,⟨_,jr _ rfl,rfl⟩,PySem.F.slot_dict_itemiterator_next.lookup,?_⟩)
  (by simp only [sizeOk,Builtin.Dict_items.ownedTupleFields,jM,jc,jx,List.length_nil,j7];omega)
 simpa [rawInt,Builtin.Dict_items.ownedTupleFields]using k
theorem Zar {Q:Option Value->Shared->Prop} (hit:IsItemIter s.heap it d i es.size ep ok ov) (hod:s.heap.get? d=some o) (hdd:o.data = .dict es ep) (hlt':i<es.size)
 (hQ:∀h',IsItemIterOut h' it d (i+1) es.size ep es[i].key es[i].val s.heap.objs.size ->
   h'.get? s.heap.objs.size=some { cls := .type "tuple",data := .seq #[es[i].key,es[i].val] } ->
   (∀b o,b≠it->s.heap.get? b=some o->h'.get? b=some o)->Q (some (.ref s.heap.objs.size)) { s with heap:=h' }) :
 wpAny 'h' A (pyNext (.ref it)) Q E s:=by
 obtain⟨hp,g,dr,tk,os⟩:=s;have hT:Shared.TypeIs ⟨hp,g,dr,tk,os⟩ (.ref it) "dict_itemiterator" := ⟨_,hit,rfl⟩
 unfold pyNext;refine jb (yA (j3 (name:=Str.ofString "__next__") hT qX (qc qX hT PySem.F.entry_dict_itemiterator_next ?_ (PySem.F.args_dict_itemiterator_next_1 _))));refine jb (jf (jb (jb (jb (yo hT (jf (jb (yX hit rfl ?_))))))))
 have hown:Builtin.Dict_items.ownsTuple "dict_itemiterator" = true:=by decide
 simp only [hown,if_true];show wpAny _ _ (if(Value.ref d == Value.none)=true then _ else _) _ _ _;rw [jg (λz=>nomatch z)];refine jb (jf (jb (qg hod hdd ?_)));rw [jg 'c'];refine jb (jf (jb (qY hod hdd ?_)));rw [jg 'c'];refine jf ?_;have h0:¬((i:Int)<0):=by omega
 simp only [h0,qP,j0,yb hlt'];refine jb (jb (yo hT (jf (jb (wpAny_isOneOf_itemiter hT ?_)))));show wpAny _ _ (setField (.ref it) 3 (rawInt ((i:Int)+1)) >>= _) _ _ ⟨hp,g,dr,tk,os⟩;refine jb (qm hit 'c' λh₁ he₁ hs₁ => ?_);replace hs₁:Heap.SameBut it hp h₁:=hs₁
 replace he₁:IsItemIter h₁ it d (i+1) es.size ep ok ov:=by
  have e:((i+1:Nat):Int)=(i:Int)+1:=by omega
  unfold IsItemIter;rw [e];simpa [rawInt]using he₁
 have hT₁:Shared.TypeIs ⟨h₁,g,dr,tk,os⟩ (.ref it) "dict_itemiterator" := ⟨_,he₁,rfl⟩
 refine jb (yj (jb (wpAny_isOneOf_itemiter hT₁ (jb (wpAny_isOneOf_itemiter hT₁ ?_)))));show wpAny _ _ (Builtin.Dict_items.pairFromOwner (.ref it) 6 es[i].key es[i].val) _ _ ⟨h₁,g,dr,tk,os⟩;unfold Builtin.Dict_items.pairFromOwner;refine jb (wpAny_newTuple ?_);have he₂:IsItemIter (h₁.push { cls := .type "tuple",data := .seq #[es[i].key,es[i].val] }) it d (i+1) es.size ep ok ov:=jh _ he₁
 generalize hh₂:h₁.push { cls := .type "tuple",data := .seq #[es[i].key,es[i].val] }=h₂ at he₂;have hz₁:h₁.objs.size=hp.objs.size:=hs₁.1;have hil:it<hp.objs.size:=jz hit;have ht₂:h₂.get? hp.objs.size=some { cls := .type "tuple",data := .seq #[es[i].key,es[i].val] }:=by rw [<-hh₂,<-hz₁];exact jr _ rfl
 have hk₂:∀b o,b≠it->hp.get? b=some o->h₂.get? b=some o:=λb o hb e=>by rw [<-hh₂];exact jh _ (hs₁.extBut b o hb e)
 show wpAny _ _ (Builtin.Dict_items.ownedTupleIsFree (.ref it) >>= _) _ _ ⟨h₂,g,dr,tk,os⟩;rw [hz₁];clear hh₂ he₁ hs₁ hT₁ hz₁ h₁;refine jb ?_;unfold Builtin.Dict_items.ownedTupleIsFree;refine jb (qx he₂ rfl (x:=.none) rfl (jf ?_));simp only [if_true];refine jb (qx he₂ rfl (x:=ok) rfl (jb (qx he₂ rfl (x:=ov) rfl ?_)));refine jb (qm he₂ 'c' λh₃ he₃ hs₃ => ?_)
 replace hs₃:Heap.SameBut it h₂ h₃:=hs₃;replace he₃:IsItemIter h₃ it d (i+1) es.size ep es[i].key ov:=he₃;refine jb (qm he₃ 'c' λh₄ he₄ hs₄ => ?_);replace hs₄:Heap.SameBut it h₃ h₄:=hs₄;replace he₄:IsItemIter h₄ it d (i+1) es.size ep es[i].key es[i].val:=he₄;refine jb (qm he₄ 'c' λh₅ he₅ hs₅ => ?_);replace hs₅:Heap.SameBut it h₄ h₅:=hs₅
 replace he₅:IsItemIterOut h₅ it d (i+1) es.size ep es[i].key es[i].val hp.objs.size:=he₅;refine jb (qm he₅ 'c' λh₆ he₆ hs₆ => ?_);replace hs₆:Heap.SameBut it h₅ h₆:=hs₆;replace he₆:IsItemIterOut h₆ it d (i+1) es.size ep es[i].key es[i].val hp.objs.size:=he₆;have go:∀b o,b≠it->h₂.get? b=some o->h₆.get? b=some o:=λb o hb e=>hs₆.extBut b o hb (hs₅.extBut b o hb (hs₄.extBut b o hb (hs₃.extBut b o hb e)))
 exact jb (wpAny_letGo (jf (jf ⟨_,rfl,jf (hQ h₆ he₆ (go _ _ (yf hil) ht₂) λb o hb e=>go b o hb (hk₂ b o hb e))⟩)))
theorem ZaE {Q:Option Value->Shared->Prop} (hh:A.handled=none) (hit:IsItemIter s.heap it d i es.size ep ok ov) (hod:s.heap.get? d=some o) (hdd:o.data = .dict es ep) (hge:es.size<=i)
 (hQ:∀h',Heap.ExtBut it s.heap h'->Q none { s with heap:=h' }):wpAny 'h' A (pyNext (.ref it)) Q E s:=by
 have hT:s.TypeIs (.ref it) "dict_itemiterator" := ⟨_,hit,rfl⟩
 unfold pyNext;refine jb (yA (j3 (name:=Str.ofString "__next__") hT qX (qc qX hT PySem.F.entry_dict_itemiterator_next ?_ (PySem.F.args_dict_itemiterator_next_1 _))));refine jb (jf (jb (jb (jb (yo hT (jf (jb (yX hit rfl ?_))))))))
 have hown:Builtin.Dict_items.ownsTuple "dict_itemiterator" = true:=by decide
 simp only [hown,if_true];show wpAny _ _ (if(Value.ref d == Value.none)=true then _ else _) _ _ s;rw [jg (λz=>nomatch z)];refine jb (jf (jb (qg hod hdd ?_)));rw [jg 'c'];refine jb (jf (jb (qY hod hdd ?_)));rw [jg 'c'];refine jf ?_;have h0:¬((i:Int)<0):=by omega
 simp only [h0,qP,j0,uF hge];refine jb (jb (yo hT (jf ?_)));show wpAny _ _ (setField (.ref it) 2 .none >>= _) _ _ s;refine jb (yG hit rfl 'c' ?_);show wpAny _ _ (newExc (.type "StopIteration") [] >>= _) _ _ _;refine jb ?_;simp only [newExc,newTuple];refine jb (j4 ?_ (by size_fits))
 refine jb (m:=firstArgMember _ _) (wpAny_of_eq (a:=Value.none) (by first|rfl|(simp only [firstArgMember];rfl)) (j4 ?_ (by size_fits)));simp only [raiseNew];refine jb (wpAny_handled ?_);rw [show A.in1.handled=none from hh];refine jb (jf (wpAny_throw ?_));refine jb (yL (T:="StopIteration") (b:=true) ⟨_,jr _ rfl,rfl⟩ isSubtype_stop ?_)
 exact jf (hQ _ (((j9 ..).extBut.push _).push _))
end
theorem UO{H:Hp}{h:Heap}{d:Addr}{o:Obj}{kvs:List (List Key×V)}(ok:HOk P w H h)(e:H d=some (.frz o 'k')):h.get? d=some o/\∃es ep,o.ExactDict/\(d == sysModules)=false/\o.data = .dict es ep/\es.size=kvs.length /\
 ∀i(hi:i<es.size),∃ka k x,kvs[i]? = some (k,x)/\es[i].key = .ref ka/\H ka=some (.tup (k.map kV))/\RelV x es[i].val:=by
 obtain⟨g,z,y,xs,r,ob,es,ep,g2,x,q,he,_⟩:=(show ObjOk P w H h d (.frz o 'k')from ok d _ e)
 rw [g]at g2;cases g2;have hl:xs.length=kvs.length:=(qI r).symm;have hz:es.size=kvs.length:=by rw [<-hl,<-jP,he,ja]
 refine⟨g,es,ep,x,y,q,hz,λi hi => ?_⟩;have hx:i<xs.length:=by omega
 have hk:i<kvs.length:=by omega
 have key:∀{l:List (List Key×V)}{m:List (List Key×Addr×Value)}{i:Nat},Paired (λ(p:List Key×V) (q:List Key×Addr×Value)=>p.1=q.1/\H q.2.1=some (.tup (p.1.map kV))/\RelV p.2 q.2.2) l m->(h1:i<l.length)->(h2:i<m.length)->H m[i].2.1=some (.tup (l[i].1.map kV))/\RelV l[i].2 m[i].2.2:=λ{l m i} r=>by
  induction r generalizing i with
  |nil=>intro h1;exact absurd h1 (Nat.not_lt_zero _)
  |cons a _ ih=>
   intro h1 h2;cases i with
   |zero=>exact⟨a.2.1,a.2.2⟩
   |succ i=>exact ih (by simpa using h1) (by simpa using h2)
 have:es.toList[i]'(by rw [jP];exact hi)=entryOfKey (tupleKind (ZT P w)) xs[i]:=by simp [he]
 refine⟨xs[i].2.1,kvs[i].1,kvs[i].2,jd hk,?_,(key r hk hx).1,?_⟩
 . rw [<-yz,this]
   rfl
 . rw [<-yz,this]
   exact(key r hk hx).2
def Iti(d:Addr)(o:Obj)(kvs:List (List Key×V)):It:=⟨λi H=>H d=some (.frz o 'k')/\i<kvs.length,λi H v H'=>∃p ka k x,kvs[i]? = some (k,x)/\H ka=some (.tup (k.map kV))/\H p=none/\v = .ref p/\H'=upd H p (.tup [.ref ka,x]),λi H=>H d=some (.frz o 'k')/\kvs.length<=i⟩
theorem Zcq{K:Frag}{x1:Nat}(it d:Addr)(o:Obj)(es:Array DictEntry)(ep:Nat)(kvs:List (List Key×V))(hq:o.data = .dict es ep)(hz:es.size=kvs.length):Turn P w K (.Tuple elts x1 tpos) (Iti d o kvs) [it] it (λi h=>∃ok ov,IsItemIter h it d i es.size ep ok ov) where
 mem:=by simp
 obj:=λi h st b hb=>by
  have e:b=it:=by simpa using hb
  subst e;obtain⟨ok,ov,e⟩:=st
  exact⟨_,e,λv z=>by
   have z':Data.fields _=Data.cell v:=z;cases z'⟩
 keep:=λi h h' st k=>by
  obtain⟨ok,ov,e⟩:=st;exact⟨ok,ov,k it 'c' _ e⟩
 item:=by
  intro X hP hw hK hc i pins s σ H E I hf st hg;subst hP hw hK;obtain⟨f0,f1,f2,f3,f4,f5⟩:=hf it 'c';obtain⟨hd,hi⟩:H d=some (.frz o 'k')/\i<kvs.length:=hg;obtain⟨g,es',ep',x,_,q,_,all⟩:=UO I.hok hd;rw [hq]at q;cases q;obtain⟨ok,ov,st⟩:=st;have hi':i<es.size:=by omega
  obtain⟨ka,k,y,e1,e2,e3,e4⟩:=all i hi';refine Zar st g hq hi' λh' ho hT hk => ?_
  refine⟨_,rfl,wpAny_letOwnedTupleGo_items ho λh2 he2 hs2 => ?_⟩;have hs2:Heap.SameBut it h' h2:=hs2;have hTl:it<s.heap.objs.size:=jz st;have hT2:h2.get? s.heap.objs.size=some { cls := .type "tuple",data := .seq #[es[i].key,es[i].val] }:=(hs2.2 _ (yf hTl)).trans hT;have k2:∀b o,b≠it->s.heap.get? b=some o->h2.get? b=some o:=λb o hb q=>(hs2.2 b hb).trans (hk b o hb q)
  have hTn:H s.heap.objs.size=none:=I.hok.fresh (jk _);have neT:∀b o,s.heap.get? b=some o->b≠s.heap.objs.size:=λb o q=>jQ (jz q)
  have I2:Inv X pins σ (upd H s.heap.objs.size (.tup [.ref ka,y])) { s with heap:=h2 }:=by
   refine I.step (g':=s.gens) (d':=s.drawn) (ch:=[it]) (λb hb => ?_) (λb o _ _ hcb q _ => ?_) (λb o _ _ hcb q _ => ?_) (λb o hcb q n => ?_) (λb o hcb q => ?_) (λb xs q => ?_) (λb o v q => ?_) (λb ps q => ?_) (λm hm => ?_) (λb o q => ?_) I.bare
   . rw [ju.mp hb]
     exact⟨f3,f1,f4,f5⟩
   . exact k2 b o (λz=>hcb (by simp [z])) q
   . exact⟨o.slots,k2 b o (λz=>hcb (by simp [z])) q⟩
   . rw [Zc (neT b o q)]
     exact n
   . exact⟨o,k2 b o (λz=>hcb (by simp [z])) q⟩
   . rw [Zc (Zx q hTn)]
     exact q
   . rw [Zc (Zx q hTn)]
     exact q
   . exact⟨#[],by rw [Zc (Zx q hTn),q];simp⟩
   . obtain⟨o,es,ep,q,r⟩:=hm
     exact⟨o,es,ep,k2 _ o (jO f1) q,r⟩
   . by_cases hb:b=s.heap.objs.size
     . subst hb
       rw [Zi]at q;cases q;refine⟨by show 2<=sizeLine;decide,[es[i].key,es[i].val],.cons (by rw [e2];rfl) (.cons e4 .nil),?_⟩;exact⟨_,hT2,rfl,⟨_,rfl⟩,rfl⟩
     . rw [Zc hb]at q
       have nn:∀(b:Addr)(o:HO),H b=some o->b≠it:=λb o q z=>(by rw [z,f0]at q;cases q)
       refine(I.hok b o q).stay (λd v hd q' => ?_) (λd q'=>by rw [Zc (Zx q' hTn)];exact q') λd xs q'=>by rw [Zc (Zx q' hTn)];exact q'
       rcases hd with rfl|hd
       . exact k2 d v (nn d o q) q'
       . exact k2 d v (nn d _ hd) q'
  refine⟨.ref s.heap.objs.size,_,I2,rfl,⟨s.heap.objs.size,ka,k,y,e1,e3,hTn,rfl,rfl⟩,⟨_,_,he2⟩,λb hb => ?_⟩;rw [ju.mp hb,Zc (jQ hTl)];exact f0
 done:=by
  intro X hP hw hK hc i pins s σ H E I hf st hg;subst hP hw hK;obtain⟨f0,f1,f2,f3,f4,f5⟩:=hf it 'c';obtain⟨hd,hi⟩:H d=some (.frz o 'k')/\kvs.length<=i:=hg;obtain⟨g,es',ep',x,_,q,_,all⟩:=UO I.hok hd;obtain⟨ok,ov,st⟩:=st;exact ZaE (I.ok.hd hc) st g hq 'a' λh' eb=>⟨rfl,I.turned (t':=s.toks) (λb o hb e=>eb b o hb e) f0 f1 f3 f4 f5⟩
 self:=λ_ i _ _ _ st h=>by
  obtain⟨ok,ov,st⟩:=st;exact PySem.W.kcp_self st h
def Zgb(NF:Addr->Prop)(tl:TE):TI:=λσ H R=>tl σ H λx H1=>∃d kvs,x = .ref d/\H1 d=some 'k'/\∀o,NF d->R (Iti d o kvs) (upd H1 d (.frz o 'k'))
structure M0(X:Cx)(o:Expr)(m:Str)(apos cpos:Pos):Prop where
 base:attributeBase o m X.env (eval o X.env)=eval o X.env
 few:((backTo cpos (starEach [] X.env)).all (λx => !x.1)&&(backToKw cpos (keywordEach [] X.env)).all (λx=>x.1.isSome)
  && decide (([]:List Expr).length+([]:List Keyword).length+(if([]:List Keyword).isEmpty then 0 else 1)<30))=true
 line:(apos.endLine == cpos.line)=true
 trees:backTo cpos (starEach [] X.env)=[]
section
variable{X:Cx}{elts:List Expr}{x1:Nat}{tpos:Pos}{tg:Expr}
theorem Zfj {NF:Addr->Prop} (hl:PE X l tl) (m:M0 X l "items" apos cpos) (hN:∀d,(∀o v,X.H₀ d≠some (.frz o v))->NF d):PI X (.Tuple elts x1 tpos) (.Call (.Attribute l "items" apos) [] [] cpos) (Zgb NF tl):=by
 intro pins s σ H R I h;refine yE m.base m.few m.line qR yN PySem.F.type_dict_items (thn (hl pins s σ H _ I h) λv s1 ⟨x,H1,I1,r1,q1⟩ => ?_);obtain⟨d,kvs,e,hd,q⟩:=q1;subst e;obtain rfl:v=Value.ref d:=r1;obtain⟨t1,t2,t3⟩:=Vf I1 (show IsD H1 d from .inr ⟨kvs,.inl hd⟩);refine⟨t1,t2,?_⟩;rw [m.trees];refine qA rfl (evalArgs_nil3 ?_)
 refine yY yN t1 PySem.F.entry_dict_items (PySem.F.args_dict_items_1 _) (Zak d t3) ⟨t1,?_⟩
 have nf:∀o v,X.H₀ d≠some (.frz o v):=λo v z=>by
  have:=I1.base.frzs d o v z;rw [hd]at this;cases this
 obtain⟨o,es,ep,g,x,hq,hm,hz⟩:∃o es ep,s1.heap.get? d=some o/\o.ExactDict/\o.data = .dict es ep/\(d == sysModules)=false/\es.size=kvs.length:=by
  obtain⟨z,y,xs,r,ob,es,ep,g2,x,q,he,_⟩:=(show ObjOk X.prog X.w H1 s1.heap d (.dT kvs)from I1.hok d _ hd)
  exact⟨ob,es,ep,g2,x,q,y,by rw [<-jP,he,ja];exact(qI r).symm⟩
 have I2:Inv X pins σ (upd H1 d (.frz o 'k')) s1:=I1.swap hd 'l' 'l' 'l' (λ_ _ z=>by cases z) nf ⟨g,(I1.hok d _ hd).stay (λ_ _ _ r=>r) (λc r=>by rw [Zc λz=>by subst z;rw [hd]at r;cases r];exact r) (λc xs r=>by rw [Zc λz=>by subst z;rw [hd]at r;cases r];exact r) λc ob y r=>by rw [Zc λz=>by subst z;rw [hd]at r;cases r];exact r⟩
 have I3:Inv X pins σ (upd H1 d (.frz o 'k')) { s1 with heap:=s1.heap.push { cls := .type "dict_items",data := .fields #[.ref d] } }:=I2.kept (t':=s1.toks) λb o e=>jh _ e
 refine Zaq (d:=d) (o:=o) (es:=es) (ep:=ep) ⟨_,jr _ rfl,rfl,rfl⟩ (jh _ g) hq ?_;refine⟨(s1.heap.push { cls := .type "dict_items",data := .fields #[.ref d] }).objs.size,[(s1.heap.push { cls := .type "dict_items",data := .fields #[.ref d] }).objs.size],_,_,_,rfl,I3.kept (t':=s1.toks) λb o e=>jh _ e,Zcq _ d o es ep kvs hq hz,⟨_,_,jr _ rfl⟩,λb hb => ?_,q o (hN d nf)⟩
 rw [ju.mp hb];exact I3.fpOk (jk _) (I3.hok.fresh (jk _))
def Jo(t:(Addr->Prop)->TS):TS:=λD σ H=>∀NF:Addr->Prop,t NF { D with nx:=λσ' H'=>∃d o kvs,H' d=some (.frz o 'k')/\NF d/\D.nx σ' (upd H' d 'k') } σ H
theorem Zc0{st:Stmt}{t:(Addr->Prop)->TS}(h:∀NF:Addr->Prop,(∀d,(∀o v,X.H₀ d≠some (.frz o v))->NF d)->PS X st (t NF)):PS X st (Jo t):=by
 intro pins s σ H D I q;refine thn (h (λd=>∀o v,X.H₀ d≠some (.frz o v)) (λ_ z=>z) pins s σ H _ I (q λd=>∀o v,X.H₀ d≠some (.frz o v))) λf s' q => ?_
 cases f with
 |next=>
  obtain⟨σ',H',I',d,o,kvs,hd,nf,q7⟩:=q;exact⟨σ',_,I'.swap hd 'l' 'l' 'l' (λ_ _ z=>by cases z) nf ((I'.hok d _ hd).2.stay (λ_ _ _ r=>r) (λc r=>by rw [Zc λz=>by subst z;rw [hd]at r;cases r];exact r) (λc xs r=>by rw [Zc λz=>by subst z;rw [hd]at r;cases r];exact r) λc ob y r=>by rw [Zc λz=>by subst z;rw [hd]at r;cases r];exact r),q7⟩
 |_=>exact q
theorem ZjU {E:Value->Shared->Prop} {s:Shared} {d:Addr} {es:Array DictEntry} {ep:Nat} {o:Obj} {Q:Value->Shared->Prop} (hs:(d == sysModules)=false) (g:s.heap.get? d=some o) (x:o.ExactDict) (q:o.data = .dict es ep) (hfit:(es.size:Int)<2 ^ 63)
 (h:Q (.int es.size (s.toks+1)) { s with toks:=s.toks+1+1 }):wpAny 'h' A (call (.builtin "len") [.ref d]) Q E s:=by
 have hT:s.TypeIs (.ref d) "dict" := ⟨o,g,x.1⟩
 refine Calls.call_function_entry kind_len plain_len entry_len (args_len1 _) ?_;unfold Builtin.«len»;refine jb (m:=oneArg "len" _) (jf ?_);refine jb (m:=callSpecial? (.ref d) (Str.ofString "__len__")) (j3 (name:=Str.ofString "__len__") hT PySem.F.slot_dict_len (qc PySem.F.slot_dict_len hT PySem.F.entry_dict_len ?_ (PySem.F.args_dict_len_1 _)))
 show wpAny _ _ (dictSize d >>= _) _ _ s;unfold dictSize;refine jb (jb (qg g q (jf ?_)));show wpAny _ _ (Builtin.Dict.pendingCount d >>= _) _ _ s;refine jb (wpAny_pendingCount_other hs ?_);refine wpAny_ret_mkInt ?_;rw [show(((es.size:Nat):Int)+((0:Nat):Int))=((es.size:Nat):Int) by omega];refine jb (yj (jf (jb (wpAny_letGo ?_))))
 show wpAny _ _ (if((es.size:Nat):Int)<0 then _ else _) _ _ _;rw [jg 'a'];show wpAny _ _ (if((es.size:Nat):Int) ≥ 2 ^ 63 then _ else _) _ _ _;rw [jg 'a'];exact jb (wpAny_mkInt (jf ⟨_,rfl,h⟩))
def UP(K:Frag):List V->Hp->VK->Prop:=λxs H Q=>∃p kvs,xs=[.ref p]/\Rd H p 'k'/\Q (.int kvs.length) H
theorem Zeh:CallR X (.builtin "len") (UP X.K):=by
 intro pins s σ H xs us Q I rs h;obtain⟨p,kvs,rfl,hq,q⟩:=h;obtain⟨u,rfl,rx⟩:=YF rs;cases rx;obtain⟨z,hd,vs,rel,dd⟩:=XF I.hok hq;obtain⟨o,es,ep,ho,hc,hdt,he,_⟩:=dd;have hz:es.size=kvs.length:=by rw [<-jP,he,ja];exact(qI rel).symm
 refine ZjU hd ho hc hdt (by rw [hz];rw [j7]at z;omega) ⟨.int kvs.length,H,I.tok _,⟨_,by rw [hz]⟩,q⟩
theorem ZjV{K:Frag}(hK:X.K=K:=by rfl):CallR X (.builtin "len") (UP K):=hK▸Zeh
end
end L2
namespace Pl
section
variable{κ:Type} [DecidableEq κ](F:κ->List κ)(ks:List κ)
def Sb:Nat->κ->Bool
 |0,_=>false
 |j+1,k=>(F k).all (Sb j)
def cnt(j:Nat):Nat:=(ks.filter (Sb F j)).length
def Lv(j:Nat)(k:κ):Bool:=Sb F (j+1) k && !Sb F j k
def kah:Nat->Nat->Option Nat
 |0,_=>none
 |f+1,j=>if ks.all (λk => !Lv F j k)then(if cnt F ks j=ks.length then some j else none)else kah f (j+1)
def lc(j:Nat)(Dn:List κ)(k:κ):Nat:=(F k).countP λo => !Sb F j o && !decide (o∈Dn)
def edges:List (κ×κ):=ks.flatMap λk=>(F k).map λo=>(k,o)
def Pe(ed:List (κ×κ))(o:κ):List κ:=(ed.filter λe=>decide (e.2=o)).map (·.1)
variable{F ks}
theorem Sb_mono:∀(j:Nat)(k:κ),Sb F j k=true->Sb F (j+1) k=true
 |0,k,h=>by cases h
 |j+1,k,h=>by
  unfold Sb at h ⊢;rw [jT]at h ⊢;exact λo ho=>Sb_mono j o (h o ho)
theorem cnt_le(j:Nat):cnt F ks j<=ks.length:=qK _ _
theorem cnt_succ(j:Nat):cnt F ks (j+1)=cnt F ks j+(ks.filter (Lv F j)).length:=by
 unfold cnt
 induction ks with
 |nil=>rfl
 |cons k ks ih=>
  rw [yU,yU,yU];unfold Lv at ih ⊢;cases h1:Sb F j k
  . cases h2:Sb F (j+1) k
    . simpa using ih
    . simp only [Bool.not_false,Bool.and_true,if_true,qM,qP,jx]
      omega
  . rw [Sb_mono j k h1]
    simp only [Bool.not_true,Bool.and_false,if_true,qM,qP,jx];omega
theorem lc_zero{j:Nat}{k:κ}:lc F j [] k=0 ↔ Sb F (j+1) k=true:=by
 show(F k).countP _=0 ↔ (F k).all (Sb F j)=true;rw [List.countP_eq_zero,jT];constructor
 . intro h o ho
   have:=h o ho;simpa using this
 . intro h o ho
   simp [h o ho]
theorem Zfk{k:κ}:lc F 0 [] k=(F k).length:=by
 unfold lc;rw [List.countP_eq_length];intro o _;simp [Sb]
def ct(o:κ)(l:List κ):Nat:=l.countP λx=>decide (x=o)
theorem UQ(o x:κ)(l:List κ):ct o (x::l)=ct o l+if x=o then 1 else 0:=by
 unfold ct;rw [List.countP_cons]
 by_cases h:x=o
 . simp [h]
 . simp [h]
theorem UR(o:κ)(l m:List κ):ct o (l++m)=ct o l+ct o m:=List.countP_append ..
theorem Zhy{o:κ}{l:List κ}(h:o∉l):ct o l=0:=List.countP_eq_zero.mpr λx hx=>by
 simp only [yP];exact λz=>h (z▸hx)
theorem Zc1{j:Nat}{Dn:List κ}{o k:κ}(h1:Sb F j o=false)(h2:o∉Dn):lc F j Dn k=lc F j (Dn++[o]) k+ct o (F k):=by
 unfold lc
 induction F k with
 |nil=>rfl
 |cons x l ih=>
  rw [List.countP_cons,List.countP_cons,UQ,ih]
  by_cases e:x=o
  . subst e
    have:(!Sb F j x && !decide (x∈Dn++[x]))=false:=by simp
    have h3:(!Sb F j x && !decide (x∈Dn))=true:=by simp [h1,h2]
    rw [this,h3];simp;omega
  . have:(!Sb F j x && !decide (x∈Dn++[o]))=(!Sb F j x && !decide (x∈Dn)):=by simp [e]
    rw [this,jg e];omega
theorem ZjW{j:Nat}{L:List κ}{k:κ}(hc:∀o∈F k,o∈ks)(hL:∀o,o∈L ↔ o∈ks/\Lv F j o=true):lc F j L k=lc F (j+1) [] k:=by
 unfold lc;refine List.countP_congr λo ho => ?_
 have h1:=hL o;have h2:=hc o ho;unfold Lv at h1;cases h3:Sb F j o
 . cases h4:Sb F (j+1) o
   . rw [h3,h4]at h1
     have:o∉L:=λz=>by simpa using(h1.mp z).2
     simp [this]
   . rw [h3,h4]at h1
     have:o∈L:=h1.mpr ⟨h2,rfl⟩;simp [this]
 . rw [Sb_mono j o h3]
   simp
theorem Zc2(ed:List (κ×κ))(k o' o:κ):Pe (ed++[(k,o')]) o=Pe ed o++(if o'=o then [k]else []):=by
 unfold Pe;rw [uo,jm]
 congr 1
 by_cases h:o'=o
 . simp [h]
 . simp [h]
theorem Zgc{ks:List κ}{o k:κ}(h:k∈Pe (edges F ks) o):k∈ks/\o∈F k:=by
 unfold Pe edges at h;obtain⟨⟨a,b⟩,h1,rfl⟩:=jE.mp h;obtain⟨h2,h3⟩:=qh.mp h1;obtain⟨c,h4,h5⟩:=qL.mp h2;obtain⟨d,h6,h7⟩:=jE.mp h5;cases h7;have:b=o:=by simpa using h3
 subst this;exact⟨h4,h6⟩
theorem Zag(k a o:κ):∀l:List κ,ct k (Pe (l.map λx=>(a,x)) o)=if a=k then ct o l else 0
 | []=>by simp [Pe,ct]
 |x::l=>by
  have ih:=Zag k a o l
  have e:Pe ((x::l).map λx=>(a,x)) o=(if x=o then [a]else [])++Pe (l.map λx=>(a,x)) o:=by
   unfold Pe;rw [jp,yU]
   by_cases h:x=o
   . simp [h]
   . simp [h]
  rw [e,UR,ih,UQ]
  by_cases h:x=o
  . subst h
    by_cases h2:a=k
    . subst h2;simp [ct];omega
    . simp [h2,ct]
  . by_cases h2:a=k
    . simp [h,h2,ct]
    . simp [h,h2,ct]
theorem ZbS{o k:κ}:∀{ks:List κ},ks.Nodup->k∈ks->ct k (Pe (edges F ks) o)=ct o (F k)
 | [],_,h=>by cases h
 |a::ks,hn,h=>by
  have e:Pe (edges F (a::ks)) o=Pe ((F a).map λx=>(a,x)) o++Pe (edges F ks) o:=by
   unfold Pe edges;rw [yu,uo,jm]
  rw [e,UR,Zag];obtain⟨h1,h2⟩:=j8.mp hn
  by_cases h3:a=k
  . subst h3
    rw [je rfl,Zhy λz=>h1 (Zgc z).1];rfl
  . rw [jg h3,ZbS h2 ((jA.mp h).resolve_left λz=>h3 z.symm)]
    omega
theorem ZaK{l:List κ}{b:Nat}(h:b<l.length):ct l[b] (l.take b)<ct l[b] l:=by
 have e:ct l[b] l=ct l[b] (l.take b)+ct l[b] (l.drop b):=by rw [<-UR,uN]
 rw [e,uu h,UQ,je rfl];omega
theorem Zaw{l:List κ}{b:Nat}(h:b<l.length)(k:κ):ct k (l.take (b+1))=ct k (l.take b)+(if l[b]=k then 1 else 0):=by
 rw [qq h,UR,UQ];simp [ct]
end
end Pl
namespace Lg
open PySem PySem.Spec L2 DL Pl
abbrev Ky:=List Key
def TR(H:Hp)(vs:List V)(L:List Ky):Prop:=vs.length=L.length/\∀(i:Nat)(v:V)(k:Ky),vs[i]? = some v->L[i]? = some k->∃a,v = .ref a/\H a=some (.tup (k.map kV))
def TK(H H':Hp):Prop:=∀a vs,H a=some (.tup vs)->H' a=some (.tup vs)
theorem TR.mono{H H':Hp}{vs:List V}{L:List Ky}(h:TR H vs L)(k:TK H H'):TR H' vs L:=⟨h.1,λi v x e1 e2=>by
 obtain⟨a,e3,e4⟩:=h.2 i v x e1 e2;exact⟨a,e3,k a _ e4⟩⟩
theorem TR.nil{H:Hp}:TR H [] []:=⟨rfl,λi v k e=>by simp at e⟩
theorem TR.snoc{H:Hp}{vs:List V}{L:List Ky}{a:Addr}{k:Ky}(h:TR H vs L)(e:H a=some (.tup (k.map kV))):TR H (vs++[.ref a]) (L++[k]):=by
 refine⟨by rw [jc,jc,h.1];rfl,λi v x e1 e2 => ?_⟩
 by_cases hi:i<vs.length
 . rw [jD hi]at e1
   rw [jD (by rw [<-h.1];exact hi)]at e2;exact h.2 i v x e1 e2
 . have hl:=(jt.mp e1).1
   rw [jc,qd]at hl;have hi2:i=vs.length:=by omega
   subst hi2;rw [jG (jk _),yQ]at e1;rw [jG (by rw [<-h.1];exact jk _),h.1,yQ]at e2;cases e1;cases e2;exact⟨a,rfl,e⟩
theorem TR.at{H:Hp}{vs:List V}{L:List Ky}(h:TR H vs L){i:Nat}(hi:i<L.length):∃a,vs[i]? = some (.ref a)/\H a=some (.tup (L[i].map kV)):=by
 have hv:i<vs.length:=by rw [h.1];exact hi
 obtain⟨a,e1,e2⟩:=h.2 i vs[i] L[i] (jd hv) (jd hi);exact⟨a,by rw [jd hv,e1],e2⟩
def Nm(b:Nat)(σ:St)(l:List (Nat×V)):Prop:=b+10<=σ.length/\∀q∈l,σ[b+q.1]? = some (some q.2)
theorem Nm.get{b:Nat}{σ:St}{l:List (Nat×V)}(h:Nm b σ l){j:Nat}{v:V}(e:(j,v)∈l):σ[b+j]? = some (some v):=h.2 _ e
theorem Nm.set{b j:Nat}{σ:St}{l:List (Nat×V)}{x:Option V}(h:Nm b σ l)(hj:∀q∈l,q.1≠j):Nm b (σ.set (b+j) x) l:=⟨by rw [jU];exact h.1,λq hq=>by
 rw [jl (λz=>hj q hq 'a')];exact h.2 q hq⟩
theorem Nm.add{b j:Nat}{σ:St}{l:List (Nat×V)}{v:V}(h:Nm b σ l)(hj:∀q∈l,q.1≠j)(hl:j<10):Nm b (σ.set (b+j) (some v)) ((j,v)::l):=⟨by rw [jU];exact h.1,λq hq=>by
 rcases jA.mp hq with rfl|hq
 . exact jB (by have:=h.1;omega)
 . exact(h.set hj).2 q hq⟩
theorem Nm.sub{b:Nat}{σ:St}{l l':List (Nat×V)}(h:Nm b σ l)(hs:∀q∈l',q∈l):Nm b σ l':=⟨h.1,λq hq=>h.2 q (hs q hq)⟩
section
variable{K:Frag}{b:Nat}{H1:Hp}{fd lf ah:Addr}{F:Ky->List Ky}{ks:List Ky}{kvs:List (Ky×V)}
structure Bs(K:Frag)(H1:Hp)(fd:Addr)(F:Ky->List Ky)(ks:List Ky)(kvs:List (Ky×V)):Prop where
 keys:kvs.map (·.1)=ks
 nd:ks.Nodup
 vals:∀(i:Nat)(k:Ky)(v:V),kvs[i]? = some (k,v)->∃p vs,v = .ref p/\SqL K H1 p vs/\TR H1 vs (F k)
 top:H1 fd=some 'k'
 cl:∀k∈ks,∀o∈F k,o∈ks
 le:ks.length+(edges F ks).length<100000
def Kp(fd:Addr)(H1 H:Hp):Prop:=∀x o,x≠fd->H1 x=some o->H x=some o
def Ah(H1 H:Hp)(lf ah:Addr)(L:List Ky):Option V->Prop
 |none=>L=[]
 |some v=>∃p vs,v = .ref p/\H p=some (.lst vs)/\TR H vs L/\H1 p=none/\p≠lf/\p≠ah
structure Fl(H1 H:Hp)(fd lf ah:Addr)(F:Ky->List Ky)(ed:List (Ky×Ky))(dk:List Ky):Prop where
 kp:Kp fd H1 H
 fd1:H1 fd≠none
 fdl:H fd≠none
 lf0:H1 lf=none
 ah0:H1 ah=none
 ne:lf≠ah
 left:∃kl,H lf=some (.dT kl)/\kl.map (·.1)=dk/\∀k∈dk,Zm kl k=some (.int (F k).length)
 ahd:∃ka,H ah=some (.dT ka)/\ka.length<=ed.length/\(∀o,Ah H1 H lf ah (Pe ed o) (Zm ka o))/\∀o o' p,Zm ka o=some (.ref p)->Zm ka o'=some (.ref p)->o=o'
theorem Ah.mono{H H':Hp}{L:List Ky}{x:Option V}(h:Ah H1 H lf ah L x)(k:∀p vs,H1 p=none->p≠lf->p≠ah->x=some (.ref p)->H p=some (.lst vs)->H' p=some (.lst vs))(t:TK H H'):Ah H1 H' lf ah L x:=by
 cases x with
 |none=>exact h
 |some v=>
  obtain⟨p,vs,rfl,h1,h2,h3,h4,h5⟩:=h;exact⟨p,vs,rfl,k p vs h3 h4 h5 rfl h1,h2.mono t,h3,h4,h5⟩
theorem XR{H:Hp}(h:∀vs,H a≠some (.tup vs)):TK H (upd H a o):=λx vs e=>by
 rw [Zc λz=>by rw [z]at e;exact h vs e];exact e
theorem US{H:Hp}(h:H a=none):TK H (upd H a o):=XR λvs z=>by rw [h]at z;cases z
theorem TK.trans{H H' H'':Hp}(a:TK H H')(b:TK H' H''):TK H H'':=λx vs e=>b x vs (a x vs e)
theorem sda {ed:List (Ky×Ky)} {dk:List Ky} {H:Hp} {D:Ends} {k o:Ky} (S:Fl H1 H fd lf ah F ed dk) (hn:Nm b σ [(2,.ref ah),(3,.ref one),(5,.ref oth)]) (ho:H one=some (.tup (k.map kV))) (ht:H oth=some (.tup (o.map kV))) (hl:ed.length<100000)
 (q:∀H',TK H H'->(∀x,H1 x≠none->H' x=H x)->Fl H1 H' fd lf ah F (ed++[(k,o)]) dk->D.nx σ H') :
 XA (tBM K "list" rAppend (UN (Zl (b+2)) (Zl (b+5)) (Xr tNil)) (Zy (Zl (b+3)) tNil)) D σ H:=by
 obtain⟨kl,l1,l2,l3⟩:=S.left;obtain⟨ka,a1,a2,a3,a4⟩:=S.ahd;refine⟨.ref ah,hn.get 'c',ah,rfl,.inr ⟨ka,.inl a1⟩,.ref oth,hn.get 'c',jR _,λp0 hp0 => ?_⟩;have nah:ah≠p0:=λz=>by rw [z,hp0]at a1;cases a1
 have nlf:lf≠p0:=λz=>by rw [z,hp0]at l1;cases l1
 have noth:oth≠p0:=λz=>by rw [z,hp0]at ht;cases ht
 have none1:one≠p0:=λz=>by rw [z,hp0]at ho;cases ho
 have nfd:fd≠p0:=λz=>S.fdl (by rw [z];exact hp0)
 have n1:H1 p0=none:=by
  cases q1:H1 p0 with
  |none=>rfl
  |some u=>have:=S.kp p0 u (jO nfd) q1;rw [hp0]at this;cases this
 have t0:TK H (upd H p0 'p'):=US hp0;have hsz:ka.length<sizeLine:=by rw [j7];omega
 refine⟨ka,o,oth,by rw [Zc nah];exact a1,rfl,t0 _ _ ht,hsz,λv hv => ?_,λhv => ?_⟩
 . have h3:=a3 o
   rw [hv]at h3;obtain⟨p,vs,rfl,h4,h5,h6,h7,h8⟩:=h3;have np:p≠p0:=λz=>by rw [z,hp0]at h4;cases h4
   have nfp:p≠fd:=λz=>S.fd1 (by rw [<-z];exact h6)
   have h4':upd H p0 'p' p=some (.lst vs):=by rw [Zc np];exact h4
   have t1:TK (upd H p0 'p') (upd (upd H p0 'p') p (.lst (vs++[.ref one]))):=XR λzs z=>by rw [h4']at z;cases z
   have tt:=t0.trans t1
   have hvl:vs.length<sizeLine:=by
    have e1:(Pe ed o).length<=ed.length:=by unfold Pe;rw [ja];exact qK _ _
    rw [h5.1,j7];omega
   refine⟨.inl ⟨rfl,vs,.of h4'⟩,.ref one,hn.get 'c',p,vs,.ref one,rfl,rfl,h4',hvl,q _ tt (λx hx => ?_) ⟨λx u nx e => ?_,S.fd1,?_,S.lf0,S.ah0,S.ne,⟨kl,?_,l2,l3⟩,ka,?_,?_,λo' => ?_,a4⟩⟩
   . rw [Zc (λz=>hx (by rw [z];exact h6)),Zc (λz=>hx (by rw [z];exact n1))]
   . rw [Zc (λz=>by rw [z,h6]at e;cases e),Zc (λz=>by rw [z,n1]at e;cases e)]
     exact S.kp x u nx e
   . rw [Zc (jO nfp),Zc nfd];exact S.fdl
   . rw [Zc (jO h7),Zc nlf];exact l1
   . rw [Zc (jO h8),Zc nah];exact a1
   . rw [jc];omega
   . rw [Zc2]
     by_cases e:o=o'
     . subst e
       rw [je rfl,hv];exact⟨p,vs++[.ref one],rfl,Zi,(h5.mono tt).snoc (tt _ _ ho),h6,h7,h8⟩
     . rw [jg e,qj]
       refine(a3 o').mono (λp' vs' _ _ _ ex e' => ?_) tt;rw [Zc (λz=>e (a4 o o' p hv (by rw [ex,z]))),Zc (λz=>by rw [z,hp0]at e';cases e')];exact e'
 . have h3:=a3 o
   rw [hv]at h3;have e1:upd (upd H p0 'p') ah (.dT (Zv ka o (.ref p0))) p0=some 'p':=by rw [Zc (jO nah),Zi]
   have t1:TK (upd H p0 'p') (upd (upd H p0 'p') ah (.dT (Zv ka o (.ref p0)))):=XR λzs z=>by rw [Zc nah,a1]at z;cases z
   have t2:TK (upd (upd H p0 'p') ah (.dT (Zv ka o (.ref p0)))) (upd (upd (upd H p0 'p') ah (.dT (Zv ka o (.ref p0)))) p0 (.lst ([]++[.ref one]))):=XR λzs z=>by rw [e1]at z;cases z
   have tt:=(t0.trans t1).trans t2;have nfa:fd≠ah:=λz=>S.fd1 (by rw [z];exact S.ah0)
   refine⟨.inl ⟨rfl,[],.of e1⟩,.ref one,hn.get 'c',p0,[],.ref one,rfl,rfl,e1,by rw [j7];show 0<_;omega,q _ tt (λx hx => ?_) ⟨λx u nx e => ?_,S.fd1,?_,S.lf0,S.ah0,S.ne,⟨kl,?_,l2,l3⟩,Zv ka o (.ref p0),?_,?_,λo' => ?_,λo1 o2 p' y1 y2 => ?_⟩⟩
   . rw [Zc (λz=>hx (by rw [z];exact n1)),Zc (λz=>hx (by rw [z];exact S.ah0)),Zc (λz=>hx (by rw [z];exact n1))]
   . rw [Zc (λz=>by rw [z,n1]at e;cases e),Zc (λz=>by rw [z,S.ah0]at e;cases e),Zc (λz=>by rw [z,n1]at e;cases e)]
     exact S.kp x u nx e
   . rw [Zc nfd,Zc nfa,Zc nfd];exact S.fdl
   . rw [Zc nlf,Zc S.ne,Zc nlf];exact l1
   . rw [Zc nah,Zi]
   . have:=VH ka o (.ref p0)
     rw [jc];show _<=ed.length+1;omega
   . rw [Zc2,VD]
     by_cases e:o=o'
     . subst e
       rw [je rfl,je rfl,h3];exact⟨p0,[.ref one],rfl,Zi,TR.nil.snoc (tt _ _ ho),n1,jO nlf,jO nah⟩
     . rw [jg e,jg (jO e),qj]
       refine(a3 o').mono (λp' vs' _ _ n3 ex e' => ?_) tt;rw [Zc (λz=>by rw [z,hp0]at e';cases e'),Zc n3,Zc (λz=>by rw [z,hp0]at e';cases e')];exact e'
   . rw [VD]at y1 y2
     have old:∀o3 p3,Zm ka o3=some (.ref p3)->p3≠p0:=λo3 p3 y z=>by
      have:=a3 o3;rw [y]at this;obtain⟨p4,vs4,e4,e5,_⟩:=this;cases e4;rw [z,hp0]at e5;cases e5
     by_cases e1:o1=o
     . by_cases e2:o2=o
       . rw [e1,e2]
       . rw [je e1]at y1
         rw [jg e2]at y2;cases y1;exact absurd rfl (old _ _ y2)
     . rw [jg e1]at y1
       by_cases e2:o2=o
       . rw [je e2]at y2
         cases y2;exact absurd rfl (old _ _ y1)
       . rw [jg e2]at y2
         exact a4 _ _ _ y1 y2
end
theorem keys_put{kl:List (Ky×V)}{k:Ky}(h:k∈kl.map (·.1)):(Zv kl k v).map (·.1)=kl.map (·.1):=by
 unfold Zv;rw [je]
 . rw [jZ]
   refine qV λq _ => ?_
   show(if q.1=k then(q.1,v)else q).1=q.1
   split<;>rfl
 . obtain⟨q,hq,e⟩:=jE.mp h
   exact List.any_eq_true.mpr ⟨q,hq,by simpa using e⟩
theorem Zfl{kl:List (Ky×V)}{k:Ky}(h:k∉kl.map (·.1)):Zm kl k=none:=by
 unfold Zm;rw [List.find?_eq_none.mpr]
 . rfl
 . intro q hq
   simp only [yP];exact λe=>h (jE.mpr ⟨q,hq,e⟩)
def NK(b:Nat)(J:List Nat)(σ σ':St):Prop:=∀l:List (Nat×V),(∀q∈l,q.1∉J)->Nm b σ l->Nm b σ' l
theorem NK.refl{b:Nat}{J:List Nat}{σ:St}:NK b J σ σ:=λ_ _ h=>h
theorem NK.trans{b:Nat}{J:List Nat}{σ σ' σ'':St}(a:NK b J σ σ')(c:NK b J σ' σ''):NK b J σ σ'':=λl h x=>c l h (a l h x)
theorem NK.set{b j:Nat}{J:List Nat}{σ:St}{x:Option V}(h:j∈J):NK b J σ (σ.set (b+j) x):=λl hl hn=>hn.set λq hq z=>hl q hq (by rw [z];exact h)
theorem NK.wide{b:Nat}{J J':List Nat}{σ σ':St}(a:NK b J σ σ')(h:∀j∈J,j∈J'):NK b J' σ σ':=λl hl hn=>a l (λq hq z=>hl q hq (h _ z)) hn
section
variable{K:Frag}{b:Nat}{H1:Hp}{fd lf ah:Addr}{F:Ky->List Ky}{ks:List Ky}{kvs:List (Ky×V)}
theorem Bs.sq{p:Addr}{vs:List V}{H:Hp}(B:Bs K H1 fd F ks kvs)(k:Kp fd H1 H)(h:SqL K H1 p vs):SqL K H p vs:=by
 rcases h with h|h
 . refine .inl (Rd.ext h λo e=>k p o (λz => ?_) e)
   rcases h with h|⟨o',h⟩
   . rw [z,B.top]at h;cases h
   . rw [z,B.top]at h;cases h
 . exact .inr h
theorem Fl.fresh{ed:List (Ky×Ky)}{dk:List Ky}{H:Hp}{p:Addr}{o:HO}(S:Fl H1 H fd lf ah F ed dk)(hp:H p=none):Fl H1 (upd H p o) fd lf ah F ed dk:=by
 obtain⟨kl,l1,l2,l3⟩:=S.left;obtain⟨ka,a1,a2,a3,a4⟩:=S.ahd;have n:∀{x u},H x=some u->x≠p:=λe z=>by rw [z,hp]at e;cases e
 refine⟨λx u nx e => ?_,S.fd1,?_,S.lf0,S.ah0,S.ne,⟨kl,?_,l2,l3⟩,ka,?_,a2,λo'=>(a3 o').mono (λp' vs' _ _ _ _ e' => ?_) (US hp),a4⟩
 . have:=S.kp x u nx e
   rw [Zc (n this)];exact this
 . rw [Zc λz=>S.fdl (by rw [z];exact hp)]
   exact S.fdl
 . rw [Zc (n l1)];exact l1
 . rw [Zc (n a1)];exact a1
 . rw [Zc (n e')];exact e'
theorem Fl.put{ed:List (Ky×Ky)}{dk:List Ky}{H:Hp}{k:Ky}{kl:List (Ky×V)}(S:Fl H1 H fd lf ah F ed dk)(l1:H lf=some (.dT kl))(hk:k∉dk):Fl H1 (upd H lf (.dT (Zv kl k (.int (F k).length)))) fd lf ah F ed (dk++[k]):=by
 obtain⟨kl',l1',l2,l3⟩:=S.left;rw [l1]at l1';cases l1';obtain⟨ka,a1,a2,a3,a4⟩:=S.ahd;have nfl:fd≠lf:=λz=>S.fd1 (by rw [z];exact S.lf0)
 refine⟨λx u nx e => ?_,S.fd1,?_,S.lf0,S.ah0,S.ne,⟨_,Zi,?_,λk' hk' => ?_⟩,ka,?_,a2,λo'=>(a3 o').mono (λp' vs' _ n2 _ _ e' => ?_) (XR λvs z=>by rw [l1]at z;cases z),a4⟩
 . rw [Zc (λz=>by rw [z,S.lf0]at e;cases e)]
   exact S.kp x u nx e
 . rw [Zc nfl];exact S.fdl
 . rw [ZeD _ (Zfl (by rw [l2];exact hk)),jm,l2]
   rfl
 . rw [VD]
   by_cases e:k'=k
   . rw [je e,e]
   . rw [jg e]
     exact l3 k' ((jK.mp hk').resolve_right λz=>e (ju.mp z))
 . rw [Zc (jO S.ne)];exact a1
 . rw [Zc n2];exact e'
abbrev ZmL(K:Frag)(b:Nat):TS:=XA (tBM K "list" rAppend (UN (Zl (b+2)) (Zl (b+5)) (Xr tNil)) (Zy (Zl (b+3)) tNil))
theorem Zhz {ed:List (Ky×Ky)} {dk:List Ky} {H:Hp} {D:Ends} {one pv:Addr} {k:Ky} (B:Bs K H1 fd F ks kvs) (S:Fl H1 H fd lf ah F ed dk) (hn:Nm b σ [(2,.ref ah),(3,.ref one),(4,.ref pv)]) (hone:H one=some (.tup (k.map kV))) (hsq:SqL K H1 pv vsF) (htr:TR H1 vsF (F k)) (hl:ed.length+(F k).length<100000)
 (q:∀σ' H',NK b [5] σ σ'->(∀x,H1 x≠none->H' x=H x)->Fl H1 H' fd lf ah F (ed++(F k).map λo=>(k,o)) dk->D.nx σ' H') :
 Yt (XE K (Zl (b+4))) (Zs (b+5)) (ZmL K b) D σ H:=by
 refine⟨.ref pv,hn.get 'c',.inl ⟨pv,vsF,rfl,B.sq S.kp hsq,?_⟩⟩
 let W:Nat->Nat->St->Hp->Prop:=λi m σ' H'=>i<=(F k).length/\m=(F k).length-i/\NK b [5] σ σ'/\TK H H'/\(∀x,H1 x≠none->H' x=H x)/\Fl H1 H' fd lf ah F (ed++((F k).take i).map λo=>(k,o)) dk
 refine⟨W,⟨(F k).length,jR _,rfl,.refl,λ_ _ e=>e,λ_ _=>rfl,by simpa using S⟩,λi m σ' H' ⟨w1,w2,w3,w4,w5,w6⟩ => ?_⟩;have hsq':=B.sq w6.kp hsq
 by_cases hi:i<(F k).length
 . obtain⟨ta,e1,e2⟩:=htr.at hi
   refine .inr ⟨⟨vsF,.ref ta,hsq',e1⟩,W (i+1) ((F k).length-(i+1)),λσ2 H2 h=>⟨_,by omega,h⟩,λx H3 ⟨e3,e4⟩ => ?_⟩;subst e3
   have ex:x = .ref ta:=by
    have:=e4 vsF hsq';rw [e1]at this;exact(jo this).symm
   subst ex;have nta:ta≠fd:=λz=>by rw [z,B.top]at e2;cases e2
   have hn':Nm b (σ'.set (b+5) (some (.ref ta))) [(2,.ref ah),(3,.ref one),(5,.ref ta)]:=
    ((w3 [(2,.ref ah),(3,.ref one)] 'c' (hn.sub 'c')).add (j:=5) (v:=.ref ta) 'c' 'b').sub 'c'
   refine sda w6 hn' (w4 _ _ hone) (w6.kp _ _ nta e2) ?_ λH4 t4 k4 S4=>⟨hi,rfl,w3.trans (.set 'c'),w4.trans t4,λy hy=>(k4 y hy).trans (w5 y hy),?_⟩
   . rw [jc,ja,jY];omega
   . rw [qq hi,jm,<-qr]
     exact S4
 . have:i=(F k).length:=by omega
   subst this;rw [qo]at w6;exact .inl ⟨⟨vsF,hsq',by rw [htr.1];exact jk _⟩,q σ' H' w3 w5 w6⟩
abbrev Jp(K:Frag)(b:Nat):TS:=Jo λNF=>Yt (Zgb NF (Zl b)) (Xq K 2 (YE (Zs (b+3)) (YE (Zs (b+4)) gNil)))
 (ZB (Ut (Zl (b+1)) (Zl (b+3)) (tCB (VC K) (Zy (Zl (b+4)) tNil))) (Yt (XE K (Zl (b+4))) (Zs (b+5)) (ZmL K b)))
theorem ZaF(l:List Ky)(k:Ky):edges F (l++[k])=edges F l++(F k).map λo=>(k,o):=by
 unfold edges;rw [qe];simp
theorem Zcr(i:Nat):(edges F (ks.take i)).length<=(edges F ks).length:=by
 conv=>rhs;rw [<-uN i ks]
 unfold edges;rw [qe,jc];exact qC _ _
theorem ZhA {H:Hp} {D:Ends} (B:Bs K H1 fd F ks kvs) (hH:H fd=some 'k') (S:Fl H1 H fd lf ah F [] []) (hn:Nm b σ [(0,.ref fd),(1,.ref lf),(2,.ref ah)])
 (q:∀σ' H',NK b [3,4,5] σ σ'->H' fd=some 'k'->Fl H1 H' fd lf ah F (edges F ks) ks->D.nx σ' H'):Jp K b D σ H:=by
 intro NF;refine⟨.ref fd,hn.get (j:=0) 'c',fd,kvs,rfl,hH,λob hNF => ?_⟩;have kl:kvs.length=ks.length:=by rw [<-B.keys,ja]
 have nfl:fd≠lf:=λz=>S.fd1 (by rw [z];exact S.lf0)
 have nfa:fd≠ah:=λz=>S.fd1 (by rw [z];exact S.ah0)
 have S0:Fl H1 (upd H fd (.frz ob 'k')) fd lf ah F [] []:=by
  obtain⟨kl,l1,l2,l3⟩:=S.left;obtain⟨ka,a1,a2,a3,a4⟩:=S.ahd;refine⟨λx u nx e=>by rw [Zc nx];exact S.kp x u nx e,S.fd1,by rw [Zi];exact λz=>(by cases z),S.lf0,S.ah0,S.ne,⟨kl,by rw [Zc (jO nfl)];exact l1,l2,l3⟩,ka,by rw [Zc (jO nfa)];exact a1,a2,λo'=>(a3 o').mono (λp' vs' n1 _ _ _ e' => ?_) (XR λvs z=>by rw [hH]at z;cases z),a4⟩;rw [Zc (λz=>S.fd1 (by rw [<-z];exact n1))]
  exact e'
 let W:Nat->Nat->St->Hp->Prop:=λi m σ' H'=>i<=ks.length/\m=ks.length-i/\NK b [3,4,5] σ σ'/\H' fd=some (.frz ob 'k')/\Fl H1 H' fd lf ah F (edges F (ks.take i)) (ks.take i)
 refine⟨W,⟨ks.length,jR _,rfl,.refl,Zi,by simpa [edges]using S0⟩,λi m σ' H' ⟨w1,w2,w3,w4,w6⟩ => ?_⟩
 by_cases hi:i<ks.length
 . refine .inr ⟨⟨w4,by omega⟩,W (i+1) (ks.length-(i+1)),λσ2 H2 h=>⟨_,by omega,h⟩,λx H3 ⟨p,ka,k,y,e1,e2,e3,e4,e5⟩ => ?_⟩
   subst e4 e5
   have hk:k=ks[i]:=by
    have h1:(kvs.map (·.1))[i]? = some k:=by rw [ji,e1];rfl
    rw [B.keys,jd hi]at h1;exact(jo h1).symm
   obtain⟨pv,vsF,rfl,hsq,htr⟩:=B.vals i k y e1
   have hkn:k∉ks.take i:=λz=>by
    obtain⟨j,hj,e⟩:=List.mem_iff_getElem.mp z;rw [jY]at hj;rw [List.getElem_take,hk]at e;exact ut.mp B.nd j i 'a' hi 'a' e
   have w6':Fl H1 (upd H' p (.tup [.ref ka,.ref pv])) fd lf ah F (edges F (ks.take i)) (ks.take i):=w6.fresh e3;refine⟨p,[.ref ka,.ref pv],rfl,.of Zi,rfl,.ref ka,[.ref pv],rfl,.ref pv,[],rfl,rfl,?_⟩;obtain⟨kl',l1,l2,l3⟩:=w6'.left;have ekk:upd H' p (.tup [.ref ka,.ref pv]) ka=some (.tup (k.map kV)):=US e3 _ _ e2
   have hn2:Nm b ((σ'.set (b+3) (some (.ref ka))).set (b+4) (some (.ref pv))) [(4,.ref pv),(3,.ref ka),(0,.ref fd),(1,.ref lf),(2,.ref ah)]:=
    ((w3 [(0,.ref fd),(1,.ref lf),(2,.ref ah)] 'c' hn).add (j:=3) 'c' 'b').add (j:=4) 'c' 'b'
   refine⟨.ref pv,hn2.get 'c',.inr ⟨pv,vsF,rfl,.inl (B.sq w6'.kp hsq),?_⟩⟩;refine⟨.ref lf,hn2.get 'c',.ref ka,hn2.get 'c',lf,_,rfl,.t l1 ekk ?_,?_⟩
   . have : kl'.length = i := by
      have:=congrArg List.length l2;rw [ja,jY]at this;omega
     rw [j7,this];have:=B.le;omega
   . rw [htr.1]
     have S2:=w6'.put (k:=k) l1 hkn;have ele:=Zcr (F:=F) (ks:=ks) (i+1);have etk:ks.take (i+1)=ks.take i++[k]:=by rw [qq hi,hk]
     rw [etk,ZaF,jc,ja]at ele;refine Zhz (vsF:=vsF) (k:=k) (one:=ka) (pv:=pv) B S2 (hn2.sub λq hq=>by simp at hq ⊢;rcases hq with rfl|rfl|rfl<;>simp) ?_ hsq htr (by have:=B.le;omega) λσ3 H3 y1 y2 y3=>⟨hi,rfl,?_,?_,?_⟩
     . have : ka ≠ lf := fun z => by
        have h1:=l1;rw [<-z,ekk]at h1;cases h1
       rw [Zc this];exact ekk
     . exact((w3.trans (.set (j:=3) 'c')).trans (.set (j:=4) 'c')).trans (y1.wide 'c')
     . rw [y2 fd S.fd1,Zc nfl,Zc (λz=>by rw [<-z,w4]at e3;cases e3)]
       exact w4
     . rw [etk,ZaF]
       exact y3
 . have hie:i=ks.length:=by omega
   subst hie;rw [qo]at w6;refine .inl ⟨⟨w4,by omega⟩,fd,ob,kvs,w4,hNF,q σ' _ w3 Zi ?_⟩;obtain⟨kl,l1,l2,l3⟩:=w6.left;obtain⟨ka,a1,a2,a3,a4⟩:=w6.ahd;refine⟨λx u nx e=>by rw [Zc nx];exact w6.kp x u nx e,S.fd1,by rw [Zi];exact λz=>(by cases z),S.lf0,S.ah0,S.ne,⟨kl,by rw [Zc (jO nfl)];exact l1,l2,l3⟩,ka,by rw [Zc (jO nfa)];exact a1,a2,λo'=>(a3 o').mono (λp' vs' n1 _ _ _ e' => ?_) (XR λvs z=>by rw [w4]at z;cases z),a4⟩
   rw [Zc (λz=>S.fd1 (by rw [<-z];exact n1))];exact e'
end
section
variable{K:Frag}{b:Nat}{H1 HB:Hp}{fd lf ah:Addr}{F:Ky->List Ky}{ks:List Ky}{kvs ka:List (Ky×V)}
abbrev Jq(K:Frag)(b:Nat):TS:=Jo λNF=>ZG (VB (ZiC NF (Zl b)) (Zs 0) (XC (tOp rEq (VL (Zl 1) (Zl 0)) (tC (.int 0)))) (Zl 0) 1 [b+1]) (Zs (b+6))
theorem lv0(k:Ky):Lv F 0 k=decide ((F k).length=0):=by
 unfold Lv;show((F k).all (Sb F 0) && !false)=_;cases h:F k with
 |nil=>rfl
 |cons x l=>simp [Sb]
theorem last_ok {σ:St} {D:Ends} (B:Bs K H1 fd F ks kvs) (hH:HB fd=some 'k') (S:Fl H1 HB fd lf ah F (edges F ks) ks) (hn:Nm b σ [(0,.ref fd),(1,.ref lf)])
 (q:∀lp ys H',HB lp=none->H' lp=some (.lst ys)->(∀x,x≠lp->H' x=HB x)->TR HB ys (ks.filter (Lv F 0))->D.nx (σ.set (b+6) (some (.ref lp))) H'):Jq K b D σ HB:=by
 intro NF;refine⟨.ref fd,hn.get (j:=0) 'c',fd,kvs,rfl,hH,λob hNF => ?_⟩;have nfl:fd≠lf:=λz=>S.fd1 (by rw [z];exact S.lf0)
 obtain⟨kl,l1,l2,l3⟩:=S.left;have kln:kvs.length=ks.length:=by rw [<-B.keys,ja]
 have hb:blk 1 σ [b+1]=[none,some (.ref lf)]:=by
  have:=hn.get (j:=1) (v:=.ref lf) 'c';show [none]++XD σ [b+1]=_;unfold XD;simp [this]
 let W:Nat->Nat->List V->Hp->Prop:=λi m ys H'=>i<=ks.length/\m=ks.length-i/\H'=upd HB fd (.frz ob 'k')/\TR HB ys ((ks.take i).filter (Lv F 0))
 refine⟨W,⟨ks.length,jR _,rfl,rfl,by simpa using TR.nil⟩,λi m ys H' ⟨w1,w2,w3,w4⟩ => ?_⟩;subst w3
 by_cases hi:i<ks.length
 . refine .inr ⟨⟨Zi,by omega⟩,λx H3 ⟨e0,kx,k,y,e1,e2,e3⟩ => ?_⟩
   subst e0 e2
   have hk:k=ks[i]:=by
    have h1:(kvs.map (·.1))[i]? = some k:=by rw [ji,e1];rfl
    rw [B.keys,jd hi]at h1;exact(jo h1).symm
   have hkm:k∈ks:=by rw [hk];exact q5 hi
   have nkf:kx≠fd:=λz=>by rw [z,Zi]at e3;cases e3
   have e3':HB kx=some (.tup (k.map kV)):=by rw [Zc nkf]at e3;exact e3
   have l1':upd HB fd (.frz ob 'k') lf=some (.dT kl):=by rw [Zc (jO nfl)];exact l1
   rw [hb]
   have hyl:ys.length<=i:=by
    rw [w4.1];refine jL (qK _ _) ?_;rw [jY];exact Nat.min_le_left _ _
   have etk:(ks.take (i+1)).filter (Lv F 0)=(ks.take i).filter (Lv F 0)++(if Lv F 0 k=true then [k]else []):=by
    rw [qq hi,uo,<-hk]
    congr 1
    cases h:Lv F 0 k<;>simp [h]
   refine⟨.ref lf,rfl,.ref kx,rfl,lf,.int (F k).length,rfl,?_,?_⟩
   . have:=DGet.t l1' e3
     rw [l3 k hkm]at this;exact this
   . refine⟨rfl,decide ((.int (F k).length:V) = .int 0),rfl,?_⟩
     have hd:decide ((.int (F k).length:V) = .int 0)=Lv F 0 k:=by
      rw [lv0]
      by_cases h:(F k).length=0
      . rw [jN h,h];rfl
      . rw [jF h,jF]
        intro z;injection z with z
        omega
     rw [hd];dsimp only
     by_cases h:Lv F 0 k=true
     . rw [je h]
       refine⟨.ref kx,rfl,by rw [j7];have:=B.le;omega,_,by omega,hi,rfl,rfl,?_⟩;rw [etk,je h];exact w4.snoc e3'
     . rw [jg h]
       refine⟨_,by omega,hi,rfl,rfl,?_⟩;rw [etk,jg h,qj];exact w4
 . have hie:i=ks.length:=by omega
   subst hie;rw [qo]at w4;refine .inl ⟨⟨Zi,by omega⟩,λp hp => ?_⟩;have npf:p≠fd:=λz=>by rw [z,Zi]at hp;cases hp
   have hp':HB p=none:=by rw [Zc npf]at hp;exact hp
   refine⟨fd,ob,kvs,by rw [Zc (jO npf),Zi],hNF,q p ys _ hp' (by rw [Zc npf,Zi]) (λx hx => ?_) w4⟩
   by_cases e:x=fd
   . rw [e,Zi,hH]
   . rw [Zc e,Zc hx,Zc e]
structure Wk(HB H:Hp)(lf:Addr)(ks:List Ky)(f:Ky->Nat):Prop where
 kp:∀x o,x≠lf->HB x=some o->H x=some o
 left:∃kl,H lf=some (.dT kl)/\kl.map (·.1)=ks/\∀k∈ks,Zm kl k=some (.int (f k))
abbrev ZmM(K:Frag)(b:Nat):TS:=ZB (Ut (Zl (b+1)) (Zl (b+3)) (tOp (rI0 λi j => .int (i-j)) (VL (Zl (b+1)) (Zl (b+3))) (tC (.int 1))))
 (QE (XC (tOp rEq (VL (Zl (b+1)) (Zl (b+3))) (tC (.int 0)))) (XA (tBM K "list" rAppend (Zl (b+9)) (Zy (Zl (b+3)) tNil))) tNext)
theorem ZjX {H:Hp} {D:Ends} {f:Ky->Nat} {ea a:Addr} {E:List Ky} {k:Ky} (S:Wk HB H lf ks f) (hn:Nm b σ [(1,.ref lf),(3,.ref a),(9,.ref ea)]) (hlb:HB lf≠none) (ha:HB a=some (.tup (k.map kV))) (hal:a≠lf) (hk:k∈ks) (hf:1<=f k)
 (he:H ea=some (.lst es)) (h0:HB ea=none) (ht:TR HB es E) (hl:ks.length<100000) (hel:E.length<100000)
 (q:∀H' es' E',(∀x,x≠lf->x≠ea->H' x=H x)->Wk HB H' lf ks (λx=>if x=k then f k-1 else f x)->H' ea=some (.lst es')->TR HB es' E'->E'=(if f k=1 then E++[k]else E)->D.nx σ H'):ZmM K b D σ H:=by
 obtain⟨kl,l1,l2,l3⟩:=S.left;have hak:=S.kp a _ hal ha;have nel:ea≠lf:=λz=>by rw [z,l1]at he;cases he
 have hkl:kl.length=ks.length:=by rw [<-l2,ja]
 have g1:=DGet.t l1 hak;rw [l3 k hk]at g1;refine⟨.ref lf,hn.get 'c',.ref a,hn.get 'c',lf,_,rfl,g1,(f k:Int),1,rfl,rfl,.ref lf,hn.get 'c',.ref a,hn.get 'c',lf,_,rfl,.t l1 hak (by rw [j7,hkl];omega),?_⟩;have ev:((f k:Int)-1)=((f k-1:Nat):Int):=by omega
 dsimp only;rw [ev];have hak':upd H lf (.dT (Zv kl k (.int ((f k-1:Nat):Int)))) a=some (.tup (k.map kV)):=by rw [Zc hal];exact hak
 have g2:=DGet.t (H:=upd H lf (.dT (Zv kl k (.int ((f k-1:Nat):Int))))) (a:=lf) (b:=a) (k:=k) Zi hak';rw [VD,je rfl]at g2
 have S':Wk HB (upd H lf (.dT (Zv kl k (.int ((f k-1:Nat):Int))))) lf ks (λx=>if x=k then f k-1 else f x):=by
  refine⟨λx o nx e=>by rw [Zc nx];exact S.kp x o nx e,_,Zi,by rw [keys_put (by rw [l2];exact hk)];exact l2,λx hx => ?_⟩;rw [VD]
  by_cases e:x=k
  . rw [je e,je e]
  . rw [jg e,jg e];exact l3 x hx
 have he':upd H lf (.dT (Zv kl k (.int ((f k-1:Nat):Int)))) ea=some (.lst es):=by rw [Zc nel];exact he
 refine⟨.ref lf,hn.get 'c',.ref a,hn.get 'c',lf,_,rfl,g2,rfl,decide ((.int ((f k-1:Nat):Int):V) = .int 0),rfl,?_⟩
 have hd:decide ((.int ((f k-1:Nat):Int):V) = .int 0)=decide (f k=1):=by
  by_cases h:f k=1
  . rw [jN h,h];rfl
  . rw [jF h,jF]
    intro z;injection z with z
    omega
 rw [hd];dsimp only
 by_cases h:f k=1
 . rw [jN h,je rfl]
   refine⟨.ref ea,hn.get 'c',.inl ⟨rfl,es,.of he'⟩,.ref a,hn.get 'c',ea,es,.ref a,rfl,rfl,he',by rw [ht.1,j7];omega,?_⟩;refine q _ (es++[.ref a]) (E++[k]) (λx n1 n2=>by rw [Zc n2,Zc n1]) ⟨λx o nx e => ?_,?_⟩ Zi (ht.snoc ha) (by rw [je h])
   . rw [Zc (λz=>by rw [z,h0]at e;cases e)]
     exact S'.kp x o nx e
   . obtain⟨kl2,y1,y2,y3⟩:=S'.left
     exact⟨kl2,by rw [Zc (jO nel)];exact y1,y2,y3⟩
 . rw [jF h,jg 'b']
   exact q _ es E (λx n1 n2=>by rw [Zc n1]) S' he' ht (by rw [jg h])
def EI(F:Ky->List Ky)(ks:List Ky)(j:Nat)(f:Ky->Nat)(E:List Ky):Prop:=E.Nodup/\∀x,x∈E ↔ x∈ks/\lc F j [] x≠0/\f x=0
theorem EI.step{j:Nat}{f:Ky->Nat}{E:List Ky}{k:Ky}(h:EI F ks j f E)(hk:k∈ks)(hf:1<=f k)(hl:lc F j [] k≠0):EI F ks j (λx=>if x=k then f k-1 else f x) (if f k=1 then E++[k]else E):=by
 have nk:k∉E:=λz=>by have:=((h.2 k).mp z).2.2;omega
 by_cases e:f k=1
 . rw [je e]
   refine⟨List.nodup_append.mpr ⟨h.1,by simp,λa ha c hc z=>nk (by rw [<-ju.mp hc,<-z];exact ha)⟩,λx => ?_⟩;rw [jK,ju,h.2 x];dsimp only
   by_cases ex:x=k
   . subst ex
     rw [je rfl];exact⟨λ_=>⟨hk,hl,by omega⟩,λ_ => .inr rfl⟩
   . rw [jg ex]
     exact⟨λz=>z.resolve_right ex,.inl⟩
 . rw [jg e]
   refine⟨h.1,λx => ?_⟩;rw [h.2 x];dsimp only
   by_cases ex:x=k
   . subst ex
     rw [je rfl];exact⟨λz=>by have:=z.2.2;omega,λz=>by have:=z.2.2;omega⟩
   . rw [jg ex]
end
theorem UT{α:Type} [DecidableEq α]:∀(l S:List α),l.Nodup->(∀x∈l,x∈S)->l.length<=S.length
 | [],_,_,_=>jR _
 |x::l,S,hn,hs=>by
  obtain⟨h1,h2⟩:=j8.mp hn;have hx:=hs x jj;have:=UT l (S.erase x) h2 λy hy=>(List.mem_erase_of_ne (λz=>h1 (by rw [<-z];exact hy))).mpr (hs y (jq _ hy))
  have e:=List.length_erase_of_mem hx;have:=qW hx;rw [jx];omega
section
variable{K:Frag}{b:Nat}{H1 HB:Hp}{fd lf ah:Addr}{F:Ky->List Ky}{ks:List Ky}{kvs ka:List (Ky×V)}
structure Fx(K:Frag)(H1 HB:Hp)(fd lf ah:Addr)(F:Ky->List Ky)(ks:List Ky)(kvs ka:List (Ky×V)):Prop where
 bs:Bs K H1 fd F ks kvs
 hf:HB fd=some 'k'
 hl:∃kl,HB lf=some (.dT kl)
 ha:HB ah=some (.dT ka)
 nfl:fd≠lf
 nal:ah≠lf
 rows:∀o,Ah H1 HB lf ah (Pe (edges F ks) o) (Zm ka o)
theorem Wk.congr{H:Hp}{f g:Ky->Nat}(S:Wk HB H lf ks f)(h:∀k∈ks,f k=g k):Wk HB H lf ks g:=by
 obtain⟨kl,y1,y2,y3⟩:=S.left;exact⟨S.kp,kl,y1,y2,λk hk=>by rw [<-h k hk];exact y3 k hk⟩
theorem Wk.fresh{H:Hp}{f:Ky->Nat}{p:Addr}{o:HO}(S:Wk HB H lf ks f)(hp:H p=none)(hb:HB p=none):Wk HB (upd H p o) lf ks f:=by
 obtain⟨kl,y1,y2,y3⟩:=S.left;refine⟨λx u nx e => ?_,kl,?_,y2,y3⟩
 . rw [Zc (λz=>by rw [z,hb]at e;cases e)]
   exact S.kp x u nx e
 . rw [Zc (λz=>by rw [z,hp]at y1;cases y1)]
   exact y1
theorem EI.congr{j:Nat}{f g:Ky->Nat}{E:List Ky}(S:EI F ks j f E)(h:∀k∈ks,f k=g k):EI F ks j g E:=⟨S.1,λx=>by
 rw [S.2 x];exact⟨λz=>⟨z.1,z.2.1,by rw [<-h x z.1];exact z.2.2⟩,λz=>⟨z.1,z.2.1,by rw [h x z.1];exact z.2.2⟩⟩⟩
abbrev ZmN(K:Frag)(b:Nat):TS:=Yt (XE K (QV (Zl (b+2)) (Zl (b+5)) (Xr tNil))) (Zs (b+3)) (ZmM K b)
theorem Zk9(j:Nat)(Dn:List Ky)(k:Ky):lc F j Dn k<=lc F j [] k:=by
 unfold lc;refine List.countP_mono_left λo _ h => ?_
 simp at h ⊢;exact h.1
theorem ZjY {H:Hp} {D:Ends} {j:Nat} {Dn E:List Ky} {ea oth:Addr} {o:Ky} (X:Fx K H1 HB fd lf ah F ks kvs ka) (S:Wk HB H lf ks (lc F j Dn)) (hn:Nm b σ [(1,.ref lf),(2,.ref ah),(5,.ref oth),(9,.ref ea)]) (ho:HB oth=some (.tup (o.map kV)))
 (hs:Sb F j o=false) (hd:o∉Dn) (he:H ea=some (.lst es)) (h0:HB ea=none) (ht:TR HB es E) (hE:EI F ks j (lc F j Dn) E)
 (q:∀σ' H' es' E',NK b [3] σ σ'->(∀x u,x≠lf->x≠ea->H x=some u->H' x=some u)->Wk HB H' lf ks (lc F j (Dn++[o]))->H' ea=some (.lst es')->TR HB es' E'->EI F ks j (lc F j (Dn++[o])) E'->D.nx σ' H'):ZmN K b D σ H:=by
 have hle:=X.bs.le;have nol:oth≠lf:=λz=>by obtain⟨kl,hl⟩:=X.hl;rw [z,hl]at ho;cases ho
 have hah:=S.kp ah _ X.nal X.ha;have hoH:=S.kp oth _ nol ho;refine⟨.ref ah,hn.get 'c',ah,rfl,.inr ⟨ka,.inl hah⟩,.ref oth,hn.get 'c',jR _,λp0 hp0 => ?_⟩;have nap:ah≠p0:=λz=>by rw [z,hp0]at hah;cases hah
 have nep:ea≠p0:=λz=>by rw [z,hp0]at he;cases he
 have hb0:HB p0=none:=by
  cases e:HB p0 with
  |none=>rfl
  |some u=>
   by_cases z:p0=lf
   . obtain⟨kl,y1,_⟩:=S.left
     rw [<-z,hp0]at y1;cases y1
   . have:=S.kp p0 u z e
     rw [hp0]at this;cases this
 have S0:Wk HB (upd H p0 'p') lf ks (lc F j Dn):=S.fresh hp0 hb0;have he0:upd H p0 'p' ea=some (.lst es):=by rw [Zc nep];exact he
 have g:=DGet.t (H:=upd H p0 'p') (a:=ah) (b:=oth) (kvs:=ka) (k:=o) (by rw [Zc nap];exact hah) (US hp0 _ _ hoH);refine⟨_,g,?_⟩;have hcs:∀k∈ks,ct k (Pe (edges F ks) o)=ct o (F k):=λk hk=>ZbS X.bs.nd hk
 have hpm:∀k∈Pe (edges F ks) o,k∈ks:=λk hk=>(Zgc hk).1
 have eqf:∀k∈ks,lc F j Dn k-ct k (Pe (edges F ks) o)=lc F j (Dn++[o]) k:=λk hk=>by
  rw [hcs k hk,Zc1 (F:=F) (k:=k) hs hd];omega
 obtain⟨p,vs,ev,hp,htr,hpe⟩:∃p vs,(Zm ka o).getD (.ref p0) = .ref p/\upd H p0 'p' p=some (.lst vs)/\TR HB vs (Pe (edges F ks) o)/\(∀(H':Hp)(f:Ky->Nat),Wk HB H' lf ks f->0<(Pe (edges F ks) o).length->H' p=some (.lst vs)):=by
  have hr:=X.rows o;cases hv:Zm ka o with
  |none=>
   rw [hv]at hr;have hr:Pe (edges F ks) o=[]:=hr;exact⟨p0,[],rfl,Zi,by rw [hr];exact TR.nil,λ_ _ _ z=>by rw [hr]at z;cases z⟩
  |some v=>
   rw [hv]at hr;obtain⟨p,vs,rfl,h1,h2,h3,h4,h5⟩:=hr;have:=S.kp p _ h4 h1;exact⟨p,vs,rfl,by rw [Zc (λz=>by rw [z,hp0]at this;cases this)];exact this,h2,λH' f w _=>w.kp p _ h4 h1⟩
 rw [ev];generalize hQ:Pe (edges F ks) o=Q at *
 have hEl:∀(f:Ky->Nat)(E':List Ky),EI F ks j f E'->E'.length<100000:=λf E' h=>by
  have:=UT E' ks h.1 λx hx=>((h.2 x).mp hx).1
  omega
 let W:Nat->Nat->St->Hp->Prop:=λi m σ' H'=>i<=Q.length/\m=Q.length-i/\NK b [3] σ σ'/\H' p=some (.lst vs)/\(∀x u,x≠lf->x≠ea->H x=some u->H' x=some u)/\Wk HB H' lf ks (λx=>lc F j Dn x-ct x (Q.take i))/\∃es' E',H' ea=some (.lst es')/\TR HB es' E'/\EI F ks j (λx=>lc F j Dn x-ct x (Q.take i)) E'
 refine .inl ⟨p,vs,rfl,.of hp,W,⟨Q.length,jR _,rfl,.refl,hp,(λx u _ _ e=>by rw [Zc (λz=>by rw [z,hp0]at e;cases e)];exact e),S0.congr λk _=>by simp [ct],es,E,he0,ht,hE.congr λk _=>by simp [ct]⟩,λi m σ' H' ⟨w1,w2,w3,w4,w4',w5,es',E',w6,w7,w8⟩ => ?_⟩
 by_cases hi:i<Q.length
 . obtain⟨ta,e1,e2⟩:=htr.at hi
   refine .inr ⟨⟨vs,.ref ta,.of w4,e1⟩,W (i+1) (Q.length-(i+1)),λσ2 H2 h=>⟨_,by omega,h⟩,λx H3 ⟨e3,e4⟩ => ?_⟩;subst e3
   have ex:x = .ref ta:=by
    have:=e4 vs (.of w4);rw [e1]at this;exact(jo this).symm
   subst ex;have hkm:Q[i]∈ks:=hpm _ (q5 hi);have ntl:ta≠lf:=λz=>by obtain⟨kl,hl⟩:=X.hl;rw [z,hl]at e2;cases e2
   have hlt:=ZaK hi;have hge:ct Q[i] Q<=lc F j Dn Q[i]:=by rw [hcs _ hkm,Zc1 (F:=F) (k:=Q[i]) hs hd];omega
   have hn':Nm b (σ'.set (b+3) (some (.ref ta))) [(1,.ref lf),(3,.ref ta),(9,.ref ea)]:=
    ((w3 [(1,.ref lf),(9,.ref ea)] 'c' (hn.sub 'c')).add (j:=3) (v:=.ref ta) 'c' 'b').sub 'c'
   have hstep:∀y,(if y=Q[i]then lc F j Dn Q[i]-ct Q[i] (Q.take i)-1 else lc F j Dn y-ct y (Q.take i))=lc F j Dn y-ct y (Q.take (i+1)):=λy=>by
    rw [Zaw hi]
    by_cases e:y=Q[i]
    . rw [je e,e,je rfl];omega
    . rw [jg e,jg (jO e)];rfl
   refine ZjX (E:=E') (es:=es') w5 hn' (by obtain⟨kl,hl⟩:=X.hl;rw [hl];exact λz=>by cases z) e2 ntl hkm 'a' w6 h0 w7 'a' (hEl _ _ w8) λH4 es4 E4 y0 y1 y2 y3 y4 => ?_
   have y1':=y1.congr (g:=λx=>lc F j Dn x-ct x (Q.take (i+1))) λk _=>hstep k
   refine⟨hi,rfl,w3.trans (.set 'c'),hpe H4 _ y1' 'a',(λx u n1 n2 e=>(y0 x n1 n2).trans (w4' x u n1 n2 e)),y1',es4,E4,y2,y3,?_⟩;have z:=w8.step hkm 'a' (by have:=Zk9 (F:=F) j Dn Q[i];omega);rw [y4];exact z.congr λk _=>hstep k
 . have hie:i=Q.length:=by omega
   subst hie;rw [qo]at w5 w8;exact .inl ⟨⟨vs,.of w4,by rw [htr.1];exact jk _⟩,q σ' H' es' E' w3 w4' (w5.congr eqf) w6 w7 (w8.congr eqf)⟩
end
section
variable{K:Frag}{b:Nat}{H1 HB:Hp}{fd lf ah:Addr}{F:Ky->List Ky}{ks:List Ky}{kvs ka:List (Ky×V)}
abbrev ZmO(K:Frag)(b:Nat):TS:=Yt (XE K (Zl (b+6))) (Zs (b+5)) (ZmN K b)
theorem ZjZ {H:Hp} {D:Ends} {j:Nat} {L:List Ky} {ea lp:Addr} (X:Fx K H1 HB fd lf ah F ks kvs ka) (S:Wk HB H lf ks (lc F j [])) (hn:Nm b σ [(1,.ref lf),(2,.ref ah),(6,.ref lp),(9,.ref ea)])
 (hlp:H lp=some (.lst vsL)) (nle:lp≠ea) (nll:lp≠lf) (ht:TR HB vsL L) (hL1:L.Nodup) (hL2:∀o,o∈L ↔ o∈ks/\Lv F j o=true) (he:H ea=some 'p') (h0:HB ea=none)
 (q:∀σ' H' es' E',NK b [3,5] σ σ'->Wk HB H' lf ks (lc F (j+1) [])->H' ea=some (.lst es')->TR HB es' E'->E'.Nodup->(∀o,o∈E' ↔ o∈ks/\Lv F (j+1) o=true)->D.nx σ' H'):ZmO K b D σ H:=by
 refine⟨.ref lp,hn.get 'c',.inl ⟨lp,vsL,rfl,.of hlp,?_⟩⟩
 let W:Nat->Nat->St->Hp->Prop:=λi m σ' H'=>i<=L.length/\m=L.length-i/\NK b [3,5] σ σ'/\H' lp=some (.lst vsL)/\Wk HB H' lf ks (lc F j (L.take i))/\∃es' E',H' ea=some (.lst es')/\TR HB es' E'/\EI F ks j (lc F j (L.take i)) E'
 refine⟨W,⟨L.length,jR _,rfl,.refl,hlp,by simpa using S,[],[],he,.nil,?_⟩,λi m σ' H' ⟨w1,w2,w3,w4,w5,es',E',w6,w7,w8⟩ => ?_⟩
 . exact⟨qt,λx=>by simp⟩
 by_cases hi:i<L.length
 . obtain⟨ta,e1,e2⟩:=ht.at hi
   refine .inr ⟨⟨vsL,.ref ta,.of w4,e1⟩,W (i+1) (L.length-(i+1)),λσ2 H2 h=>⟨_,by omega,h⟩,λx H3 ⟨e3,e4⟩ => ?_⟩;subst e3
   have ex:x = .ref ta:=by
    have:=e4 vsL (.of w4);rw [e1]at this;exact(jo this).symm
   subst ex;have hm:=(hL2 L[i]).mp (q5 hi)
   have hs:Sb F j L[i]=false:=by
    have:=hm.2;unfold Lv at this;rw [jV,Bool.not_eq_true']at this;exact this.2
   have hd:L[i]∉L.take i:=λz=>by
    obtain⟨a,ha,e⟩:=List.mem_iff_getElem.mp z;rw [jY]at ha;rw [List.getElem_take]at e;exact ut.mp hL1 a i 'a' hi 'a' e
   have hn':Nm b (σ'.set (b+5) (some (.ref ta))) [(1,.ref lf),(2,.ref ah),(5,.ref ta),(9,.ref ea)]:=
    ((w3 [(1,.ref lf),(2,.ref ah),(9,.ref ea)] 'c' (hn.sub 'c')).add (j:=5) (v:=.ref ta) 'c' 'b').sub 'c'
   refine ZjY X w5 hn' e2 hs hd w6 h0 w7 w8 λσ4 H4 es4 E4 y0 y1 y2 y3 y4 y5=>⟨hi,rfl,(w3.trans (.set (j:=5) 'c')).trans (y0.wide 'c'),y1 lp _ nll nle w4,?_,es4,E4,y3,y4,?_⟩
   . rw [qq hi];exact y2
   . rw [qq hi];exact y5
 . have hie:i=L.length:=by omega
   subst hie;rw [qo]at w5 w8;have ea2:∀k∈ks,lc F j L k=lc F (j+1) [] k:=λk hk=>ZjW (X.bs.cl k hk) hL2
   refine .inl ⟨⟨vsL,.of w4,by rw [ht.1];exact jk _⟩,q σ' H' es' E' w3 (w5.congr ea2) w6 w7 w8.1 λo => ?_⟩;rw [(w8.congr ea2).2 o];unfold Lv;rw [jV,Bool.not_eq_true'];constructor
   . rintro⟨z1,z2,z3⟩
     refine⟨z1,lc_zero.mp z3,?_⟩;cases h:Sb F (j+1) o with
     |false=>rfl
     |true=>exact absurd (lc_zero.mpr h) z2
   . rintro⟨z1,z2,z3⟩
     exact⟨z1,λz=>(by rw [lc_zero.mp z]at z3;cases z3),lc_zero.mpr z2⟩
end
section
variable{K:Frag}{b:Nat}{H1 HB:Hp}{fd lf ah:Addr}{F:Ky->List Ky}{ks:List Ky}{kvs ka:List (Ky×V)}
abbrev ZmP(K:Frag)(i:Nat):TE:=tCB (VC K) (Zy (Zl i) tNil)
abbrev tWh(K:Frag)(b:Nat):TS:=QF (XC (tOp (rI0 λi j => .bl (decide (j<i))) (ZmP K (b+6)) (tC (.int 0))))
 (ZB (ZG (tOp (rI0 λi j => .int (i+j)) (Zl (b+7)) (tC (.int 1))) (Zs (b+7)))
 (ZB (ZG (tOp (rI0 λi j => .int (i+j)) (Zl (b+8)) (ZmP K (b+6))) (Zs (b+8)))
 (ZB (ZG (Xr tNil) (Zs (b+9))) (ZB (ZmO K b) (ZG (Zl (b+9)) (Zs (b+6)))))))
theorem ZhB{L:List Ky}{j:Nat}(hn:ks.Nodup)(h1:L.Nodup)(h2:∀o,o∈L ↔ o∈ks/\Lv F j o=true):L.length=(ks.filter (Lv F j)).length:=by
 have a:=UT L (ks.filter (Lv F j)) h1 λx hx=>qh.mpr ((h2 x).mp hx)
 have c:=UT (ks.filter (Lv F j)) L (List.Pairwise.filter _ hn) λx hx=>(h2 x).mpr (qh.mp hx)
 omega
theorem Zla {H:Hp} {D:Ends} {L:List Ky} {lp:Addr} (X:Fx K H1 HB fd lf ah F ks kvs ka) (S:Wk HB H lf ks (lc F 0 [])) (hn:Nm b σ [(0,.ref fd),(1,.ref lf),(2,.ref ah),(6,.ref lp),(7,.int 0),(8,.int 0)])
 (hlp:H lp=some (.lst vsL)) (hl0:HB lp=none) (nll:lp≠lf) (ht:TR HB vsL L) (hL1:L.Nodup) (hL2:∀o,o∈L ↔ o∈ks/\Lv F 0 o=true)
 (q:∀σ' H' j,Nm b σ' [(0,.ref fd),(7,.int (j:Nat)),(8,.int (cnt F ks j:Nat))]->(∃f,Wk HB H' lf ks f)->kah F ks (ks.length+1) 0=(if cnt F ks j=ks.length then some j else none)->D.nx σ' H'):tWh K b D σ H:=by
 have c0:cnt F ks 0=0:=by
  unfold cnt;rw [List.length_eq_zero_iff,List.filter_eq_nil_iff];intro a _ z;cases z
 let W:Nat->St->Hp->Prop:=λm σ' H'=>∃j L lp vsL,Nm b σ' [(0,.ref fd),(1,.ref lf),(2,.ref ah),(6,.ref lp),(7,.int (j:Nat)),(8,.int (cnt F ks j:Nat))]/\Wk HB H' lf ks (lc F j [])/\H' lp=some (.lst vsL)/\HB lp=none/\lp≠lf/\TR HB vsL L/\L.Nodup/\(∀o,o∈L ↔ o∈ks/\Lv F j o=true)/\ks.length+1<=m+cnt F ks j/\kah F ks m j=kah F ks (ks.length+1) 0
 refine⟨W,⟨ks.length+1,0,L,lp,vsL,by rw [c0];exact hn,S,hlp,hl0,nll,ht,hL1,hL2,by rw [c0];exact jk _,rfl⟩,λm σ' H' ⟨j,L,lp,vsL,w1,w2,w3,w4,w5,w6,w7,w8,w9,w10⟩ => ?_⟩;have hle:=X.bs.le;have hcl:=cnt_le (F:=F) (ks:=ks) j;have hll:=ZhB X.bs.nd w7 w8;have hcs:=cnt_succ (F:=F) (ks:=ks) j;obtain⟨m',rfl⟩:∃m',m=m'+1:=⟨m-1,by omega⟩
 refine⟨.ref lp,w1.get 'c',.inr ⟨lp,vsL,rfl,.inl (.of w3),(vsL.length:Int),0,rfl,rfl,decide ((0:Int)<(vsL.length:Int)),rfl,?_⟩⟩;dsimp only;rw [show kah F ks (m'+1) j=(if ks.all (λk => !Lv F j k)then(if cnt F ks j=ks.length then some j else none)else kah F ks m' (j+1))from rfl]at w10
 by_cases hz:L=[]
 . have hv:vsL.length=0:=by rw [w6.1,hz];rfl
   rw [hv,jg 'b'];refine q σ' H' j (w1.sub 'c') ⟨_,w2⟩ ?_;rw [<-w10,je];rw [jT];intro k hk;cases h:Lv F j k with
   |false=>rfl
   |true=>
    have:=(w8 k).mpr ⟨hk,h⟩;rw [hz]at this;cases this
 . obtain⟨o1,ho1⟩:=List.exists_mem_of_ne_nil L hz
   have hpos:=qW ho1;have hv:0<vsL.length:=by rw [w6.1];exact hpos
   rw [je (by rw [yP];omega)]
   have hno:¬(ks.all (λk => !Lv F j k)=true):=λz=>by
    have:=jT.mp z o1 ((w8 o1).mp ho1).1;rw [((w8 o1).mp ho1).2]at this;cases this
   rw [jg hno]at w10;refine⟨W m',λσ2 H2 h=>⟨m',uB _,h⟩,?_⟩;refine⟨.int (j:Nat),w1.get 'c',(j:Int),1,rfl,rfl,?_⟩
   have n1:Nm b (σ'.set (b+7) (some (.int ((j:Int)+1)))) [(7,.int ((j+1:Nat):Int)),(0,.ref fd),(1,.ref lf),(2,.ref ah),(6,.ref lp),(8,.int (cnt F ks j:Nat))]:=by
    rw [show((j:Int)+1)=((j+1:Nat):Int) by push_cast;rfl];exact(w1.sub 'c').add (j:=7) 'c' 'b'
   refine⟨.int (cnt F ks j:Nat),n1.get 'c',.ref lp,n1.get 'c',.inr ⟨lp,vsL,rfl,.inl (.of w3),(cnt F ks j:Int),(vsL.length:Int),rfl,rfl,?_⟩⟩
   have n2:Nm b ((σ'.set (b+7) (some (.int ((j:Int)+1)))).set (b+8) (some (.int ((cnt F ks j:Int)+(vsL.length:Int))))) [(8,.int (cnt F ks (j+1):Nat)),(7,.int ((j+1:Nat):Int)),(0,.ref fd),(1,.ref lf),(2,.ref ah),(6,.ref lp)]:=by
    rw [show((cnt F ks j:Int)+(vsL.length:Int))=((cnt F ks (j+1):Nat):Int) by rw [hcs,w6.1,hll];push_cast;rfl];exact(n1.sub 'c').add (j:=8) 'c' 'b'
   refine⟨jR _,λea he0 => ?_⟩;have nle:lp≠ea:=λz=>by rw [z,he0]at w3;cases w3
   have hbe:HB ea=none:=by
    cases e:HB ea with
    |none=>rfl
    |some u=>
     by_cases z:ea=lf
     . obtain⟨kl,y1,_⟩:=w2.left
       rw [<-z,he0]at y1;cases y1
     . have:=w2.kp ea u z e
       rw [he0]at this;cases this
   have n3:=(n2.sub (l':=[(8,.int (cnt F ks (j+1):Nat)),(7,.int ((j+1:Nat):Int)),(0,.ref fd),(1,.ref lf),(2,.ref ah),(6,.ref lp)]) 'c').add (j:=9) (v:=.ref ea) 'c' 'b';refine ZjZ X (w2.fresh he0 hbe) (n3.sub 'c') (by rw [Zc nle];exact w3) nle w5 w6 w7 w8 Zi hbe λσ4 H4 es4 E4 y1 y2 y3 y4 y5 y6 => ?_
   have n4:=y1 [(9,.ref ea),(8,.int (cnt F ks (j+1):Nat)),(7,.int ((j+1:Nat):Int)),(0,.ref fd),(1,.ref lf),(2,.ref ah)] 'c' (n3.sub 'c');refine⟨.ref ea,n4.get 'c',j+1,E4,ea,es4,?_,y2,y3,hbe,?_,y4,y5,y6,?_,w10⟩
   . exact((n4.sub (l':=[(8,.int (cnt F ks (j+1):Nat)),(7,.int ((j+1:Nat):Int)),(0,.ref fd),(1,.ref lf),(2,.ref ah)]) 'c').add (j:=6) (v:=.ref ea) 'c' 'b').sub 'c'
   . intro z
     obtain⟨kl,y,_⟩:=y2.left;rw [<-z,y3]at y;cases y
   . omega
end
def kysT:List D->Option (List Ky)
 | []=>some []
 |x::xs=>match Yx x,kysT xs with
  |some k,some l=>some (k::l)
  |_,_=>none
def rowsT:List D->Option (List (List Ky))
 | []=>some []
 | .lst ds::xs=>match kysT ds,rowsT xs with
  |some a,some l=>some (a::l)
  |_,_=>none
 |_=>none
def Fo(ks:List Ky)(fss:List (List Ky))(k:Ky):List Ky:=(Y1 k ks fss).getD []
def resD:Option Nat->D
 |some j => .int j
 |none => .non
open Classical in
noncomputable def longD:Option D->Option D
 |some (.dtt ks xs)=>match rowsT xs with
  |some fss=>if ks.Nodup/\ks.length=fss.length/\(∀k∈ks,∀o∈Fo ks fss k,o∈ks)/\ks.length+(edges (Fo ks fss) ks).length<100000 then some (resD (kah (Fo ks fss) ks (ks.length+1) 0))else none
  |none=>none
 |_=>none
theorem Zc3:∀{ds:List D}{L:List Ky}{vs:List V},kysT ds=some L->RepL cA av H ds vs->TR H vs L
 | [],L,vs,h,l=>by cases h;rw [l.nil_of];exact TR.nil
 |x::xs,L,vs,h,l=>by
  obtain⟨v,r,rfl,h1,h2⟩:=l.uncons;unfold kysT at h;cases hk:Yx x with
  |none=>rw [hk]at h;cases h
  |some k=>
   cases hks:kysT xs with
   |none=>rw [hk,hks]at h;cases h
   |some l'=>
    rw [hk,hks]at h;cases h;obtain⟨a,rfl,ha⟩:=UJ hk h1;have ih:=Zc3 hks h2;refine⟨by simp [ih.1],λi v k' e1 e2 => ?_⟩;cases i with
    |zero=>cases e1;cases e2;exact⟨a,rfl,ha⟩
    |succ i=>exact ih.2 i v k' e1 e2
theorem ZbT{cA:Kn}:∀{xs:List D}{fss:List (List Ky)}{vs:List V},rowsT xs=some fss->RepL cA av H xs vs->xs.length=fss.length/\∀(i:Nat)(v:V)(f:List Ky),vs[i]? = some v->fss[i]? = some f->∃p ws,v = .ref p/\SqL cA.K H p ws/\TR H ws f
 | [],fss,vs,h,l=>by cases h;exact⟨rfl,λi v f e=>by rw [l.nil_of]at e;simp at e⟩
 |x::xs,fss,vs,h,l=>by
  obtain⟨v,r,rfl,h1,h2⟩:=l.uncons;cases x<;>first|(cases h;done)|skip
  rename_i ds;unfold rowsT at h;cases hk:kysT ds with
  |none=>rw [hk]at h;cases h
  |some k=>
   cases hks:rowsT xs with
   |none=>rw [hk,hks]at h;cases h
   |some l'=>
    rw [hk,hks]at h;cases h;obtain⟨p,ws,rfl,_,sq,lw⟩:=h1;obtain⟨e0,ih⟩:=ZbT hks h2;refine⟨by simp [e0],λi v f e1 e2 => ?_⟩;cases i with
    |zero=>cases e1;cases e2;exact⟨p,ws,rfl,sq,Zc3 hk lw⟩
    |succ i=>exact ih i v f e1 e2
theorem Zc4{α:Type}:∀{ks:List Ky}{fs:List α}{i:Nat}{k:Ky}{f:α},ks.Nodup->ks[i]? = some k->fs[i]? = some f->Y1 k ks fs=some f
 | [],_,i,k,f,_,h,_=>by simp at h
 |k0::ks,[],i,k,f,_,_,h=>by simp at h
 |k0::ks,g::fs,i,k,f,hn,h1,h2=>by
  unfold Y1;obtain⟨n1,n2⟩:=j8.mp hn;cases i with
  |zero=>cases h1;cases h2;rw [je rfl]
  |succ i=>
   have h1':ks[i]? = some k:=by simpa using h1
   rw [jg (λz=>n1 (by rw [z];exact jI h1'))];exact Zc4 n2 h1' (by simpa using h2)
section
variable{K:Frag}{b:Nat}{H1 HB:Hp}{fd lf ah:Addr}{F:Ky->List Ky}{ks:List Ky}{kvs ka:List (Ky×V)}
abbrev Zlb(K:Frag)(sp:Sp)(E:XK)(b:Nat):TS:=ZB (ZG (Um sp [] E (Zy (Zl 0) (Zy (Zl 1) tNil))) (Zs b)) (ZB (ZG tDNewT (Zs (b+1))) (ZB (ZG tDNewT (Zs (b+2))) (ZB (Jp K b) (ZB (Jq K b)
 (ZB (ZG (tC (.int 0)) (Zs (b+7))) (ZB (ZG (tC (.int 0)) (Zs (b+8))) (ZB (tWh K b) (Xp (tIf (XC (tOp rEq (Zl (b+8)) (tCB (UP K) (Zy (Zl b) tNil)))) (Zl (b+7)) (tC .non))))))))))
theorem Zei{D:Ends}{σ:St}(B:Bs K H1 fd F ks kvs)(hb:b+10<=σ.length)(q:∀H',Same H1 H'->∀v:V,(v=match kah F ks (ks.length+1) 0 with|some j=>V.int (j:Nat)|none=>V.non)->D.rt v H') :
 ZB (ZG tDNewT (Zs (b+1))) (ZB (ZG tDNewT (Zs (b+2))) (ZB (Jp K b) (ZB (Jq K b) (ZB (ZG (tC (.int 0)) (Zs (b+7))) (ZB (ZG (tC (.int 0)) (Zs (b+8))) (ZB (tWh K b) (Xp (tIf (XC (tOp rEq (Zl (b+8)) (tCB (UP K) (Zy (Zl b) tNil)))) (Zl (b+7)) (tC .non))))))))) D (σ.set b (some (.ref fd))) H1:=by
 have n0:Nm b (σ.set b (some (.ref fd))) [(0,.ref fd)]:=⟨by rw [jU];exact hb,λp hp=>by
  rw [ju.mp hp];exact jB 'a'⟩
 intro lf hlf;have n1:=n0.add (j:=1) (v:=.ref lf) 'c' 'b';intro ah hah;have n2:=n1.add (j:=2) (v:=.ref ah) 'c' 'b';have nla:lf≠ah:=λz=>by rw [z,Zi]at hah;cases hah
 have nfl:fd≠lf:=λz=>by have:=B.top;rw [z,hlf]at this;cases this
 have hah1:H1 ah=none:=by rw [Zc (jO nla)]at hah;exact hah
 have nfa:fd≠ah:=λz=>by have:=B.top;rw [z,hah1]at this;cases this
 have hfd:upd (upd H1 lf (.dT [])) ah (.dT []) fd=some 'k':=by rw [Zc nfa,Zc nfl];exact B.top
 have S:Fl H1 (upd (upd H1 lf (.dT [])) ah (.dT [])) fd lf ah F [] []:=by
  refine⟨λx u nx e => ?_,by rw [B.top];exact λz=>(by cases z),by rw [hfd];exact λz=>(by cases z),hlf,hah1,nla,⟨[],by rw [Zc nla,Zi],rfl,λk hk=>by cases hk⟩,[],Zi,jk _,λo=>rfl,λo o' p z=>by cases z⟩;rw [Zc (λz=>by rw [z,hah1]at e;cases e),Zc (λz=>by rw [z,hlf]at e;cases e)];exact e
 refine ZhA B hfd S (n2.sub 'c') λσ3 H3 y1 y2 y3 => ?_
 have n3:=y1 [(0,.ref fd),(1,.ref lf),(2,.ref ah)] 'c' (n2.sub 'c');refine last_ok B y2 y3 (n3.sub 'c') λlp ys H4 z1 z2 z3 z4 => ?_
 have n4:=n3.add (j:=6) (v:=.ref lp) 'c' 'b';have n5:=n4.add (j:=7) (v:=.int 0) 'c' 'b';have n6:=n5.add (j:=8) (v:=.int 0) 'c' 'b';obtain⟨kl,l1,l2,l3⟩:=y3.left;obtain⟨ka,a1,a2,a3,a4⟩:=y3.ahd;have X:Fx K H1 H3 fd lf ah F ks kvs ka:=⟨B,y2,⟨kl,l1⟩,a1,nfl,jO nla,a3⟩
 have nll:lp≠lf:=λz=>by rw [z,l1]at z1;cases z1
 have W0:Wk H3 H4 lf ks (lc F 0 []):=by
  refine⟨λx o nx e => ?_,kl,by rw [z3 lf (jO nll)];exact l1,l2,λk hk=>by rw [Zfk];exact l3 k hk⟩;rw [z3 x (λz=>by rw [z,z1]at e;cases e)];exact e
 refine Zla (L:=ks.filter (Lv F 0)) X W0 (n6.sub 'c') z2 z1 nll z4 (List.Pairwise.filter _ B.nd) (λo=>by rw [qh]) λσ7 H7 j w1 ⟨f,w2⟩ w3 => ?_
 have hs:Same H1 H7:=λx o e=>by
  have nx:x≠lf:=λz=>by rw [z,hlf]at e;cases e
  refine w2.kp x o nx ?_
  by_cases ef:x=fd
  . rw [ef,y2,<-B.top,<-ef];exact e
  . exact y3.kp x o ef e
 have kln:kvs.length=ks.length:=by rw [<-B.keys,ja]
 refine⟨.int (cnt F ks j:Nat),w1.get 'c',.ref fd,w1.get (j:=0) 'c',fd,kvs,rfl,.inl (w2.kp fd _ nfl y2),rfl,decide ((.int (cnt F ks j:Nat):V) = .int (kvs.length:Nat)),rfl,?_⟩;dsimp only
 by_cases h:cnt F ks j=ks.length
 . rw [je (by rw [yP,h,kln])]
   refine⟨.int (j:Nat),w1.get 'c',q H7 hs _ ?_⟩;rw [w3,je h]
 . rw [jg (by
    rw [yP,kln];intro z;injection z with z
    omega)]
   refine q H7 hs _ ?_;rw [w3,jg h]
end
theorem Zc5{α β:Type}:∀{a:List α}{c:List β},a.length=c.length->(a.zip c).map (·.1)=a
 | [],_,_=>by simp
 |x::a,[],h=>by simp at h
 |x::a,y::c,h=>by rw [yM,jp,Zc5 (by simpa using h)]
theorem fn_L {K:Frag} {st:Stmt} {N ps:List Str} {k:Nat} {vc:List V} {body:List Stmt} {scope:Scope} {mA:List D->Option D} {cA:Kn} {b:Nat}
 (F:FunX K x qual st f fd) (S:FnScope N ps (defScope st)) (hS:defScope st=scope) (hB:defBody st=body) (hnp:ps.length=2) (hvN:2+vc.length+10<=N.length) (hhid:∀i y,2<=i->i<2+vc.length->N[i]? = some y->¬Vis scope y)
 (hbody:∀(cdv:Value)(A:Around)(outer:List PySem.Env)(s:Shared)(H:Hp)(E:XK)(oc:Obj),H c=some (.frz oc (.cod q2))->Room k (A.deeper (PyProof.Rows.envOfC qual scope s.heap.objs.size f cdv)) ->
   ∃E',PSs (Yd CX0 P w K mg base N qual scope f cdv A outer s H E).nox body (Zlb K (spF cA p c q2 vc 1 1 mA) E' b)) (hb:2+vc.length=b:=by rfl) (hK:cA.K=K:=by rfl) :
 FnOk P w K mg base CX0 (k+1) f fd ps (spF cA p c q2 vc 1 1 λds=>longD (mA ds)):=by
 subst hS hB hK hb;obtain⟨oc,od,dV,kV,doc,pm,an,cdv,ct,osl,rfl,lk,hcd⟩:=F.ex;refine Zga lk hcd S (λvs H Q E h => ?_) λA outer s H vs Q E hr h => ?_
 . obtain⟨av,ds,ws,cs,d,_,e,r,h1,_⟩:=h
   rw [e,Y3,<-r.length,h1,hnp]
 . obtain⟨av,ds,ws,cs,d,ha,e,r,h1,rc,⟨oc',hoc⟩,hm,q⟩:=h
   obtain⟨E',ht⟩:=hbody cdv A outer s H E oc' hoc hr;have hwl:=r.length;have hcl:=rc.length
   obtain⟨v0,rfl⟩:∃v0,ws=[v0]:=by
    cases ws with
    |nil=>rw [h1]at hwl;cases hwl
    |cons v0 ws=>
     cases ws with
     |nil=>exact⟨v0,rfl⟩
     |cons _ _=>rw [h1]at hwl;simp at hwl
   have e:vs=[v0,.ref p]:=e;subst e;refine⟨_,[some v0,some (.ref p)]++vc.map some++List.replicate (N.length-(2+vc.length)) none,ht.nox,?_,λi v hi => ?_,?_⟩
   . rw [jc,jc,ja,jH]
     show 2+vc.length+(N.length-(2+vc.length))=N.length;omega
   . by_cases h2:i<2
     . left
       unfold L2.start;have:i=0\/i=1:=by omega
       rcases this with rfl|rfl
       . exact hi
       . exact hi
     . right
       have hb:i<2+vc.length:=by
        by_cases hb:i<([some v0,some (V.ref p)]++vc.map some).length
        . rw [jc,ja]at hb
          exact hb
        . rw [jG 'a',j5]at hi
          split at hi<;>cases hi
       have hiN:i<N.length:=by omega
       exact⟨N[i],jd hiN,hhid i _ 'a' hb (jd hiN)⟩
   . have e0:([some v0,some (V.ref p)]++vc.map some++List.replicate (N.length-(2+vc.length)) none)[0]? = some (some v0):=rfl
     have e1:([some v0,some (V.ref p)]++vc.map some++List.replicate (N.length-(2+vc.length)) none)[1]? = some (some (V.ref p)):=rfl
     have el:2+vc.length+10<=([some v0,some (V.ref p)]++vc.map some++List.replicate (N.length-(2+vc.length)) none).length:=by
      rw [jc,jc,ja,jH];show _<=2+vc.length+(N.length-(2+vc.length))
      omega
     generalize [some v0,some (V.ref p)]++vc.map some++List.replicate (N.length-(2+vc.length)) none=σ at e0 e1 el;refine⟨v0,e0,.ref p,e1,?_⟩;replace hm:longD (mA (ds++cs))=some d:=hm;unfold longD at hm
     split at hm
     . rename_i ks xs hA
       split at hm
       . rename_i fss hfs
         by_cases hz:ks.Nodup/\ks.length=fss.length/\(∀k∈ks,∀o∈Fo ks fss k,o∈ks)/\ks.length+(edges (Fo ks fss) ks).length<100000
         . rw [je hz]at hm
           cases hm;refine⟨av,ds,[v0],cs,.dtt ks xs,ha,rfl,r,h1,rc,⟨oc',hoc⟩,hA,λv H1 s1 r1 => ?_⟩;obtain⟨fdd,vs,rfl,_,hH,hkx,l⟩:=r1;obtain⟨g1,g2⟩:=ZbT hfs l;have hvl:=l.length;have hkv:ks.length=vs.length:=by omega
           have B:Bs cA.K H1 fdd (Fo ks fss) ks (ks.zip vs):=by
            refine⟨Zc5 hkv,hz.1,λi k v e => ?_,hH,hz.2.2.1,hz.2.2.2⟩;have h3:i<(ks.zip vs).length:=(jt.mp e).1;rw [uJ]at h3
            have hk1:ks[i]? = some k:=by
             rw [jd 'a'];rw [jd (by rw [uJ];omega),List.getElem_zip]at e;exact congrArg some (Prod.mk.inj (jo e)).1
            have hv1:vs[i]? = some v:=by
             rw [jd 'a'];rw [jd (by rw [uJ];omega),List.getElem_zip]at e;exact congrArg some (Prod.mk.inj (jo e)).2
            have hf1:fss[i]? = some fss[i]:=jd 'a';obtain⟨pp,ws,y1,y2,y3⟩:=g2 i v _ hv1 hf1;refine⟨pp,ws,y1,y2,?_⟩;unfold Fo;rw [Zc4 hz.1 hk1 hf1];exact y3
           refine Zei B el λH' s2 v hv => ?_
           refine q v H' (s1.trans s2) ?_;rw [hv];cases kah (Fo ks fss) ks (ks.length+1) 0 with
           |none=>exact rfl
           |some j=>exact rfl
         . rw [jg hz]at hm;cases hm
       . cases hm
     . cases hm
theorem cap1{cl:List (Str×Addr)}{x:Str}{vc:List V}(C:Caps h cl [x] vc):∃v1,vc=[v1]:=by
 have:=C.len
 match vc,this with
 | [a],_=>exact⟨a,rfl⟩
theorem inj1{a:Str}{m:Addr}:∀x y c,([(a,m)]:List (Str×Addr)).lookup x=some c->([(a,m)]:List (Str×Addr)).lookup y=some c->x=y:=λx y c h1 h2=>by
 have m1:=j6 h1;have m2:=j6 h2;simp only [jA,List.mem_nil_iff,or_false,Prod.mk.injEq]at m1 m2;rw [m1.1,m2.1]
end Lg
namespace L2
open PySem PySem.Spec PyProof.Rows
theorem Zax (l:Addr) (items:Array Value) (n:Nat) (b:Addr) (ob:Obj) (items2:Array Value) (n2:Nat) (hcl:ob.cls = .type "list") (hdt:ob.data = .seq items2 n2) (hc0:¬(!items.isEmpty&&Builtin.List.listTooLong (items.size+items2.size))=true) (hc1:items.size<=sizeLine) (hs2:items.size+items2.size<=sizeLine+1) :
 Meets (Builtin.«list.extend» ⟨[.ref l,.ref b],[]⟩) (λ_ R s=>s.heap.get? l=some { cls := .type "list",dict:=none,data := .seq items n,slots := #[] }/\s.heap.get? b=some ob/\R (.ok (.ret Value.none)) { s with heap:=s.heap.update l (Obj.mapSeq λx=>x++items2),toks:=s.toks }):=
 .of_wp λprog w A R s h=>by
  obtain⟨c,d0,dt,sl⟩:=ob;dsimp only at hcl hdt;subst hcl hdt;obtain⟨hp,g,d,tk,os⟩:=s;obtain⟨hl,hb,h⟩:=h;have f1:=AutoSeq1.idx_int;have f2:=AutoSeq1.sub_tuple_tuple;have f3:=AutoSeq1.sub_list_list;have f4:=AutoSeq1.sub_tuple_list;have f5:=AutoSeq1.sub_list_tuple;have hz':(items++items2).size<=sizeLine+1:=by rw [Array.size_append];exact hs2
  wp_walk using(wpAny_updateSeq hl rfl (hz:=hc1) (_hz':=hz')),AutoSeq1.wpAny_loadPart' hl,AutoSeq1.wpAny_loadPart' hb;exact⟨_,rfl,h⟩
def ZiE(K:Frag):V->List V->Hp->VK->Prop:=λx vs H Q=>∃l b xs zs,x = .ref l/\vs=[.ref b]/\H l=some (.lst xs)/\SqL K H b zs/\xs.length+zs.length<=sizeLine/\Q .non (upd H l (.lst (xs++zs)))
theorem ZhC{X:Cx}:MtM X "list.extend" (ZiE X.K):=by
 intro pins s σ H x vs v us Q I rx rv h;obtain⟨l,b,xs,zs,rfl,rfl,hH,hB,hz,q⟩:=h;cases rx;obtain⟨u,rfl,ru⟩:=rv.one;cases ru;obtain⟨z,its,n,r,hl,e⟩:=I.lstM hH;obtain⟨its2,r2,⟨ob,n2,e2,c2,_,d2⟩,z2⟩:=I.list hB;have hl2:=r2.length;have hsz:its.toArray.size+its2.toArray.size<=sizeLine:=by rw [jM,jM];omega
 have hlong:¬(!its.toArray.isEmpty&&Builtin.List.listTooLong (its.toArray.size+its2.toArray.size))=true:=by
  rw [ZbE hsz,Bool.and_false];exact jy
 refine call_meets F.slot_list_extend ⟨_,e,rfl⟩ F.entry_list_extend (F.args_list_extend_2 _ _)
  (Zax l its.toArray n b ob its2.toArray n2 c2 d2 hlong (by rw [jM];omega) 'a') ⟨e,e2,?_⟩
 refine⟨.non,_,I.lset (its':=its++its2) hH e 'c' (r.append r2) ?_,rfl,q⟩;rw [jc];omega
end L2
namespace DL
open PySem PySem.Spec L2
section
variable{cA:Kn}{G:Cn}{ow owN owB owC ow1:List Nat}
theorem ZhD(i:Nat)(hi:ow.contains i=true)(h:VE G ow te .cl ε):VS G ow ow owB owC (XA (tBM G.1.K "list" (ZiE G.1.K) (Zl i) (Zy te tNil))) (Vj i ε):=λH0 av A σ H δ E o e De k=>by
 unfold Vj at e
 split at e
 . rename_i xs ys hv he
   by_cases hz:xs.length+ys.length<=sizeLine
   . rw [je hz]at e
     cases e;have hi':i∈ow:=by simpa using hi
     cases hA:A i with
     |none=>exact absurd hA (E.dom' i hi')
     |some a=>
      obtain⟨v,g1,_,g3⟩:=E.var i _ (Z9 hv);obtain⟨rfl,ws,q1,q2⟩:=g3 a hA;refine⟨_,g1,.inl ⟨rfl,ws,SqL.of q1⟩,h H0 av A σ H δ E _ he _ λv H1 s1 rv => ?_⟩;have rv:RepT G.1 (AV av A) (AV av A) H1 (.lst ys) v:=rv;obtain⟨b,zs,rfl,nb,sq,l⟩:=rv;have E2:=E.mono s1;have q1':=s1 _ _ q1;have l2:=q2.same s1;refine⟨a,b,ws,zs,rfl,rfl,q1',sq,by rw [<-q2.length,<-l.length];exact hz,k A σ _ (E2.put hA (Z9 hv) (λb o hb e=>by rw [Zc hb];exact e) (by rw [Zi];exact λz=>by cases z) ⟨_,Zi,?_⟩)⟩
      exact(l2.append l).ext λb o n e=>by
       rw [Zc λz=>n (.inr ⟨i,by rw [z];exact hA⟩)];exact e
   . rw [jg hz]at e;cases e
 . cases e
end
section
variable{cA:Kn}{G:Cn}{ow:List Nat}
theorem Zfm{xs:List D}{v:V}(h:Ziy d=some xs)(r:Rep cA av H d v):∃k l vs,v = .ref l/\SqQ k cA.K H l vs/\RepL cA av H xs vs:=by
 cases d<;>first|(cases h;done)|skip
 all_goals
  cases h;unfold Rep at r;obtain⟨a,vs,e,n,sq,l⟩:=r
 . exact⟨false,a,vs,e,sq,l⟩
 . exact⟨true,a,vs,e,SqT.of sq,l⟩
end
section
variable{cA:Kn}{av:Addr->Prop}{H:Hp}{a:Addr}{kvs:List (List Key×V)}{u:HO}
abbrev Gd(cA:Kn)(av:Addr->Prop)(H:Hp)(a:Addr)(u:HO)(d:D):Prop:=∀v,Rep cA av H d v->Rep cA (λx=>av x\/x=a) (upd H a u) d v
end
theorem Zj0 {K:Frag} {cA:Kn} {st:Stmt} {fd:FuncData} {N ps:List Str} {k:Nat} {body:List Stmt} {scope:Scope} {n:Nat} {m:List D->Option D} (F:FunX K x qual st f fd) (S:FnScope N ps (defScope st)) (hS:defScope st=scope) (hB:defBody st=body)
 (hbody:∀(cdv:Value)(A:Around)(outer:List PySem.Env)(s:Shared)(H:Hp)(E:XK),cdv=fd.code->Room k (A.deeper (PyProof.Rows.envOfC qual scope s.heap.objs.size f cdv)) ->
   ∃t,PSs (Yd CX0 P w K mg base N qual scope f cdv A outer s H E).nox body t/\∃owN,VS ⟨cA,λ_=>none⟩ [] owN [] [] t φ) (hm:m=run N.length φ) (hn:ps.length=n):FnOk P w K mg base CX0 (k+1) f fd ps (spD cA n m):=by
 subst hS hB hm hn;obtain⟨oc,od,dV,kV,doc,pm,an,cdv,ct,osl,rfl,lk,hcd⟩:=F.ex;refine Zin lk hcd S (λvs H Q E h => ?_) λA outer s H vs Q E hr h => ?_
 . obtain⟨av,ds,d,_,r,hl,_⟩:=h
   rw [<-r.length,hl]
 . obtain⟨av,ds,d,ha,r,hl,hm,q⟩:=h
   obtain⟨t,ht,owN,hv⟩:=hbody cdv A outer s H E rfl hr;refine⟨t,ht.nox,?_⟩;unfold run at hm;cases hφ:φ (ds.map some++List.replicate (N.length-ds.length) none)with
   |none=>rw [hφ]at hm;cases hm
   |some o=>
    rw [hφ]at hm;refine hv H av _ _ H _ (Q2 ha r) o hφ _ ?_;cases o with
    |nx δ'=>cases hm;exact λA' σ' H' E'=>q .non H' E'.same rfl
    |rt d'=>cases hm;exact λv H' s' r'=>q v H' s' r'
    |bk δ'=>cases hm
    |ct δ'=>cases hm
theorem YS(i j:Int):eqD (.int i) (.int j)=some (.bl (decide (i=j))):=by
 show(if(Zu (.int i)&&Zu (.int j)&&XB (V.int i) (V.int j))=true then some (D.bl (decide (V.int i=V.int j)))else _)=_;rw [je (by rfl)];simp
theorem ZhE(a b:List Nat):eqD (.str a) (.str b)=some (.bl (decide (a=b))):=by
 show(if(Zu (.str a)&&Zu (.str b)&&XB (S a) (S b))=true then some (D.bl (decide (S a=S b)))else _)=_;rw [je (by rfl)];simp only [ZkP]
theorem ZhF(i j:Int):neD (.int i) (.int j)=some (.bl (!decide (i=j))):=by unfold neD;rw [YS]
theorem ZhG{α β:Type}(f:α->β)(xs:List α)(i:Int):atI (xs.map f) i=(atI xs i).map f:=by
 unfold atI;rw [ja];cases ixN xs.length i with
 |none=>rfl
 |some j=>simp
theorem Zj1{α:Type}{xs:List α}{i:Int}(h0:0<=i)(h1:i<xs.length):∃x,atI xs i=some x/\xs[i.toNat]? = some x:=by
 have hj:i.toNat<xs.length:=by omega
 refine⟨xs[i.toNat],?_,by simp [hj]⟩;have:=Uo (xs:=xs) (j:=i.toNat) (v:=xs[i.toNat]) (by simp [hj])
 rwa [qH h0]at this
theorem YT{γ:D->Env->Option Env}{φ:Env->Option Out}(I:Nat->Env->Prop):∀(xs:List D)(k:Nat)(δ:Env),I k δ ->
 (∀(j:Nat)x δ,xs[j]? = some x->I (k+j) δ->∃δ1,γ x δ=some δ1/\∃δ2,φ δ1=some (.nx δ2)/\I (k+j+1) δ2)->∃δ',ZK γ φ xs δ=some (.nx δ')/\I (k+xs.length) δ'
 | [],k,δ,h,_=>⟨δ,rfl,h⟩
 |x::xs,k,δ,h,step=>by
  obtain⟨δ1,h1,δ2,h2,h3⟩:=step 0 x δ rfl h
  obtain⟨δ',h4,h5⟩:=YT I xs (k+1) δ2 h3 λj y δ hy hI=>by
   have:=step (j+1) y δ (by simpa using hy) (by rwa [show k+(j+1)=k+1+j by omega])
   rwa [show k+(j+1)+1=k+1+j+1 by omega]at this
  refine⟨δ',?_,by rwa [jx,show k+(xs.length+1)=k+1+xs.length by omega]⟩;unfold ZK;rw [h1];dsimp only;rw [h2];exact h4
theorem Zc6{γ:D->Env->Option Env}{φ:Env->Option Out}(I:Nat->Env->Prop)(R:D->Prop):∀(xs:List D)(k:Nat)(δ:Env),I k δ ->
 (∀(j:Nat)x δ,xs[j]? = some x->I (k+j) δ->∃δ1,γ x δ=some δ1/\((∃δ2,φ δ1=some (.nx δ2)/\I (k+j+1) δ2)\/∃d,φ δ1=some (.rt d)/\R d)) ->
 (∃δ',ZK γ φ xs δ=some (.nx δ')/\I (k+xs.length) δ')\/∃d,ZK γ φ xs δ=some (.rt d)/\R d
 | [],k,δ,h,_ => .inl ⟨δ,rfl,h⟩
 |x::xs,k,δ,h,step=>by
  obtain⟨δ1,h1,h2⟩:=step 0 x δ rfl h;rcases h2 with⟨δ2,h2,h3⟩|⟨d,h2,h3⟩
  . have ih := Zc6 I R xs (k + 1) δ2 h3 fun j y δ hy hI => by
     have:=step (j+1) y δ (by simpa using hy) (by rwa [show k+(j+1)=k+1+j by omega])
     rwa [show k+(j+1)+1=k+1+j+1 by omega]at this
    have e:ZK γ φ (x::xs) δ=ZK γ φ xs δ2:=by
     conv=>lhs;unfold ZK
     rw [h1];dsimp only;rw [h2]
    rw [e];rcases ih with⟨δ',h4,h5⟩|r
    . exact .inl ⟨δ',h4,by rwa [jx,show k+(xs.length+1)=k+1+xs.length by omega]⟩
    . exact .inr r
  . refine .inr ⟨d,?_,h3⟩
    unfold ZK;rw [h1];dsimp only;rw [h2]
theorem Zbb{α:Type}(g:α->Nat):∀xs:List α,strs? (xs.map λx=>D.str [g x])=some (xs.map λx=>[g x])
 | []=>rfl
 |x::xs=>by rw [jp,strs?,Zbb g xs,jp]
theorem Zej{α:Type}(g:α->Nat)(xs:List α)(h:xs.length<=sizeLine):joinD [] [.lst (xs.map λx=>D.str [g x])]=some (.str (xs.map g)):=by
 unfold joinD;dsimp only;rw [Zbb];dsimp only
 have e1:((xs.map λx=>[g x]).map List.length).sum=xs.length:=by
  clear h
  induction xs with
  |nil=>rfl
  |cons x xs ih=>
   rw [jp,jp,yV,ih];simp;omega
 rw [je (by rw [e1];simpa using h),ZaV]
 congr 2
 clear h e1
 induction xs with
 |nil=>rfl
 |cons x xs ih=>rw [jp,qS,ih];rfl
theorem ZhH{cs:List Nat}{i:Int}{c:Nat}(h:cs.length<=sizeLine)(hz:atI cs i=some c):ixD (.str cs) (.int i)=some (.str [c]):=by
 show(if cs.length<=sizeLine then(atI cs i).map λc=>D.str [c]else none)=_;rw [je h,hz];rfl
theorem Zh{a b:Env->Option Out}(h:a δ=some (.nx δ')):Zd a b δ=b δ':=by
 unfold Zd;rw [h]
theorem XS{a b:Env->Option Out}(h:a δ=some (.rt d)):Zd a b δ=some (.rt d):=by
 unfold Zd;rw [h]
theorem Zp{i:Nat}{e:Env->Option D}{δ:Env}{d:D}(h:e δ=some d):Ze i e δ=some (.nx (δ.set i (some d))):=by
 unfold Ze;rw [h]
theorem ZR{e:Env->Option D}{d:D}(h:e δ=some d):Zt e δ=some (.rt d):=by
 unfold Zt;rw [h]
theorem ZZ{t:Env->Option Bool}{a b:Env->Option Out}(h:t δ=some true):sIf t a b δ=a δ:=by
 unfold sIf;rw [h]
theorem Z0{t:Env->Option Bool}{a b:Env->Option Out}(h:t δ=some false):sIf t a b δ=b δ:=by
 unfold sIf;rw [h]
theorem ZH{e:Env->Option D}{b:Bool}(h:e δ=some (.bl b)):xB e δ=some b:=by
 unfold xB;rw [h];rfl
theorem ZhI{t:Env->Option Bool}{b:Bool}(h:t δ=some b):XG t δ=some (!b):=by
 unfold XG;rw [h]
theorem Zj2{a b:Env->Option Bool}{x:Bool}(h1:a δ=some false)(h2:b δ=some x):xOr a b δ=some x:=by
 unfold xOr;rw [h1];exact h2
theorem ZhJ{a b:Env->Option Bool}(h1:a δ=some true):xOr a b δ=some true:=by
 unfold xOr;rw [h1]
theorem Zfn{a b:Env->Option Bool}{x:Bool}(h1:a δ=some true)(h2:b δ=some x):YB a b δ=some x:=by
 unfold YB;rw [h1];exact h2
theorem ZhK{a b:Env->Option Bool}(h1:a δ=some false):YB a b δ=some false:=by
 unfold YB;rw [h1]
theorem Z3{n:Nat}{m:List D->Option D}{α:Env->Option (List D)}{ds:List D}(h:α δ=some ds)(hn:ds.length=n):Zn n m [] α δ=m ds:=by
 unfold Zn;rw [h];dsimp only;rw [qj,je hn]
theorem Zf{a:Env->Option D}{b:Env->Option (List D)}{x:D}{xs:List D}(h1:a δ=some x)(h2:b δ=some xs):Zb a b δ=some (x::xs):=by
 unfold Zb;rw [h1,h2]
theorem Zg{f:D->D->Option D}{a b:Env->Option D}{x y:D}(h1:a δ=some x)(h2:b δ=some y):eOp f a b δ=f x y:=by
 unfold eOp;rw [h1,h2]
theorem Zc7{a b:Env->Option D}{x:D}(h1:a δ=some (.bl true))(h2:b δ=some x):Xh a b δ=some x:=by
 unfold Xh;rw [h1];exact h2
theorem YL{α:Env->Option (List D)}{ds:List D}(h:α δ=some ds)(hl:ds.length<=1000):ZD α δ=(some (.tup ds):Option D):=by
 unfold ZD;rw [h];exact je (jL hl 'b')
theorem Yc{α:Env->Option (List D)}{ds:List D}(h:α δ=some ds)(hl:ds.length<=1000):Zo α δ=(some (.lst ds):Option D):=by
 unfold Zo;rw [h];exact je (jL hl 'b')
theorem Zbc{γ:D->Env->Option Env}{φ:Env->Option Out}(I:Env->Prop):∀(xs:List D)(δ:Env),I δ ->
 (∀x∈xs,∀δ,I δ->∃δ1,γ x δ=some δ1/\∃δ2,φ δ1=some (.nx δ2)/\I δ2)->∃δ',ZK γ φ xs δ=some (.nx δ')/\I δ'
 | [],δ,h,_=>⟨δ,rfl,h⟩
 |x::xs,δ,h,step=>by
  obtain⟨δ1,h1,δ2,h2,h3⟩:=step x jj δ h;obtain⟨δ',h4,h5⟩:=Zbc I xs δ2 h3 λy hy=>step y (jq _ hy)
  refine⟨δ',?_,h5⟩;unfold ZK;rw [h1];dsimp only;rw [h2];exact h4
theorem ZhL{lo c:Int}{n:Nat}{x:D}(h:x∈Ym lo c n):∃k:Nat,k<n/\x = .int (lo+(k:Nat)*c):=by
 unfold Ym at h;obtain⟨k,hk,rfl⟩:=jE.mp h;exact⟨k,jX.mp hk,rfl⟩
theorem ZbU {τ:Env->Option Bool} {φ:Env->Option Out} (I J:Env->Prop) (μ:Env->Nat)
 (step:∀δ,I δ->(τ δ=some false/\J δ)\/(τ δ=some true/\∃δ',φ δ=some (.nx δ')/\I δ'/\μ δ'<μ δ)) :
 ∀(k:Nat)(δ:Env),μ δ<=k->I δ->∃n δ',ZN τ φ n δ=some (.nx δ')/\J δ'
 |0,δ,hk,h=>by
  rcases step δ h with⟨h1,h2⟩|⟨h1,δ',h2,h3,h4⟩
  . exact⟨1,δ,by unfold ZN;rw [h1],h2⟩
  . omega
 |k+1,δ,hk,h=>by
  rcases step δ h with⟨h1,h2⟩|⟨h1,δ',h2,h3,h4⟩
  . exact⟨1,δ,by unfold ZN;rw [h1],h2⟩
  . obtain⟨n,δ2,h5,h6⟩:=ZbU I J μ step k δ' 'a' h3
    refine⟨n+1,δ2,?_,h6⟩;unfold ZN;rw [h1];dsimp only;rw [h2];exact h5
theorem Zcs {τ:Env->Option Bool} {φ:Env->Option Out} (I J:Env->Prop) (μ:Env->Nat)
 (step:∀δ,I δ->(τ δ=some false/\J δ)\/(τ δ=some true/\∃δ',φ δ=some (.nx δ')/\I δ'/\μ δ'<μ δ)) (δ:Env) (h:I δ):∃δ',YO τ φ δ=some (.nx δ')/\J δ':=by
 obtain⟨n,δ',h1,h2⟩:=ZbU I J μ step (μ δ) δ (jk _) h;exact⟨δ',Q0 h1,h2⟩
theorem Zlc{i:Int}(h:i.natAbs<=10 ^ 1000):Wd i:=ym h (by decide +kernel)
theorem Zfo{i j:Int}(h1:j≠0)(h2:Wd j):fdivW (.int i) (.int j)=some (.int (i.fdiv j)):=je ⟨h1,h2⟩
theorem ZhM{i j:Int}(h1:j≠0):modW (.int i) (.int j)=some (.int (i.fmod j)):=je h1
theorem ZhN{a b:Int}(h:0<b):0<=a.fmod b/\a.fmod b<b:=by
 rw [qG a 'a'];exact⟨Int.emod_nonneg a 'a',Int.emod_lt_of_pos a h⟩
theorem Zj3{α:Env->Option (List D)}{j:Int}(h:α δ=some [.int j])(h1 : -1000000<=j)(h2:j<=1000000):Zr α δ=some (Ym 0 1 j.toNat):=by
 unfold Zr;rw [h];dsimp only;rw [je ⟨by omega,by omega⟩]
theorem Zj4{α:Env->Option (List D)}{i j:Int}(h:α δ=some [.int i,.int j])(h1 : -1000000<=j)(h2:j<=1000000)(h3 : -1000000<=i)(h4:i<=1000000):Zr α δ=some (Ym i 1 (j-i).toNat):=by
 unfold Zr;rw [h];dsimp only;rw [je ⟨by omega,by omega,by omega,by omega⟩]
theorem YM{i:Nat}{ε:Env->Option D}{δ:Env}{xs:List D}{d:D}(h1:Za i δ=some (.lst xs))(h2:ε δ=some d)(hl:xs.length<=1000000):ZE i ε δ=some (.nx (δ.set i (some (.lst (xs++[d]))))):=by
 unfold ZE;rw [h1];dsimp only;rw [h2];dsimp only;rw [je (by rw [qE];omega)]
theorem ZO{ι:Env->Option (List D)}{xs:List D}{o:Out}(h1:ι δ=some xs)(h2:ZK γ φ xs δ=some o):Zq ι γ φ δ=some o:=by
 unfold Zq;rw [h1];exact h2
theorem XT{ι:Env->Option (List D)}{n:Nat}{δ δ0:Env}{xs ys:List D}(h1:ι δ=some xs)(hb:Y0 n δ js=δ0)(h2:Yh γ τ ε δ0 xs=some ys)(hl:ys.length<=1000000):ZV ι γ τ ε n js δ=some (.lst ys):=by
 unfold ZV;rw [h1];dsimp only;rw [hb,h2];dsimp only;rw [je (by rw [qE];omega)]
theorem Zld{f:List Nat->List D->Option D}{a:Env->Option D}{α:Env->Option (List D)}{ds:List D}(h1:a δ=some (.str s))(h2:α δ=some ds):eBM f a α δ=f s ds:=by
 unfold eBM;rw [h1,h2]
theorem ZA{f:List D->Option D}{α:Env->Option (List D)}{ds:List D}(h:α δ=some ds):eCB f α δ=f ds:=by
 unfold eCB;rw [h]
theorem Yi{n:Nat}{f:Env->Option Out}{vs:List D}{δ:Env}{d:D}(h1:(vs.map some++List.replicate (n-vs.length) none)=δ)(h2:f δ=some (.rt d)):DL.run n f vs=some d:=by
 unfold DL.run;rw [h1,h2]
theorem nil_of:eNil δ=some []:=rfl
theorem Zgd{t:List (String×Bool)}{a:Env->Option D}{d:D}{b:Bool}(h1:a δ=some d)(h2:UH t d=some b):Xj t a δ=some (.bl b):=by
 unfold Xj;rw [h1];dsimp only;rw [h2]
def V0(w:List Nat):Prop:=∀c∈w,c<1114112
theorem Zfp(h:V0 w):PyData.strOk (tx w)=true:=by
 unfold PyData.strOk tx;simpa [V0]using h
theorem add_int(i j:Int):addX (.int i) (.int j)=some (.int (i+j)):=rfl
theorem add_str{a b:List Nat}(h:a.length+b.length<=100000):addX (.str a) (.str b)=some (.str (a++b)):=by
 show(if a.length+b.length<=PySem.sizeLine then some (D.str (a++b))else none)=_;rw [je (by rw [qE];omega)]
theorem ZhO{a b:List D}(h:a.length+b.length<=100000):addX (.lst a) (.lst b)=some (.lst (a++b)):=by
 show(if a.length+b.length<=PySem.sizeLine then some (D.lst (a++b))else none)=_;rw [je (by rw [qE];omega)]
theorem Xm{i j:Int}(h1 : -1000<=j)(h2:j<=1000):mulX (.int i) (.int j)=some (.int (i*j)):=je (.inr (.inr ⟨by omega,by omega⟩))
theorem ZhP{n a:Nat}(h:a<n):ixN n (a:Int)=some a:=by
 unfold ixN;rw [je 'a',je 'a',j0]
theorem Vq{xs:List D}{a:Nat}{x:D}(h:xs[a]? = some x):ixD (.lst xs) (.int (a:Int))=some x:=Uo h
theorem ix_tup{xs:List D}{a:Nat}{x:D}(h:xs[a]? = some x):ixD (.tup xs) (.int (a:Int))=some x:=Uo h
theorem ix_str{cs:List Nat}{a:Nat}{c:Nat}(h:cs[a]? = some c)(hl:cs.length<=100000):ixD (.str cs) (.int (a:Int))=some (.str [c]):=ZhH (by rw [qE];omega) (Uo h)
theorem Vr{cs:List Int}{a:Nat}(h:a<cs.length):ixD (.lst (cs.map D.int)) (.int (a:Int))=some (.int (cs.getD a 0)):=by
 refine Vq ?_;rw [ji,jd h,jv,jd h];rfl
theorem Zge{i:Int}(h:0<=i):∃a:Nat,i=(a:Int):=⟨i.toNat,(qH h).symm⟩
theorem len_str{cs:List Nat}(h:cs.length<=100000):lenD [.str cs]=some (.int (cs.length:Int)):=je (by rw [qE];omega)
theorem len_lst{xs:List D}:lenD [.lst xs]=some (.int (xs.length:Int)):=rfl
theorem len_tup{xs:List D}:lenD [.tup xs]=some (.int (xs.length:Int)):=rfl
end DL
namespace L2
open PySem PySem.Spec PyProof.Rows
section
variable{prog:Program}{w:World}{A:Around}{E:Value->Shared->Prop}{s:Shared}{d it:Addr}{es:Array DictEntry}{ep i:Nat}{o:Obj}
theorem ZaL(d:Addr)(hd:(d == sysModules)=false) :
 MeetsIn prog w (Builtin.«dict.values» ⟨[.ref d],[]⟩) (λ_ R s=>s.TypeIs (.ref d) "dict" /\
  R (.ok (.ret (.ref s.heap.objs.size))) { s with heap:=s.heap.push { cls := .type "dict_values",data := .fields #[.ref d] } }):=
 .of_wp λA R s ⟨hT,h⟩=>by
  unfold Builtin.«dict.values»;refine jb ?_;unfold Builtin.Dict.noArgs;refine jb (yB hT ?_);show wpAny _ _ (pure d) _ _ s;refine jf ?_;show wpAny _ _ (Builtin.Dict.showsAll d >>= _) _ _ s;unfold Builtin.Dict.showsAll;rw [jg (by rw [hd];exact jy)];exact jb (jf (jb (j4 (jf ⟨_,rfl,h⟩))))
theorem Zct {Q:Value->Shared->Prop} (hv:s.heap.IsValuesView v d) (g:s.heap.get? d=some o) (q:o.data = .dict es ep)
 (k:Q (.ref s.heap.objs.size) { s with heap:=s.heap.push { cls := .type "dict_valueiterator",data := .fields #[.ref d,.int 0 0,.int es.size 0,.int ep 0] } }) :
 wpAny 'h' A (pyIter (.ref v)) Q E s:=by
 obtain⟨ov,hov,hcv,hdv⟩:=id hv;refine wpAny_pyIter_slot hv.typeIs PySem.F.slot_dict_values_iter (qc PySem.F.slot_dict_values_iter hv.typeIs PySem.F.entry_dict_values_iter ?_ (PySem.F.args_dict_values_iter_1 _));unfold Builtin.«dict_values.__iter__»;refine jb (jf (jb ?_));unfold Builtin.Dict_items.dictOf;refine jb (qx hov hdv (x:=.ref d) rfl (jf (jb ?_)))
 unfold Builtin.Dict_items.newIterator;refine jb (qg g q (jb (qY g q ?_)));have hown:Builtin.Dict_items.ownsTuple "dict_valueiterator" = false:=by decide
 simp only [hown,qM,qP];refine j4 (jf ⟨_,rfl, "dict_valueiterator",_,⟨_,jr _ rfl,rfl⟩,PySem.F.slot_dict_valueiterator_next.lookup,?_⟩);simpa [rawInt]using k
theorem Zcu {Q:Option Value->Shared->Prop} (t:s.heap.IsValIter it d i es.size ep) (g:s.heap.get? d=some o) (q:o.data = .dict es ep) (hlt:i<es.size)
 (k:∀h',h'.IsValIter it d (i+1) es.size ep->Heap.SameBut it s.heap h'->Q (some es[i].val) { s with heap:=h' }):wpAny 'h' A (pyNext (.ref it)) Q E s:=by
 obtain⟨oi,gi,ci,qi⟩:=id t;have own:Builtin.Dict_items.ownsTuple "dict_valueiterator" = false:=by decide
 unfold pyNext;refine jb (yA (j3 (name:=Str.ofString "__next__") t.typeIs qT (qc qT t.typeIs PySem.F.entry_dict_valueiterator_next ?_ (PySem.F.args_dict_valueiterator_next_1 _))));refine jb (jf (jb (jb (jb (yr t.typeIs (jf (jb (yX gi qi ?_))))))))
 simp only [own,qM,qP];show wpAny _ _ (if(Value.ref d == Value.none)=true then _ else _) _ _ s;rw [jg (λz=>nomatch z)];refine jb (jf (jb (qg g q ?_)));rw [jg 'c'];refine jb (jf (jb (qY g q ?_)));rw [jg 'c'];refine jf ?_;have h0:¬((i:Int)<0):=by omega
 simp only [h0,qP,j0,yb hlt];refine jb (jb (yr t.typeIs (jf (jb (wpAny_isOneOf_valiter t.typeIs ?_)))));show wpAny _ _ (setField (.ref it) 1 (rawInt ((i:Int)+1)) >>= λ_=>_) _ _ s;refine jb (yG gi qi 'c' ?_)
 have t':(s.heap.update it (Obj.mapFields (·.setIfInBounds 1 (rawInt ((i:Int)+1))))).IsValIter it d (i+1) es.size ep:=
  ⟨_,yh _ gi (Obj.isFreed_of_fields (yw qi _)),(Obj.cls_mapFields ..).trans ci,by rw [yw qi];simp [rawInt]⟩
 refine jb (yj (jb (wpAny_isOneOf_valiter (s:={ s with heap:=s.heap.update it (Obj.mapFields (·.setIfInBounds 1 (rawInt ((i:Int)+1)))) }) t'.typeIs ?_)))
 first
 |exact jf (jf ⟨_,rfl,jf (k _ t' (j9 ..))⟩)
 |exact jb (wpAny_isOneOf_valiter (s:={ s with heap:=s.heap.update it (Obj.mapFields (·.setIfInBounds 1 (rawInt ((i:Int)+1)))) }) t'.typeIs (jf (jf ⟨_,rfl,jf (k _ t' (j9 ..))⟩)))
theorem Zek {Q:Option Value->Shared->Prop} (hh:A.handled=none) (t:s.heap.IsValIter it d i es.size ep) (g:s.heap.get? d=some o) (q:o.data = .dict es ep) (hge:es.size<=i)
 (k:∀h',Heap.ExtBut it s.heap h'->Q none { s with heap:=h' }):wpAny 'h' A (pyNext (.ref it)) Q E s:=by
 obtain⟨oi,gi,ci,qi⟩:=id t;have own:Builtin.Dict_items.ownsTuple "dict_valueiterator" = false:=by decide
 unfold pyNext;refine jb (yA (j3 (name:=Str.ofString "__next__") t.typeIs qT (qc qT t.typeIs PySem.F.entry_dict_valueiterator_next ?_ (PySem.F.args_dict_valueiterator_next_1 _))));refine jb (jf (jb (jb (jb (yr t.typeIs (jf (jb (yX gi qi ?_))))))))
 simp only [own,qM,qP];show wpAny _ _ (if(Value.ref d == Value.none)=true then _ else _) _ _ s;rw [jg (λz=>nomatch z)];refine jb (jf (jb (qg g q ?_)));rw [jg 'c'];refine jb (jf (jb (qY g q ?_)));rw [jg 'c'];refine jf ?_;have h0:¬((i:Int)<0):=by omega
 simp only [h0,qP,j0,uF hge];refine jb (jb (yr t.typeIs (jf ?_)));show wpAny _ _ (setField (.ref it) 0 .none >>= λ_=>_) _ _ s;refine jb (yG gi qi 'c' ?_);show wpAny _ _ (newExc (.type "StopIteration") [] >>= λ_=>_) _ _ _;refine jb ?_;simp only [newExc,newTuple]
 refine jb (j4 ?_ (by size_fits));refine jb (m:=firstArgMember _ _) (wpAny_of_eq (a:=Value.none) (by first|rfl|(simp only [firstArgMember];rfl)) (j4 ?_ (by size_fits)));simp only [raiseNew];refine jb (wpAny_handled ?_);rw [show A.in1.handled=none from hh];refine jb (jf (wpAny_throw ?_));refine jb (yL (T:="StopIteration") (b:=true) ⟨_,jr _ rfl,rfl⟩ isSubtype_stop ?_)
 exact jf (k _ (((j9 ..).extBut.push _).push _))
end
def Itv(d:Addr)(o:Obj)(kvs:List (List Key×V)):It:=⟨λi H=>H d=some (.frz o 'k')/\i<kvs.length,λi H v H'=>H'=H/\∃k,kvs[i]? = some (k,v),λi H=>H d=some (.frz o 'k')/\kvs.length<=i⟩
theorem Zel{K:Frag}(it d:Addr)(o:Obj)(es:Array DictEntry)(ep:Nat)(kvs:List (List Key×V))(hq:o.data = .dict es ep)(hz:es.size=kvs.length):Turn P w K tg (Itv d o kvs) [it] it (λi h=>h.IsValIter it d i es.size ep) where
 mem:=by simp
 obj:=λi h st b hb=>by
  have e:b=it:=by simpa using hb
  subst e;obtain⟨o,e,c,q⟩:=st;exact⟨o,e,λv z=>by rw [q]at z;cases z⟩
 keep:=λi h h' st k=>by
  obtain⟨o,e,r⟩:=st;exact⟨o,k it 'c' o e,r⟩
 item:=by
  intro X hP hw hK hc i pins s σ H E I hf st hg;subst hP hw hK;obtain⟨f0,f1,f2,f3,f4,f5⟩:=hf it 'c';obtain⟨hd,hi⟩:H d=some (.frz o 'k')/\i<kvs.length:=hg;obtain⟨g,es',ep',x,_,q,_,all⟩:=UO I.hok hd;rw [hq]at q;cases q;have hi':i<es.size:=by omega
  obtain⟨ka,k,y,e1,e2,e3,e4⟩:=all i hi';refine Zcu st g hq hi' λh' st' sb => ?_
  have I1:Inv X pins σ H { s with heap:=h' }:=I.turned (t':=s.toks) (λb o hb e=>(sb.2 b hb).trans e) f0 f1 f3 f4 f5;exact⟨_,rfl,letGo_valiter st' ⟨y,H,I1,e4,⟨rfl,k,e1⟩,st',λb hb=>(hf b hb).1⟩⟩
 done:=by
  intro X hP hw hK hc i pins s σ H E I hf st hg;subst hP hw hK;obtain⟨f0,f1,f2,f3,f4,f5⟩:=hf it 'c';obtain⟨hd,hi⟩:H d=some (.frz o 'k')/\kvs.length<=i:=hg;obtain⟨g,es',ep',x,_,q,_,all⟩:=UO I.hok hd;exact Zek (I.ok.hd hc) st g hq 'a' λh' eb=>⟨rfl,I.turned (t':=s.toks) (λb o hb e=>eb b o hb e) f0 f1 f3 f4 f5⟩
 self:=λ_ i _ _ _ st h=>wpAny_pyIter_valiter st h
def ZiF(NF:Addr->Prop)(tl:TE):TI:=λσ H R=>tl σ H λx H1=>∃d kvs,x = .ref d/\H1 d=some 'k'/\∀o,NF d->R (Itv d o kvs) (upd H1 d (.frz o 'k'))
theorem ZhQ {X:Cx} {NF:Addr->Prop} (hl:PE X l tl) (m:M0 X l "values" apos cpos) (hN:∀d,(∀o v,X.H₀ d≠some (.frz o v))->NF d):PI X tg (.Call (.Attribute l "values" apos) [] [] cpos) (ZiF NF tl):=by
 intro pins s σ H R I h;refine yE m.base m.few m.line qR PySem.F.slot_dict_values PySem.F.type_dict_values (thn (hl pins s σ H _ I h) λv s1 ⟨x,H1,I1,r1,q1⟩ => ?_);obtain⟨d,kvs,e,hd,q⟩:=q1;subst e;obtain rfl:v=Value.ref d:=r1;obtain⟨t1,t2,t3⟩:=Vf I1 (show IsD H1 d from .inr ⟨kvs,.inl hd⟩);refine⟨t1,t2,?_⟩;rw [m.trees];refine qA rfl (evalArgs_nil3 ?_)
 refine yY PySem.F.slot_dict_values t1 PySem.F.entry_dict_values (PySem.F.args_dict_values_1 _) (ZaL d t3) ⟨t1,?_⟩
 have nf:∀o v,X.H₀ d≠some (.frz o v):=λo v z=>by
  have:=I1.base.frzs d o v z;rw [hd]at this;cases this
 obtain⟨o,es,ep,g,x,hq,hm,hz⟩:∃o es ep,s1.heap.get? d=some o/\o.ExactDict/\o.data = .dict es ep/\(d == sysModules)=false/\es.size=kvs.length:=by
  obtain⟨z,y,xs,r,ob,es,ep,g2,x,q,he,_⟩:=(show ObjOk X.prog X.w H1 s1.heap d (.dT kvs)from I1.hok d _ hd)
  exact⟨ob,es,ep,g2,x,q,y,by rw [<-jP,he,ja];exact(qI r).symm⟩
 have I2:Inv X pins σ (upd H1 d (.frz o 'k')) s1:=I1.swap hd 'l' 'l' 'l' (λ_ _ z=>by cases z) nf ⟨g,(I1.hok d _ hd).stay (λ_ _ _ r=>r) (λc r=>by rw [Zc λz=>by subst z;rw [hd]at r;cases r];exact r) (λc xs r=>by rw [Zc λz=>by subst z;rw [hd]at r;cases r];exact r) λc ob y r=>by rw [Zc λz=>by subst z;rw [hd]at r;cases r];exact r⟩
 have I3:Inv X pins σ (upd H1 d (.frz o 'k')) { s1 with heap:=s1.heap.push { cls := .type "dict_values",data := .fields #[.ref d] } }:=I2.kept (t':=s1.toks) λb o e=>jh _ e
 refine Zct (d:=d) (o:=o) (es:=es) (ep:=ep) ⟨_,jr _ rfl,rfl,rfl⟩ (jh _ g) hq ?_;refine⟨(s1.heap.push { cls := .type "dict_values",data := .fields #[.ref d] }).objs.size,[(s1.heap.push { cls := .type "dict_values",data := .fields #[.ref d] }).objs.size],_,_,_,rfl,I3.kept (t':=s1.toks) λb o e=>jh _ e,Zel _ d o es ep kvs hq hz,⟨_,jr _ rfl,rfl,rfl⟩,λb hb => ?_,q o (hN d nf)⟩
 rw [ju.mp hb];exact I3.fpOk (jk _) (I3.hok.fresh (jk _))
end L2
namespace PySem
section
variable{prog:Program}{w:World}
theorem Zem {E:Value->Shared->Prop} {s:Shared} {Q:Bool->Shared->Prop} (hT:s.TypeIs (.ref d) "dict") (h:Q false s):wpAny 'h' A (Builtin.List.listLengthHint (.ref d)) Q E s:=by
 unfold Builtin.List.listLengthHint;refine jb (wpAny_specialOf hT F.slot_dict_len.lookup ?_);have e:splitId "dict.__len__" = some ("dict", "__len__"):=by kernel_rfl
 dsimp only;rw [e];dsimp only;refine jb (yL (T:="dict") (b:=true) hT F.sub_dict_dict ?_);rw [jg (show ¬((!true)=true)from jy),je]
 rotate_left
 . decide +kernel
 exact jb (wpAny_typeOf hT (jf h))
theorem ZhR{d:Addr}{o:Obj}{es:Array DictEntry}{ep:Nat}(hs:(d == sysModules)=false)(x:o.ExactDict)(q:o.data = .dict es ep) :
 W.KdlSrc prog w "dict" d d es.size (λi v=>∃e,es[i]? = some e/\v=e.key) (λh=>h.get? d=some o) where
 type:=λs g=>⟨o,g,x.1⟩
 there:=λh g=>⟨jz g,jz g⟩
 keep:=λh h' g k=>k d 's' o g
 notList:=by decide
 notTuple:=by decide
 hint:=λA E s Q g h=>Zem ⟨o,g,x.1⟩ h
 iter:=λA s hh g=>by
  have hd:d≠s.heap.objs.size:=jQ (jz g)
  refine⟨{ cls := .type "dict_keyiterator",data := .fields #[.ref d,.int 0 0,.int es.size 0,.int ep 0] },λi h=>h.IsKeyIter s.heap.objs.size d i es.size ep/\h.get? d=some o,λE Q k=>L2.rawIter hs g x q k,
   ⟨λb hb=>by rw [ju.mp hb];exact jj,λi h h' ⟨⟨oi,e1,e2⟩,g1⟩ k=>⟨⟨oi,k _ jj oi e1,e2⟩,k d (jq _ jj) o g1⟩,λi s1 Q E hi ⟨t,g1⟩ k => ?_,λs1 Q E ⟨t,g1⟩ k => ?_,λi s1 Q E ⟨t,g1⟩ k=>wpAny_pyIter_keyiter t k⟩,⟨_,jr _ rfl,rfl,rfl⟩,jh _ g⟩
  . refine L2.rawNext t g1 q hi λh' t' sb => ?_
    exact k _ h' s1.toks ⟨es[i],yb hi,rfl⟩ ⟨t',(sb.2 d hd).trans g1⟩ λb ob hb e=>(sb.2 b (λz=>hb (by rw [z];exact jj))).trans e
  . exact L2.rawEnd hh t g1 q (jk _) λh' eb=>k h' s1.toks λb ob hb e=>eb b ob (λz=>hb (by rw [z];exact jj)) e
end
end PySem
namespace L2
open PySem PySem.Spec PyProof.Rows
section
variable{X:Cx}
theorem ZbV:∀{xs:List V}{us:List Value},xs.length=us.length->(∀(j:Nat)(x:V)(v:Value),xs[j]? = some x->us[j]? = some v->RelV x v)->Vals xs us
 | [],[],_,_ => .nil
 | [],u::us,h,_=>by simp at h
 |x::xs,[],h,_=>by simp at h
 |x::xs,u::us,h,k => .cons (k 0 x u rfl rfl) (ZbV (by simpa using h) λj a b h1 h2=>k (j+1) a b (by simpa using h1) (by simpa using h2))
def rLstN:List V->Hp->VK->Prop:=λxs H Q=>∃p φ kas,xs=[.ref p]/\H p=some (.ext φ)/\(∀h,φ h->∃rows,NK.NOk H p rows h/\rows.map (λr=>V.ref r.2.1)=kas)/\∀l,H l=none->Q (.ref l) (upd H l (.lst kas))
theorem Zcv(hc:X.calm=true:=by rfl):CallR X (.type "list") rLstN:=by
 intro pins s σ H xs us Q I r h;obtain⟨p,φ,kas,rfl,e1,hk,q⟩:=h;obtain⟨u,rfl,rx⟩:=YF r;cases rx;obtain⟨rows,n,hr⟩:=hk _ (show ObjOk X.prog X.w H s.heap p (.ext φ)from I.hok p _ e1).1;obtain⟨o,es,ep,g1,g2,g3,g4⟩:=n.dat;have hz:es.size=rows.length:=by rw [<-jP,g4,ja]
 have few:=n.few;refine W.kdl_call (ZhR n.sm g2 g3) (I.ok.hd hc) g1 (by rw [hz,j7];omega) λh' tk acc' c' kp e hi => ?_
 have hl:kas.length=rows.length:=by rw [<-hr,ja]
 have hvs:Vals kas acc'.toList:=by
  refine ZbV (by rw [hl,<-hz];simpa using hi.1.symm) λj x v h1 h2 => ?_
  obtain⟨en,h3,rfl⟩:=hi.2 j v (by simpa using h2);rw [<-hr,ji]at h1;rw [<-Array.getElem?_toList,g4,ji]at h3;cases hj:rows[j]? with
  |none=>rw [hj]at h1;cases h1
  |some row=>
   rw [hj]at h1 h3;cases h1;cases h3;rfl
 exact⟨.ref s.heap.objs.size,_,I.laid (t':=tk) kp (jk _) (show ObjOk X.prog X.w _ h' _ (.lst _)from⟨by rw [hl,j7];omega,acc'.toList,c',hvs,e⟩),rfl,q _ (I.hok.fresh (jk _))⟩
end
end L2
namespace DL
open PySem PySem.Spec L2
section
variable{cA:Kn}{G:Cn}{ow owB owC:List Nat}
def evn{α:Type}:List α->List α
 |x::_::xs=>x::evn xs
 |_=>[]
theorem Zc8:∀{xs:List D}{vs:List V},RepL cA av H xs vs->RepL cA av H (evn xs) (evn vs)
 | [],vs,h=>by rw [h.nil_of];exact RepL.nil
 | [x],vs,h=>by
  unfold RepL at h;obtain⟨v,t,rfl,_,r⟩:=h;rw [r.nil_of];exact RepL.nil
 |x::y::xs,vs,h=>by
  unfold RepL at h;obtain⟨v,t,rfl,r1,h⟩:=h;unfold RepL at h;obtain⟨u,t2,rfl,r2,h⟩:=h;exact RepL.cons r1 (Zc8 h)
theorem Zfq{rows:List NK.Row}(h:Yk xs vs rows):rows.map (λr=>V.ref r.2.1)=evn vs:=
 XQ (motive:=λxs vs rows=>rows.map (λr=>V.ref r.2.1)=evn vs) rfl (λk x xs u w vs r rows _ hu _ _ ih=>by rw [jp,ih,hu];rfl) h
def Y6(ε:Env->Option D)(δ:Env):Option D:=match ε δ with
 |some (.dnn xs)=>some (.lst (evn xs))
 |_=>none
theorem Zfr{q:Ql}(hq:q = .cl\/q = .tp)(h:VE G ow te q ε):VF G ow (tCB rLstN (Zy te tNil)) (Y6 ε):=λH0 av A σ H δ E d e Q k=>by
 unfold Y6 at e
 split at e
 . rename_i xs hx
   cases e;refine h H0 av A σ H δ E _ hx _ λv H1 s1 r1 => ?_
   have r3:RepT G.1 av (AV av A) H1 (.dnn xs) v:=by
    have:=r1.tp;rcases hq with rfl|rfl<;>exact this
   obtain⟨p,vs,rfl,_,rd,_,l⟩:=r3;refine⟨p,_,evn vs,rfl,rd,λhp x => ?_,λp2 hp2 => ?_⟩
   . obtain⟨rows,n,rv⟩:=nok l hp x
     exact⟨rows,n,Zfq rv⟩
   . exact k p2 (evn vs) (evn xs) H1 s1 hp2 (Zc8 l) rfl
 . cases e
end
end DL
namespace NK
open PySem PySem.Spec L2 PyProof.Rows
def ND(H:Hp)(a:Addr)(seen:List (List El)):Prop:=∃xs:List Row,H a=some (.ext (NDat a xs))/\xs.map (·.1)=seen/\seen.Nodup/\(∀x∈xs,KyH H x.1 x.2.1)/\(∀(j:Nat)(x:Row),xs[j]? = some x->∃t,x.2.2 = .int (j:Nat) t)/\(a == sysModules)=false
def tDNewN:TE:=λ_ H Q=>∀p,H p=none->ND (upd H p (.ext (NDat p []))) p []->Q (.ref p) (upd H p (.ext (NDat p [])))
theorem pe_dnewN:PE X (.Dict [] [] pos) tDNewN:=λpins s σ H Q I h=>by
 have hs:(s.heap.objs.size == sysModules)=false:=yi.mpr (jO (jQ I.big));refine wpAny_Dict_empty ⟨.ref s.heap.objs.size,_,I.laid (a:=s.heap.objs.size) (o:=.ext (NDat s.heap.objs.size [])) (t':=s.toks) (λ_ _ q=>jh _ q) (jk _) (Zjt ⟨_,#[],0,jr _ rfl,⟨rfl,rfl,rfl⟩,rfl,rfl⟩),rfl,h _ (I.hok.fresh (jk _)) ?_⟩
 exact⟨[],Zi,rfl,qt,λx hx=>(by cases hx),λj x hx=>by simp at hx,hs⟩
end NK
namespace Wb
open PySem PySem.Spec L2
abbrev Pr:=Int×Int
abbrev Ky:=Int×List Nat
def kE(p:Pr):List NK.El:=[.inl (some p.1),.inl (some p.2)]
def kO(k:Ky):List Key:=[.inl k.1,.inr (tx k.2)]
theorem Zgf{p q:Pr}(h:kE p=kE q):p=q:=by
 unfold kE at h;obtain⟨a,b⟩:=p;obtain⟨c,d⟩:=q;simp at h;rw [h.1,h.2]
theorem Zj5{p q:Ky}(h:kO p=kO q):p=q:=by
 unfold kO at h;obtain⟨a,b⟩:=p;obtain⟨c,d⟩:=q;simp only [List.cons.injEq,Sum.inl.injEq,Sum.inr.injEq,and_true,tx_inj]at h;rw [h.1,h.2]
theorem Vs:∀{l:List Pr},l.Nodup->(l.map kE).Nodup
 | [],_=>qt
 |a::l,h=>by
  rw [jp,j8];obtain⟨h1,h2⟩:=j8.mp h;refine⟨λhm => ?_,Vs h2⟩;obtain⟨b,hb,e⟩:=jE.mp hm;exact h1 (Zgf e▸hb)
def Z1(x:Pr×Addr):NK.Row:=(kE x.1,x.2,.bool true)
def Keep(H H':Hp):Prop:=∀a vs,H a=some (.tup vs)->H' a=some (.tup vs)
structure In(H0 H:Hp)(b:Addr)(xs:List (Pr×Addr)):Prop where
 at_:H b=some (.ext (NK.NDat b (xs.map Z1)))
 nd:(xs.map (·.1)).Nodup
 sm:(b == sysModules)=false
 ky:∀x∈xs,H x.2=some (.tup [.int x.1.1,.int x.1.2])/\H0 x.2=none
abbrev Gr:=Ky×Addr×List (Pr×Addr)
def ZL(gs:List Gr):List (List Key×V):=gs.map λg=>(kO g.1,.ref g.2.1)
structure Wg(H0 H:Hp)(f:Addr)(gs:List Gr):Prop where
 top:H f=some (.dT (ZL gs))
 f0:H0 f=none
 inn:∀g∈gs,In H0 H g.2.1 g.2.2/\H0 g.2.1=none
 ad:(gs.map (·.2.1)).Nodup
 sm:Same H0 H
def strip(gs:List Gr):List (Ky×List Pr):=gs.map λg=>(g.1,g.2.2.map (·.1))
def putP(p:Pr)(ps:List Pr):List Pr:=if p∈ps then ps else ps++[p]
def putG(k:Ky)(p:Pr):List (Ky×List Pr)->List (Ky×List Pr)
 | []=>[(k,[p])]
 |g::gs=>if g.1=k then(g.1,putP p g.2)::gs else g::putG k p gs
theorem In.mono{H0 H H':Hp}{b:Addr}{xs:List (Pr×Addr)}(h:In H0 H b xs)(hb:H' b=H b)(k:Keep H H'):In H0 H' b xs:=⟨hb.trans h.at_,h.nd,h.sm,λx hx=>⟨k _ _ (h.ky x hx).1,(h.ky x hx).2⟩⟩
theorem val_no{gs:List Gr}{k:Ky}(h:Zm (ZL gs) (kO k)=none):∀g∈gs,g.1≠k:=by
 induction gs with
 |nil=>exact λ_ z=>nomatch z
 |cons g gs ih=>
  by_cases e:kO g.1=kO k
  . have:Zm (ZL (g::gs)) (kO k)=some (.ref g.2.1):=Ye e
    rw [this]at h;cases h
  . have:Zm (ZL (g::gs)) (kO k)=Zm (ZL gs) (kO k):=Yg e
    rw [this]at h;intro g' hg;rcases jA.mp hg with rfl|hg
    . exact λz=>e (by rw [z])
    . exact ih h g' hg
theorem Zj6{gs:List Gr}{k:Ky}{v:V}(h:Zm (ZL gs) (kO k)=none):Zv (ZL gs) (kO k) v=ZL gs++[(kO k,v)]:=by
 unfold Zv;rw [Xs,h];rfl
theorem Zc9{k:Ky}{p:Pr}:∀{gs:List (Ky×List Pr)},(∀g∈gs,g.1≠k)->putG k p gs=gs++[(k,[p])]
 | [],_=>rfl
 |g::gs,h=>by
  rw [putG,jg (h g jj),Zc9 λx hx=>h x (jq _ hx)];rfl
theorem UU{H0 H:Hp}{b q:Addr}{xs:List (Pr×Addr)}{p:Pr}(I:In H0 H b xs)(hq:H q=some (.tup [.int p.1,.int p.2]))(h0:H0 q=none)(hl:xs.length<=90000):∃xs' H',NK.NPut H b (.ref q) (.bl true) H'/\In H0 H' b xs'/\xs'.map (·.1)=putP p (xs.map (·.1))/\(∀x,x≠b->H' x=H x):=by
 have hk:NK.KyH H (kE p) q:=⟨_,hq,.cons rfl (.cons rfl .nil)⟩
 have hbt:∀a vs,H a=some (.tup vs)->a≠b:=λa vs e z=>by rw [z,I.at_]at e;cases e
 have nok:∀h,NK.NDat b (xs.map Z1) h->NK.NOk H b (xs.map Z1) h:=λh x=>by
  refine⟨x,?_,by rw [ja];omega,I.sm,λr hr => ?_⟩
  . rw [jZ]
    have:=I.nd;rw [show xs.map ((·.1)∘Z1)=(xs.map (·.1)).map kE by rw [jZ];rfl];exact Vs this
  . obtain⟨y,hy,rfl⟩:=jE.mp hr
    exact⟨_,(I.ky y hy).1,.cons rfl (.cons rfl .nil)⟩
 have fin:∀ys:List (Pr×Addr),(∀u,RelV (.bl true) u->storedH (xs.map Z1) (kE p) q u=ys.map Z1)->NK.NPut H b (.ref q) (.bl true) (upd H b (.ext (NK.NDat b (ys.map Z1)))):=λys hy=>by
  refine⟨_,_,kE p,q,I.at_,rfl,hk,rfl,λh x=>⟨_,nok h x,λu h' ru d => ?_⟩,λh x => ?_,λh1 h2 x k=>x.stay k⟩
  . rw [hy u ru]at d;exact d
  . obtain⟨o,_,_,e,_⟩:=x;exact⟨o,e⟩
 have keep:∀u:HO,Keep H (upd H b u):=λu a vs e=>by rw [Zc (hbt a vs e)];exact e
 by_cases hp:p∈xs.map (·.1)
 . refine⟨xs,_,fin xs λu ru => ?_,⟨Zi,I.nd,I.sm,λx hx=>⟨keep _ _ _ (I.ky x hx).1,(I.ky x hx).2⟩⟩,by unfold putP;rw [je hp],λx hx=>Zc hx⟩
   cases ru;unfold storedH
   have:(atKey (xs.map Z1) (kE p)).isSome=true:=by
    obtain⟨y,hy,e⟩:=jE.mp hp;unfold atKey;rw [uv,List.find?_isSome];exact⟨Z1 y,qU hy,by simp [Z1,e]⟩
   rw [je this,jZ];refine qV λy hy => ?_
   show putAt (kE p) (.bool true) (Z1 y)=Z1 y;unfold putAt
   split<;>rfl
 . refine⟨xs++[(p,q)],_,fin (xs++[(p,q)]) λu ru => ?_,⟨Zi,?_,I.sm,λx hx => ?_⟩,by unfold putP;rw [jg hp,jm];rfl,λx hx=>Zc hx⟩
   . cases ru
     unfold storedH
     have:(atKey (xs.map Z1) (kE p)).isSome=false:=by
      cases e:(atKey (xs.map Z1) (kE p)).isSome with
      |false=>rfl
      |true=>
       unfold atKey at e;rw [uv,List.find?_isSome]at e;obtain⟨r,hr,e⟩:=e;obtain⟨y,hy,rfl⟩:=jE.mp hr;exact(hp (jE.mpr ⟨y,hy,Zgf (qz e)⟩)).elim
     rw [this,jg jy,jm];rfl
   . rw [jm,qF]
     refine⟨I.nd,by simp,λa ha c hc => ?_⟩;have:c=p:=by simpa using hc
     subst this;exact λz=>hp (z▸ha)
   . rcases jK.mp hx with hx|hx
     . exact⟨keep _ _ _ (I.ky x hx).1,(I.ky x hx).2⟩
     . rw [ju.mp hx]
       exact⟨keep _ _ _ hq,h0⟩
theorem Y7{H0 H:Hp}(k:Same H0 H)(h:H x=none):H0 x=none:=by
 cases e:H0 x with
 |none=>rfl
 |some o=>rw [k x o e]at h;cases h
theorem ZI{H:Hp}{x y:Addr}{o:HO}(h:H x=some o)(h':H y=none):x≠y:=λz=>by rw [z,h']at h;cases h
theorem Yy{H:Hp}(h:H x=none):Keep H (upd H x u):=λa vs e=>by rw [Zc (ZI e h)];exact e
theorem Keep.trans{H H1 H2:Hp}(a:Keep H H1)(b:Keep H1 H2):Keep H H2:=λx vs e=>b x vs (a x vs e)
theorem Wg.fresh{H0 H:Hp}{f x:Addr}{gs:List Gr}{u:HO}(W:Wg H0 H f gs)(h:H x=none):Wg H0 (upd H x u) f gs:=by
 refine⟨by rw [Zc (ZI W.top h)];exact W.top,W.f0,λg hg=>⟨(W.inn g hg).1.mono (Zc (ZI (W.inn g hg).1.at_ h)) (Yy h),(W.inn g hg).2⟩,W.ad,λa o e => ?_⟩;have:=W.sm a o e;rw [Zc (ZI this h)];exact this
theorem val_split{gs:List Gr}{k:Ky}{v:V}(h:Zm (ZL gs) (kO k)=some v):∃pre g post,gs=pre++g::post/\g.1=k/\v = .ref g.2.1/\∀x∈pre,x.1≠k:=by
 induction gs with
 |nil=>cases h
 |cons g gs ih=>
  by_cases e:kO g.1=kO k
  . have:Zm (ZL (g::gs)) (kO k)=some (.ref g.2.1):=Ye e
    rw [this]at h;cases h;exact⟨[],g,gs,rfl,Zj5 e,rfl,λ_ z=>nomatch z⟩
  . have:Zm (ZL (g::gs)) (kO k)=Zm (ZL gs) (kO k):=Yg e
    rw [this]at h;obtain⟨pre,g',post,h1,h2,h3,h4⟩:=ih h;refine⟨g::pre,g',post,by rw [h1];rfl,h2,h3,λx hx => ?_⟩;rcases jA.mp hx with rfl|hx
    . exact λz=>e (by rw [z])
    . exact h4 x hx
theorem Jr{k:Ky}{p:Pr}{ps:List Pr}{post:List (Ky×List Pr)}:∀{pre:List (Ky×List Pr)},(∀g∈pre,g.1≠k)->putG k p (pre++(k,ps)::post)=pre++(k,putP p ps)::post
 | [],_=>by rw [ue,putG,je rfl];rfl
 |g::pre,h=>by
  rw [qD,putG,jg (h g jj),Jr λx hx=>h x (jq _ hx)];rfl
theorem Zgg{H0 H:Hp}{pre post:List Gr}{g:Gr}{p:Pr}(W:Wg H0 H f (pre++g::post))(hq:H q=some (.tup [.int p.1,.int p.2]))(h0:H0 q=none)(hl:g.2.2.length<=90000)(hk:∀x∈pre,x.1≠g.1) :
 ∃H' gs',NK.NPut H g.2.1 (.ref q) (.bl true) H'/\Wg H0 H' f gs'/\strip gs'=putG g.1 p (strip (pre++g::post))/\Keep H H':=by
 have hg:g∈pre++g::post:=jw _ jj;obtain⟨I,b0⟩:=W.inn g hg;obtain⟨xs,H',n,I',e,same⟩:=UU I hq h0 hl;have kp:Keep H H':=λa vs z=>by rw [same a (λy=>by rw [y,I.at_]at z;cases z)];exact z
 have hf:H' f=H f:=same f λz=>by have:=W.top;rw [z,I.at_]at this;cases this
 have nd:=W.ad;rw [jm,jp,qF,j8]at nd;obtain⟨_,⟨n1,_⟩,n2⟩:=nd;refine⟨H',pre++(g.1,g.2.1,xs)::post,n,⟨?_,W.f0,λx hx => ?_,?_,λa o z => ?_⟩,?_,kp⟩
 . rw [hf,W.top]
   unfold ZL;rw [jm,jm];rfl
 . have out:∀y∈pre++g::post,y.2.1≠g.2.1->In H0 H' y.2.1 y.2.2/\H0 y.2.1=none:=λy hy ny=>⟨(W.inn y hy).1.mono (same _ ny) kp,(W.inn y hy).2⟩
   rcases jK.mp hx with hx|hx
   . exact out x (j2 _ hx) (n2 _ (qU hx) _ jj)
   . rcases jA.mp hx with rfl|hx
     . exact⟨I',b0⟩
     . exact out x (jw _ (jq _ hx)) λz=>n1 (z▸qU hx)
 . have:=W.ad
   rw [jm,jp]at this ⊢;exact this
 . rw [same a λy=>by rw [y,b0]at z;cases z]
   exact W.sm a o z
 . unfold strip
   rw [jm,jm,jp,jp,Jr]
   . rw [e]
   . intro y hy
     obtain⟨x,hx,rfl⟩:=jE.mp hy;exact hk x hx
abbrev ZiG(K:Frag):TS:=ZB (ZG (UN (Zl 2) (Vz (Zy (Zl 3) (Zy (tOp (Xf K) (Zl 6) (tC (.int 0))) tNil))) NK.tDNewN) (Zs 7)) (NK.sPutN (Zl 7) (Vz (Zy (Zl 5) (Zy (tOp (Xf K) (Zl 6) (tC (.int 1))) tNil))) (tC (.bl true)))
theorem body {K:Frag} {H0 H:Hp} {gs:List Gr} {σ:St} {h s p:Int} {w:List Nat} {De:Ends} (W:Wg H0 H f gs) (hl:8<=σ.length) (h2:σ[2]? = some (some (.ref f))) (h3:σ[3]? = some (some (.int h))) (h5:σ[5]? = some (some (.int s))) (h6:σ[6]? = some (some (.ref c))) (hc:H c=some (.tup [S w,.int p]))
 (hn:gs.length<=1000) (hz:∀g∈gs,g.2.2.length<=90000) (k:∀H' gs' b,Wg H0 H' f gs'->strip gs'=putG (h,w) (s,p) (strip gs)->Keep H H'->De.nx (σ.set 7 (some (.ref b))) H'):ZiG K De σ H:=by
 refine⟨.ref f,h2,f,rfl,.inr ⟨_,.inl W.top⟩,⟨.int h,h3,.ref c,h6,.inr (.inl ⟨c,_,0,S w,rfl,rfl,SqT.of hc,rfl,show 2<=sizeLine by decide,λq1 hq1 b0 hb0 nd => ?_⟩)⟩⟩;have W1:=W.fresh (u:=.tup [.int h,S w]) hq1;have W3:=W1.fresh (u:=.ext (NK.NDat b0 [])) hb0
 have t1:upd (upd H q1 (.tup [.int h,S w])) b0 (.ext (NK.NDat b0 [])) q1=some (.tup [.int h,S w]):=by
  rw [Zc (ZI (show upd H q1 (.tup [.int h,S w]) q1=some _ from Zi) hb0)];exact Zi
 have K1:Keep H (upd (upd H q1 (.tup [.int h,S w])) b0 (.ext (NK.NDat b0 []))):=(Yy hq1).trans (Yy hb0);refine⟨ZL gs,kO (h,w),q1,W3.top,rfl,t1,by unfold ZL;rw [ja,j7];omega,λv hv => ?_,λhv => ?_⟩
 . obtain⟨pre,g,post,e,ek,rfl,npre⟩:=val_split hv
   subst e;refine⟨.ref g.2.1,by rw [jB 'a'],.int s,by rw [jl 'b'];exact h5,.ref c,by rw [jl 'b'];exact h6,.inr (.inl ⟨c,_,1,.int p,rfl,rfl,SqT.of (K1 _ _ hc),rfl,show 2<=sizeLine by decide,λq2 hq2 => ?_⟩)⟩;obtain⟨H',gs',n,W',e',kp⟩:=Zgg (p:=(s,p)) (W3.fresh (u:=.tup [.int s,.int p]) hq2) Zi (Y7 W3.sm hq2) (hz g (jw _ jj)) λx hx z=>npre x hx (z.trans ek)
   exact⟨g.2.1,H',rfl,n,k H' gs' g.2.1 W' (by rw [e',ek]) ((K1.trans (Yy hq2)).trans kp)⟩
 . have hfb:f≠b0:=ZI W1.top hb0
   have sm:(b0 == sysModules)=false:=by obtain⟨_,_,_,_,_,_,z⟩:=nd;exact z
   have kf:Keep (upd (upd H q1 (.tup [.int h,S w])) b0 (.ext (NK.NDat b0 []))) (upd (upd (upd H q1 (.tup [.int h,S w])) b0 (.ext (NK.NDat b0 []))) f (.dT (Zv (ZL gs) (kO (h,w)) (.ref b0)))):=λa vs z=>by
    rw [Zc λy=>by rw [y,W3.top]at z;cases z];exact z
   have W4:Wg H0 (upd (upd (upd H q1 (.tup [.int h,S w])) b0 (.ext (NK.NDat b0 []))) f (.dT (Zv (ZL gs) (kO (h,w)) (.ref b0)))) f (gs++[((h,w),b0,[])]):=by
    refine⟨?_,W.f0,λg hg => ?_,?_,λa o z => ?_⟩
    . rw [Zi,Zj6 hv]
      unfold ZL;rw [jm];rfl
    . rcases jK.mp hg with hg|hg
      . refine⟨(W3.inn g hg).1.mono (Zc λz => ?_) kf,(W3.inn g hg).2⟩
        have:=(W3.inn g hg).1.at_;rw [z,W3.top]at this;cases this
      . rw [ju.mp hg]
        exact⟨⟨by rw [Zc (jO hfb)];exact Zi,qt,sm,λ_ z=>nomatch z⟩,Y7 W1.sm hb0⟩
    . rw [jm,qF]
      refine⟨W.ad,by simp,λa ha c hc => ?_⟩;obtain⟨g,hg,rfl⟩:=jE.mp ha;have:c=b0:=by simpa using hc
      rw [this];exact ZI (W1.inn g hg).1.at_ hb0
    . rw [Zc λy=>by rw [y,W.f0]at z;cases z]
      exact W3.sm a o z
   refine⟨.ref b0,by rw [jB 'a'],.int s,by rw [jl 'b'];exact h5,.ref c,by rw [jl 'b'];exact h6,.inr (.inl ⟨c,_,1,.int p,rfl,rfl,SqT.of (kf _ _ (K1 _ _ hc)),rfl,show 2<=sizeLine by decide,λq2 hq2 => ?_⟩)⟩;obtain⟨H',gs',n,W',e',kp⟩:=Zgg (pre:=gs) (g:=((h,w),b0,[])) (post:=[]) (p:=(s,p)) (W4.fresh (u:=.tup [.int s,.int p]) hq2) Zi (Y7 W4.sm hq2) (jR _) (val_no hv)
   refine⟨b0,H',rfl,n,k H' gs' b0 W' ?_ (((K1.trans kf).trans (Yy hq2)).trans kp)⟩;rw [e']
   have nk:∀x∈strip gs,x.1≠(h,w):=λx hx=>by
    obtain⟨g,hg,rfl⟩:=jE.mp hx;exact val_no hv g hg
   rw [Zc9 nk,show strip (gs++[((h,w),b0,[])])=strip gs++[((h,w),[])] by unfold strip;rw [jm];rfl];exact Jr (post:=[]) nk
end Wb
namespace L2
open PySem PySem.Spec PyProof.Rows
theorem Zle{k:Key}(h:(ZT P w).is k u=true):RelV (kV k) u:=by
 rcases YV h with⟨i,t,rfl,rfl⟩|⟨x,t,rfl,rfl⟩
 . exact⟨t,rfl⟩
 . exact⟨t,rfl⟩
theorem ZiH:∀{es:List DictEntry}{kvs:List (Key×V)}{vs:List (Key×Value)}{i:Nat},KV kvs vs->Pairs (ZT P w) es vs->(hi:i<es.length)->∃k x,kvs[i]? = some (k,x)/\RelV (kV k) es[i].key/\RelV x es[i].val
 |_,_,_,i,.nil,.nil,hi=>absurd hi (Nat.not_lt_zero _)
 |_,_,_,0,.cons (a:=a) (b:=b) r _,.cons h1 h2 _,hi=>⟨a.1,a.2,rfl,by rw [r.1];exact Zle h1,h2.symm▸r.2⟩
 |_,_,_,i+1,.cons _ r,.cons _ _ p,hi=>ZiH r p (by simpa using hi)
theorem Zgh{H:Hp}{h:Heap}{d:Addr}{o:Obj}{kvs:List (Key×V)}(ok:HOk P w H h)(e:H d=some (.frz o (.dK kvs))):h.get? d=some o/\∃es ep,o.ExactDict/\(d == sysModules)=false/\o.data = .dict es ep/\es.size=kvs.length /\
 ∀i(hi:i<es.size),∃k x,kvs[i]? = some (k,x)/\RelV (kV k) es[i].key/\RelV x es[i].val:=by
 obtain⟨g,z,y,xs,r,ob,es,ep,g2,x,q,_,he,_⟩:=(show ObjOk P w H h d (.frz o (.dK kvs))from ok d _ e)
 rw [g]at g2;cases g2;have hl:xs.length=kvs.length:=(qI r).symm;have hz:es.size=kvs.length:=by rw [<-hl,<-jP,he.length]
 refine⟨g,es,ep,x,y,q,hz,λi hi => ?_⟩;obtain⟨k,x,h1,h2,h3⟩:=ZiH r he (i:=i) (by rw [jP];exact hi);exact⟨k,x,h1,by rw [<-yz];exact h2,by rw [<-yz];exact h3⟩
def ZmQ(d:Addr)(o:Obj)(kvs:List (Key×V)):It:=⟨λi H=>H d=some (.frz o (.dK kvs))/\i<kvs.length,λi H v H'=>∃p k x,kvs[i]? = some (k,x)/\H p=none/\v = .ref p/\H'=upd H p (.tup [kV k,x]),λi H=>H d=some (.frz o (.dK kvs))/\kvs.length<=i⟩
theorem Zbz{K:Frag}{x1:Nat}(it d:Addr)(o:Obj)(es:Array DictEntry)(ep:Nat)(kvs:List (Key×V))(hq:o.data = .dict es ep)(hz:es.size=kvs.length):Turn P w K (.Tuple elts x1 tpos) (ZmQ d o kvs) [it] it (λi h=>∃ok ov,IsItemIter h it d i es.size ep ok ov) where
 mem:=by simp
 obj:=λi h st b hb=>by
  have e:b=it:=by simpa using hb
  subst e;obtain⟨ok,ov,e⟩:=st
  exact⟨_,e,λv z=>by
   have z':Data.fields _=Data.cell v:=z;cases z'⟩
 keep:=λi h h' st k=>by
  obtain⟨ok,ov,e⟩:=st;exact⟨ok,ov,k it 'c' _ e⟩
 item:=by
  intro X hP hw hK hc i pins s σ H E I hf st hg;subst hP hw hK;obtain⟨f0,f1,f2,f3,f4,f5⟩:=hf it 'c';obtain⟨hd,hi⟩:H d=some (.frz o (.dK kvs))/\i<kvs.length:=hg;obtain⟨g,es',ep',x,_,q,_,all⟩:=Zgh I.hok hd;rw [hq]at q;cases q;obtain⟨ok,ov,st⟩:=st;have hi':i<es.size:=by omega
  obtain⟨k,y,e1,e2,e4⟩:=all i hi';refine Zar st g hq hi' λh' ho hT hk => ?_
  refine⟨_,rfl,wpAny_letOwnedTupleGo_items ho λh2 he2 hs2 => ?_⟩;have hs2:Heap.SameBut it h' h2:=hs2;have hTl:it<s.heap.objs.size:=jz st;have hT2:h2.get? s.heap.objs.size=some { cls := .type "tuple",data := .seq #[es[i].key,es[i].val] }:=(hs2.2 _ (yf hTl)).trans hT;have k2:∀b o,b≠it->s.heap.get? b=some o->h2.get? b=some o:=λb o hb q=>(hs2.2 b hb).trans (hk b o hb q)
  have hTn:H s.heap.objs.size=none:=I.hok.fresh (jk _);have neT:∀b o,s.heap.get? b=some o->b≠s.heap.objs.size:=λb o q=>jQ (jz q)
  have I2:Inv X pins σ (upd H s.heap.objs.size (.tup [kV k,y])) { s with heap:=h2 }:=by
   refine I.step (g':=s.gens) (d':=s.drawn) (ch:=[it]) (λb hb => ?_) (λb o _ _ hcb q _ => ?_) (λb o _ _ hcb q _ => ?_) (λb o hcb q n => ?_) (λb o hcb q => ?_) (λb xs q => ?_) (λb o v q => ?_) (λb ps q => ?_) (λm hm => ?_) (λb o q => ?_) I.bare
   . rw [ju.mp hb]
     exact⟨f3,f1,f4,f5⟩
   . exact k2 b o (λz=>hcb (by simp [z])) q
   . exact⟨o.slots,k2 b o (λz=>hcb (by simp [z])) q⟩
   . rw [Zc (neT b o q)]
     exact n
   . exact⟨o,k2 b o (λz=>hcb (by simp [z])) q⟩
   . rw [Zc (Zx q hTn)]
     exact q
   . rw [Zc (Zx q hTn)]
     exact q
   . exact⟨#[],by rw [Zc (Zx q hTn),q];simp⟩
   . obtain⟨o,es,ep,q,r⟩:=hm
     exact⟨o,es,ep,k2 _ o (jO f1) q,r⟩
   . by_cases hb:b=s.heap.objs.size
     . subst hb
       rw [Zi]at q;cases q;refine⟨by show 2<=sizeLine;decide,[es[i].key,es[i].val],.cons e2 (.cons e4 .nil),?_⟩;exact⟨_,hT2,rfl,⟨_,rfl⟩,rfl⟩
     . rw [Zc hb]at q
       have nn:∀(b:Addr)(o:HO),H b=some o->b≠it:=λb o q z=>(by rw [z,f0]at q;cases q)
       refine(I.hok b o q).stay (λd v hd q' => ?_) (λd q'=>by rw [Zc (Zx q' hTn)];exact q') λd xs q'=>by rw [Zc (Zx q' hTn)];exact q'
       rcases hd with rfl|hd
       . exact k2 d v (nn d o q) q'
       . exact k2 d v (nn d _ hd) q'
  refine⟨.ref s.heap.objs.size,_,I2,rfl,⟨s.heap.objs.size,k,y,e1,hTn,rfl,rfl⟩,⟨_,_,he2⟩,λb hb => ?_⟩;rw [ju.mp hb,Zc (jQ hTl)];exact f0
 done:=by
  intro X hP hw hK hc i pins s σ H E I hf st hg;subst hP hw hK;obtain⟨f0,f1,f2,f3,f4,f5⟩:=hf it 'c';obtain⟨hd,hi⟩:H d=some (.frz o (.dK kvs))/\kvs.length<=i:=hg;obtain⟨g,es',ep',x,_,q,_,all⟩:=Zgh I.hok hd;obtain⟨ok,ov,st⟩:=st;exact ZaE (I.ok.hd hc) st g hq 'a' λh' eb=>⟨rfl,I.turned (t':=s.toks) (λb o hb e=>eb b o hb e) f0 f1 f3 f4 f5⟩
 self:=λ_ i _ _ _ st h=>by
  obtain⟨ok,ov,st⟩:=st;exact PySem.W.kcp_self st h
def Zda(NF:Addr->Prop)(tl:TE):TI:=λσ H R=>tl σ H λx H1=>∃d kvs,x = .ref d/\H1 d=some (.dK kvs)/\∀o,NF d->R (ZmQ d o kvs) (upd H1 d (.frz o (.dK kvs)))
section
variable{X:Cx}{elts:List Expr}{x1:Nat}{tpos:Pos}{tg:Expr}
theorem Zen {NF:Addr->Prop} (hl:PE X l tl) (m:M0 X l "items" apos cpos) (hN:∀d,(∀o v,X.H₀ d≠some (.frz o v))->NF d):PI X (.Tuple elts x1 tpos) (.Call (.Attribute l "items" apos) [] [] cpos) (Zda NF tl):=by
 intro pins s σ H R I h;refine yE m.base m.few m.line qR yN PySem.F.type_dict_items (thn (hl pins s σ H _ I h) λv s1 ⟨x,H1,I1,r1,q1⟩ => ?_);obtain⟨d,kvs,e,hd,q⟩:=q1;subst e;obtain rfl:v=Value.ref d:=r1;obtain⟨t1,t2,t3⟩:=Vf I1 (show IsD H1 d from .inl ⟨kvs,.inl hd⟩);refine⟨t1,t2,?_⟩;rw [m.trees];refine qA rfl (evalArgs_nil3 ?_)
 refine yY yN t1 PySem.F.entry_dict_items (PySem.F.args_dict_items_1 _) (Zak d t3) ⟨t1,?_⟩
 have nf:∀o v,X.H₀ d≠some (.frz o v):=λo v z=>by
  have:=I1.base.frzs d o v z;rw [hd]at this;cases this
 obtain⟨o,es,ep,g,x,hq,hm,hz⟩:∃o es ep,s1.heap.get? d=some o/\o.ExactDict/\o.data = .dict es ep/\(d == sysModules)=false/\es.size=kvs.length:=by
  obtain⟨z,y,xs,r,ob,es,ep,g2,x,q,_,he,_⟩:=(show ObjOk X.prog X.w H1 s1.heap d (.dK kvs)from I1.hok d _ hd)
  exact⟨ob,es,ep,g2,x,q,y,by rw [<-jP,he.length];exact(qI r).symm⟩
 have I2:Inv X pins σ (upd H1 d (.frz o (.dK kvs))) s1:=I1.swap hd 'l' 'l' 'l' (λ_ _ z=>by cases z) nf ⟨g,(I1.hok d _ hd).stay (λ_ _ _ r=>r) (λc r=>by rw [Zc λz=>by subst z;rw [hd]at r;cases r];exact r) (λc xs r=>by rw [Zc λz=>by subst z;rw [hd]at r;cases r];exact r) λc ob y r=>by rw [Zc λz=>by subst z;rw [hd]at r;cases r];exact r⟩
 have I3:Inv X pins σ (upd H1 d (.frz o (.dK kvs))) { s1 with heap:=s1.heap.push { cls := .type "dict_items",data := .fields #[.ref d] } }:=I2.kept (t':=s1.toks) λb o e=>jh _ e
 refine Zaq (d:=d) (o:=o) (es:=es) (ep:=ep) ⟨_,jr _ rfl,rfl,rfl⟩ (jh _ g) hq ?_;refine⟨(s1.heap.push { cls := .type "dict_items",data := .fields #[.ref d] }).objs.size,[(s1.heap.push { cls := .type "dict_items",data := .fields #[.ref d] }).objs.size],_,_,_,rfl,I3.kept (t':=s1.toks) λb o e=>jh _ e,Zbz _ d o es ep kvs hq hz,⟨_,_,jr _ rfl⟩,λb hb => ?_,q o (hN d nf)⟩
 rw [ju.mp hb];exact I3.fpOk (jk _) (I3.hok.fresh (jk _))
def Zgi(t:(Addr->Prop)->TS):TS:=λD σ H=>∀NF:Addr->Prop,t NF { D with nx:=λσ' H'=>∃d o kvs,H' d=some (.frz o (.dK kvs))/\NF d/\D.nx σ' (upd H' d (.dK kvs)) } σ H
theorem Zfs{st:Stmt}{t:(Addr->Prop)->TS}(h:∀NF:Addr->Prop,(∀d,(∀o v,X.H₀ d≠some (.frz o v))->NF d)->PS X st (t NF)):PS X st (Zgi t):=by
 intro pins s σ H D I q;refine thn (h (λd=>∀o v,X.H₀ d≠some (.frz o v)) (λ_ z=>z) pins s σ H _ I (q λd=>∀o v,X.H₀ d≠some (.frz o v))) λf s' q => ?_
 cases f with
 |next=>
  obtain⟨σ',H',I',d,o,kvs,hd,nf,q7⟩:=q;exact⟨σ',_,I'.swap hd 'l' 'l' 'l' (λ_ _ z=>by cases z) nf ((I'.hok d _ hd).2.stay (λ_ _ _ r=>r) (λc r=>by rw [Zc λz=>by subst z;rw [hd]at r;cases r];exact r) (λc xs r=>by rw [Zc λz=>by subst z;rw [hd]at r;cases r];exact r) λc ob y r=>by rw [Zc λz=>by subst z;rw [hd]at r;cases r];exact r),q7⟩
 |_=>exact q
end
end L2
namespace Wb
open PySem PySem.Spec L2
abbrev Wy:=List Nat×Int
abbrev Gs:=List (Ky×List Pr)
def putRow(h:Int):Nat->List Wy->Gs->Gs
 |_,[],G=>G
 |j,x::r,G=>putRow h (j+1) r (putG (h,x.1) ((j:Int),x.2) G)
theorem Zas(h:Int)(x:Wy):∀(r:List Wy)(j:Nat)(G:Gs),putRow h j (r++[x]) G=putG (h,x.1) (((j+r.length:Nat):Int),x.2) (putRow h j r G)
 | [],j,G=>rfl
 |y::r,j,G=>by
  rw [qD,putRow,Zas h x r,putRow,jx,show j+1+r.length=j+(r.length+1) by omega]
def Bd(n:Nat)(G:Gs):Prop:=G.length<=n/\∀g∈G,g.2.length<=n
theorem bd_put{n:Nat}{k:Ky}{p:Pr}:∀{G:Gs},G.length<=n->(∀g∈G,g.2.length<=n)->(putG k p G).length<=G.length+1/\∀g∈putG k p G,g.2.length<=n+1
 | [],_,_=>⟨jk _,λg hg=>by rw [ju.mp hg];exact Nat.le_add_left _ _⟩
 |g::G,h1,h2=>by
  rw [jx]at h1;rw [putG]
  split
  . refine⟨by simp,λx hx => ?_⟩
    rcases jA.mp hx with rfl|hx
    . have:=h2 g jj
      show(putP p g.2).length<=_;unfold putP
      split
      . omega
      . rw [jc,qd];omega
    . have:=h2 x (jq _ hx);omega
  . obtain⟨a,b⟩:=bd_put (n:=n) (k:=k) (p:=p) (G:=G) 'a' λx hx=>h2 x (jq _ hx)
    refine⟨by rw [jx,jx];omega,λx hx => ?_⟩;rcases jA.mp hx with rfl|hx
    . have:=h2 x jj;omega
    . exact b x hx
theorem Bd.put{n:Nat}{k:Ky}{p:Pr}{G:Gs}(h:Bd n G):Bd (n+1) (putG k p G):=by
 obtain⟨a,b⟩:=bd_put (k:=k) (p:=p) h.1 h.2;exact⟨jL a (uA h.1),b⟩
theorem Bd.row{h:Int}:∀{r:List Wy}{j n:Nat}{G:Gs},Bd n G->Bd (n+r.length) (putRow h j r G)
 | [],j,n,G,b=>b
 |x::r,j,n,G,b=>by
  rw [putRow,jx,show n+(r.length+1)=n+1+r.length by omega];exact Bd.row b.put
def Rw(H:Hp)(v:V)(row:List Wy):Prop:=∃a vs,v = .ref a/\H a=some (.tup vs)/\vs.length=row.length/\∀(j:Nat)x,row[j]? = some x->∃c,vs[j]? = some (.ref c)/\H c=some (.tup [S x.1,.int x.2])
theorem Rw.keep{H H':Hp}{v:V}{row:List Wy}(h:Rw H v row)(k:Keep H H'):Rw H' v row:=by
 obtain⟨a,vs,e,h1,h2,h3⟩:=h;exact⟨a,vs,e,k _ _ h1,h2,λj x hx=>let⟨c,c1,c2⟩:=h3 j x hx;⟨c,c1,k _ _ c2⟩⟩
theorem Keep.refl(H:Hp):Keep H H:=λ_ _ e=>e
def Agr(n:Nat)(σ σ':St):Prop:=σ'.length=σ.length/\∀i,i<n->σ'[i]? = σ[i]?
theorem Agr.refl(n:Nat)(σ:St):Agr n σ σ:=⟨rfl,λ_ _=>rfl⟩
theorem Agr.set{n j:Nat}{σ σ':St}{x:Option V}(h:Agr n σ σ')(hj:n<=j):Agr n σ (σ'.set j x):=⟨by rw [jU];exact h.1,λi hi=>by rw [jl 'a'];exact h.2 i hi⟩
abbrev tIn(K:Frag):TS:=Yt (Zf6 K (Zy (Zl 4) tNil)) (Xq K 2 (YE (Zs 5) (YE (Zs 6) gNil))) (ZiG K)
theorem strip_len(gs:List Gr):(strip gs).length=gs.length:=by unfold strip;rw [ja]
theorem strip_in{gs:List Gr}{n:Nat}(h:Bd n (strip gs)):∀g∈gs,g.2.2.length<=n:=λg hg=>by
 have:=h.2 _ (qU (f:=λg:Gr=>(g.1,g.2.2.map (·.1))) hg);rw [ja]at this;exact this
theorem Zlf {K:Frag} {gs:List Gr} {σ:St} {h:Int} {v:V} {row:List Wy} {n:Nat} {De:Ends} (W:Wg H0 H f gs) (hl:8<=σ.length) (h2:σ[2]? = some (some (.ref f))) (h3:σ[3]? = some (some (.int h))) (h4:σ[4]? = some (some v)) (R:Rw H v row)
 (b:Bd n (strip gs)) (hn:n+row.length<=1000) (k:∀σ' H' gs',Wg H0 H' f gs'->strip gs'=putRow h 0 row (strip gs)->Keep H H'->Agr 5 σ σ'->De.nx σ' H'):tIn K De σ H:=by
 obtain⟨a,vs,rfl,t1,t2,t3⟩:=id R;refine⟨.ref a,h4,a,vs,rfl,SqT.of t1,λi m σ' H'=>m=row.length-i/\i<=row.length/\∃gs',Wg H0 H' f gs'/\strip gs'=putRow h 0 (row.take i) (strip gs)/\Keep H H'/\Agr 5 σ σ',⟨row.length,by simp,jR _,gs,W,rfl,Keep.refl H,Agr.refl 5 σ⟩,?_⟩
 rintro i m σ' H' ⟨rfl,hi,gs',W',e',kp,ag⟩
 have ta:H' a=some (.tup vs):=kp _ _ t1
 by_cases hlt:i<row.length
 . have hx:row[i]? = some row[i]:=jd hlt
   obtain⟨c,c1,c2⟩:=t3 i _ hx;have htk:row.take (i+1)=row.take i++[row[i]]:=by rw [yS,hx];rfl
   generalize row[i]=x at hx c2 htk;refine .inr ⟨⟨vs,_,SqT.of ta,c1⟩,λσ2 H2=>∃gs2,Wg H0 H2 f gs2/\strip gs2=putRow h 0 (row.take (i+1)) (strip gs)/\Keep H H2/\Agr 5 σ σ2,λσ2 H2 ⟨gs2,w2,e2,k2,a2⟩=>⟨row.length-(i+1),by omega,rfl,hlt,gs2,w2,e2,k2,a2⟩,λv2 H2 y => ?_⟩;obtain⟨x2,p,y1,y2,rfl,rfl⟩:=y
   have ex:x2 = .ref c:=by
    have:=y1 vs (SqT.of ta);rw [c1]at this;exact(jo this).symm
   subst ex
   have bd:Bd (n+i) (strip gs'):=by
    have:=Bd.row (h:=h) (r:=row.take i) (j:=0) b;rw [jY,uc hi]at this;rw [e'];exact this
   refine⟨p,_,rfl,SqT.of Zi,rfl,_,_,rfl,_,_,rfl,rfl,?_⟩;have hb:=bd.1;rw [strip_len]at hb;refine body (W'.fresh (u:=.tup [.int ((0+i:Nat):Int),.ref c]) y2) (h:=h) (s:=((0+i:Nat):Int)) (p:=x.2) (w:=x.1) (c:=c) (by rw [jU,jU,ag.1];exact hl) ?_ ?_ ?_ ?_ (Yy y2 _ _ (kp _ _ c2)) 'a' (λg hg=>by have:=strip_in bd g hg;omega) λH3 gs3 b3 w3 e3 k3 => ?_
   . rw [jl 'b',jl 'b',ag.2 2 'b'];exact h2
   . rw [jl 'b',jl 'b',ag.2 3 'b'];exact h3
   . rw [jl 'b',jB (by rw [ag.1];omega)]
   . rw [jB (by rw [jU,ag.1];omega)]
   . refine⟨gs3,w3,?_,(kp.trans (Yy y2)).trans k3,((ag.set 'b').set 'b').set 'b'⟩
     rw [e3,e',htk,Zas,jY,uc hi]
 . have ei:i=row.length:=by omega
   subst ei;rw [qo]at e';exact .inl ⟨⟨vs,SqT.of ta,by omega⟩,k σ' H' gs' W' e' kp ag⟩
end Wb
namespace PySem
section
variable{prog:Program}{w:World}{K:Type} [DecidableEq K]{knd:KeyKind prog w K}{A:Around}{E:Value->Shared->Prop}{s:Shared}
theorem ZbW(p:DictEntry->Bool):∀l:List DictEntry,(l.find? p).map (·.val)=(l.findIdx? p).bind λi=>(l[i]?).map (·.val)
 | []=>rfl
 |x::l=>by
  rw [yc,List.findIdx?_cons];cases p x with
  |true=>rfl
  |false=>
   have:=ZbW p l;simp only [qM,qP];rw [this];cases l.findIdx? p<;>rfl
theorem Zal {kvs:List (K×Value)} {k:K} {Q:Value->Shared->Prop} (hkey:knd.is k key=true) (hm:s.heap.DictOf knd d kvs)
 (h1:∀x,valueAt kvs k=some x->Q x { s with toks:=s.toks+1 })
 (h2:valueAt kvs k=none->∀h',h'.DictOf knd d (stored kvs k v)->Heap.SameBut d s.heap h'->Q v { s with heap:=h',toks:=s.toks+1 }) (hsz:kvs.length<=sizeLine) :
 wpAny 'h' A (dictSetDefault d key v) Q E s:=by
 obtain⟨o,es,ep,ho,hc,hd,hk,hp,hn⟩:=hm
 have hes:es.size<=sizeLine:=by
  have e1:=hp.length;have e2:es.toList.length=es.size:=by simp
  omega
 unfold dictSetDefault
 try with_reducible refine yj ?_
 refine jb (knd.pyHash hkey ?_);refine jb (wpAny_dictFind_of (s:={ s with toks:=s.toks+1 }) hkey ho hd hk ?_)
 have hidx:(es.findIdx? λe=>knd.is k e.key)=kvs.findIdx? λkv=>decide (kv.1=k):=by
  rw [<-hp.findIdx k];obtain⟨l⟩:=es;simp
 have hval:valueAt kvs k=(es.findIdx? λe=>knd.is k e.key).bind λi=>(es[i]?).map (·.val):=by
  rw [<-hp.find k];obtain⟨l⟩:=es;simp only [List.findIdx?_toArray,List.getElem?_toArray];exact ZbW _ l
 cases hi:es.findIdx? λe=>knd.is k e.key with
 |some i=>
  rw [hi]at hval;refine jb (qg (s:={ s with toks:=s.toks+1 }) ho hd ?_);cases he:es[i]? with
  |none=>
   exfalso
   have:=Array.findIdx?_eq_some_iff_findIdx_eq.mp hi;have hlt:i<es.size:=this.1;rw [yb hlt]at he;exact nomatch he
  |some e=>
   refine jb (ux (jf (h1 e.val ?_)));rw [hval];show(es[i]?).map (·.val)=_;rw [he];rfl
 |none=>
  rw [hi]at hval;have hnot:k∉kvs.map (·.1):=not_mem_of_findIdx_none (hidx▸hi)
  have hany:¬(kvs.any λkv=>decide (kv.1=k))=true:=by
   rw [List.any_eq_true];rintro⟨kv,hkv,he⟩;exact hnot (jE.mpr ⟨kv,hkv,qz he⟩)
  refine jb (ux (jb (wpAny_updateDictKeys (hz:=hes) (s:={ s with toks:=s.toks+1 }) ho hd (jf (h2 hval _ ⟨_,_,ep+1,yh _ ho (Obj.isFreed_of_dict (um hd _)),
   hc.mapDictKeys _,um hd _,hk.push hkey _,?_,?_⟩ (j9 ..))))))
  . rw [stored,jg hany]
    have:=hp.append hkey (knd.hash k) v;obtain⟨l⟩:=es;simpa using this
  . rw [stored,jg hany,jm,qF]
    refine⟨hn,by simp,?_⟩;intro a ha b hb;simp only [jp,uE,ju]at hb;subst hb;exact λe=>hnot (e▸ha)
theorem Zaa{k:K}{key:Value}(d:Addr)(hkey:knd.is k key=true)(hd:(d == sysModules)=false)(v:Value) :
 MeetsIn prog w (Builtin.«dict.setdefault» ⟨[.ref d,key,v],[]⟩) (λ_ R s=>∃kvs,s.heap.DictOf knd d kvs/\kvs.length<=sizeLine /\
  (∀x,valueAt kvs k=some x->R (.ok (.ret x)) { s with toks:=s.toks+1 }) /\
  (valueAt kvs k=none->∀h',h'.DictOf knd d (stored kvs k v)->Heap.SameBut d s.heap h'->R (.ok (.ret v)) { s with heap:=h',toks:=s.toks+1 })):=
 .of_wp λA R s ⟨kvs,hm,hz,h1,h2⟩=>by
  unfold Builtin.«dict.setdefault»;refine jb ?_;unfold Builtin.Dict.keyAndDefault;refine jb (yB hm.typeIs ?_);show wpAny _ _ (pure (d,key,some v)) _ _ s;refine jf ?_;show wpAny _ _ (if(d == sysModules)=true then _ else(dictSetDefault d key v >>= _)) _ _ s;rw [jg (by rw [hd];exact jy)];exact jb (Zal hkey hm (λx hx=>jf ⟨x,rfl,h1 x hx⟩) (λhn h' hm' hs'=>jf ⟨v,rfl,h2 hn h' hm' hs'⟩) hz)
end
end PySem
namespace L2
open PySem PySem.Spec PyProof.Rows
section
variable{X:Cx}{pins:List 'g'}{σ:St}{H:Hp}{s:Shared}{a:Addr}{kvs:List (Key×V)}{k:Key}{u:Value}{v:V}{r:Value}{A:Around}{E:Value->Shared->Prop}
theorem ZhS {Q:Value->Shared->Prop} (I:Inv X pins σ H s) (e:H a=some (.dK kvs)) (ry:RelV (kV k) u) (l:kvs.length<sizeLine) (rv:RelV v r)
 (h1:∀x w' s',Zm kvs k=some x->Inv X pins σ H s'->RelV x w'->Q w' s') (h2:∀s',Zm kvs k=none->Inv X pins σ (upd H a (.dK (Zv kvs k v))) s'->Q r s') :
 wpAny 'e' A (call (.builtin "dict.setdefault") [.ref a,u,r]) Q E s:=by
 obtain⟨z,hd,vs,rel,dd⟩:=Zip I.hok e;have hz:vs.length<=sizeLine:=by rw [<-rel.length];exact z
 have hl:(Zv kvs k v).length<=sizeLine:=by have:=VH kvs k v;omega
 have hv:=rel.val k;refine yY yp dd.typeIs PySem.F.entry_dict_setdefault (PySem.F.args_dict_setdefault_3 _ _ _) (Zaa (knd:=ZT X.prog X.w) a (Vc ry) hd r) ⟨vs,dd,hz,λp hp => ?_,λhn h' dd' hs => ?_⟩
 . rw [hp]at hv
   cases hx:Zm kvs k with
   |none=>rw [hx]at hv;exact hv.elim
   |some x=>rw [hx]at hv;exact h1 x _ _ hx (I.tok _) hv
 . rw [hn]at hv
   cases hx:Zm kvs k with
   |some x=>rw [hx]at hv;exact hv.elim
   |none=>
    have he:∃q,h'.get? a=some q:=let⟨q,_,_,hq,_⟩:=dd';⟨q,hq⟩
    exact h2 _ hx (VJ I (by rw [e];exact True.intro) hs he (ZfR hl hd (rel.put k rv) dd'))
end
def Zgj(td ty tx:TE):TE:=λσ H Q=>td σ H λx H1=>∃a,x = .ref a/\IsD H1 a/\ty σ H1 λy H2=>tx σ H2 λz H3=>∃kvs k,H3 a=some (.dK kvs)/\y=kV k/\kvs.length<sizeLine /\
 (∀v,Zm kvs k=some v->Q v H3)/\(Zm kvs k=none->Q z (upd H3 a (.dK (Zv kvs k z))))
section
variable{X:Cx}{o e f:Expr}{apos cpos:Pos}{td ty tx:TE}
theorem Zft (ho:PE X o td) (he:PE X e ty) (hf:PE X f tx) (m:M2 X o "setdefault" apos e f cpos):PE X (.Call (.Attribute o "setdefault" apos) [e,f] [] cpos) (Zgj td ty tx):=by
 intro pins s σ H Q I h;refine yE m.base m.few m.line qR yp PySem.F.type_dict_setdefault (thn (ho pins s σ H _ I h) λu s1 ⟨x,H1,I1,rx,a,ex,d,q1⟩ => ?_);subst ex;obtain rfl:u=Value.ref a:=rx;obtain⟨t1,t2,_⟩:=Vf I1 d;refine⟨t1,t2,?_⟩;rw [m.trees]
 refine qA rfl (uq (qQ (thn (he pins s1 σ H1 _ I1 q1) λiv s2 ⟨y,H2,I2,ry,q2⟩=>
  qQ (thn (hf pins s2 σ H2 _ I2 q2) λfv s3 ⟨z,H3,I3,rz,kvs,k,ea,ey,hl,q3,q4⟩=>ua ?_))))
 subst ey;exact ZhS I3 ea ry hl rz (λx w' s' e' I' r'=>⟨x,H3,I',r',q3 x e'⟩) λs' e' I'=>⟨z,_,I',rz,q4 e'⟩
end
end L2
namespace Wb
open PySem PySem.Spec L2
def putAll:List Int->List (List Wy)->Gs->Gs
 |h::hs,r::rs,G=>putAll hs rs (putRow h 0 r G)
 |_,_,G=>G
theorem Zat(h:Int)(r:List Wy):∀(hs:List Int)(rs:List (List Wy))(G:Gs),hs.length=rs.length->putAll (hs++[h]) (rs++[r]) G=putRow h 0 r (putAll hs rs G)
 | [],[],G,_=>rfl
 |a::hs,b::rs,G,e=>by
  rw [qD,qD,putAll,Zat h r hs rs _ (by simpa using e)];rfl
 | [],_::_,_,e=>by simp at e
 |_::_,[],_,e=>by simp at e
theorem Bd.all{m:Nat}:∀{hs:List Int}{rs:List (List Wy)}{n:Nat}{G:Gs},(∀r∈rs,r.length<=m)->Bd n G->Bd (n+rs.length*m) (putAll hs rs G)
 | [],rs,n,G,_,b=>by
  have:putAll [] rs G=G:=by cases rs<;>rfl
  rw [this];exact⟨jL b.1 (qC _ _),λg hg=>jL (b.2 g hg) (qC _ _)⟩
 |h::hs,[],n,G,_,b=>⟨jL b.1 (qC _ _),λg hg=>jL (b.2 g hg) (qC _ _)⟩
 |h::hs,r::rs,n,G,hm,b=>by
  have h1:=hm r jj
  have b2:Bd (n+m) (putRow h 0 r G):=by
   have:=Bd.row (h:=h) (r:=r) (j:=0) b;exact⟨by have:=this.1;omega,λg hg=>by have:=this.2 g hg;omega⟩
  have:=Bd.all (hs:=hs) (rs:=rs) (λx hx=>hm x (jq _ hx)) b2;rw [putAll,jx,Nat.add_mul,Nat.one_mul,show n+(rs.length*m+m)=n+m+rs.length*m by omega];exact this
theorem Zfu{q:Bool}{K:Frag}(h:SqQ q K H a xs)(s:Same H H'):SqQ q K H' a xs:=by
 cases q<;>exact h.elim (λz => .inl (DL.Rd.ext z (s a))) .inr
abbrev ZmR(K:Frag):TS:=Yt (Zix K (Zy (Zl 0) (Zy (Zl 1) tNil))) (Xq K 2 (YE (Zs 3) (YE (Zs 4) gNil))) (tIn K)
theorem outer {q:Bool} {K:Frag} {H0 H:Hp} {σ:St} {hs:List Int} {rows:List (List Wy)} {wv:List V} {m:Nat} {De:Ends} (W:Wg H0 H f []) (hl:8<=σ.length) (h0:σ[0]? = some (some (.ref ah))) (h1:σ[1]? = some (some (.ref aw))) (h2:σ[2]? = some (some (.ref f)))
 (th:H ah=some (.tup (hs.map V.int))) (tw:∀H',Same H0 H'->SqQ q K H' aw wv) (lw:wv.length=rows.length) (lh:hs.length=rows.length) (hr:∀(i:Nat)v r,wv[i]? = some v->rows[i]? = some r->Rw H v r) (hm:∀r∈rows,r.length<=m) (hz:(rows.length+1)*m<=1000)
 (k:∀σ' H' gs',Wg H0 H' f gs'->strip gs'=putAll hs rows []->Keep H H'->Agr 3 σ σ'->De.nx σ' H'):ZmR K De σ H:=by
 refine⟨.ref ah,h0,.ref aw,h1,true,q,ah,aw,_,_,rfl,SqT.of th,tw H W.sm,λi n σ' H'=>n=rows.length-i/\i<=rows.length/\∃gs',Wg H0 H' f gs'/\strip gs'=putAll (hs.take i) (rows.take i) []/\Keep H H'/\Agr 3 σ σ',⟨rows.length,by simp,jR _,[],W,rfl,Keep.refl H,Agr.refl 3 σ⟩,?_⟩
 rintro i n σ' H' ⟨rfl,hi,gs',W',e',kp,ag⟩
 have th':=kp _ _ th;have tw':=tw H' W'.sm
 by_cases hlt:i<rows.length
 . have hlh:i<hs.length:=by omega
   have hlw:i<wv.length:=by omega
   have x1:rows[i]? = some rows[i]:=jd hlt;have x2:hs[i]? = some hs[i]:=jd hlh;have x3:wv[i]? = some wv[i]:=jd hlw;have e1:rows.take (i+1)=rows.take i++[rows[i]]:=by rw [yS,x1];rfl
   have e2:hs.take (i+1)=hs.take i++[hs[i]]:=by rw [yS,x2];rfl
   have hmr:=hm rows[i] (q5 hlt);have Rr:=hr i _ _ x3 x1;generalize rows[i]=r at x1 e1 hmr Rr;generalize hs[i]=h at x2 e2;generalize wv[i]=v at x3 Rr;have x2':(hs.map V.int)[i]? = some (.int h):=by rw [ji,x2];rfl
   refine .inr ⟨⟨_,_,_,_,SqT.of th',tw',x2',x3⟩,λσ2 H2=>∃gs2,Wg H0 H2 f gs2/\strip gs2=putAll (hs.take (i+1)) (rows.take (i+1)) []/\Keep H H2/\Agr 3 σ σ2,λσ2 H2 ⟨gs2,w2,e2,k2,a2⟩=>⟨rows.length-(i+1),by omega,rfl,hlt,gs2,w2,e2,k2,a2⟩,λv2 H2 y => ?_⟩;obtain⟨u1,u2,p,y1,y2,y3,rfl,rfl⟩:=y
   have ex1:u1 = .int h:=by
    have:=y1 _ (SqT.of th');rw [x2']at this;exact(jo this).symm
   have ex2:u2=v:=by
    have:=y2 _ (tw');rw [x3]at this;exact(jo this).symm
   subst ex1 ex2
   have bd:Bd (0+i*m) (strip gs'):=by
    have:=Bd.all (m:=m) (hs:=hs.take i) (rs:=rows.take i) (n:=0) (G:=[]) (λr hr=>hm r (List.mem_of_mem_take hr)) ⟨jk _,λ_ z=>nomatch z⟩;rw [jY,uc hi]at this;rw [e'];exact this
   have hmul:i*m+m<=1000:=by
    have:(i+1)*m<=(rows.length+1)*m:=yy m 'a';rw [Nat.add_mul,Nat.one_mul]at this;omega
   refine⟨p,_,rfl,SqT.of Zi,rfl,_,_,rfl,_,_,rfl,rfl,?_⟩;refine Zlf (W'.fresh (u:=.tup [.int h,u2]) y3) (h:=h) (v:=u2) (row:=r) (n:=0+i*m) (by rw [jU,jU,ag.1];exact hl) ?_ ?_ ?_ ((Rr.keep kp).keep (Yy y3)) bd 'a' λσ3 H3 gs3 w3 e3 k3 a3 => ?_
   . rw [jl 'b',jl 'b',ag.2 2 'b'];exact h2
   . rw [jl 'b',jB (by rw [ag.1];omega)]
   . rw [jB (by rw [jU,ag.1];omega)]
   . refine⟨gs3,w3,?_,(kp.trans (Yy y3)).trans k3,⟨?_,λj hj => ?_⟩⟩
     . rw [e3,e',e1,e2,Zat _ _ _ _ _ (by rw [jY,jY];omega)]
     . rw [a3.1,jU,jU,ag.1]
     . rw [a3.2 j 'a',jl 'a',jl 'a',ag.2 j hj]
 . have ei:i=rows.length:=by omega
   subst ei;rw [qo,<-lh,qo]at e';exact .inl ⟨⟨_,_,SqT.of th',tw',.inr 'a'⟩,k σ' H' gs' W' e' kp ag⟩
abbrev ZiI(K:Frag):TE:=VB (ZiF (λ_=>True) (Zl 2)) (Zs 0) tYes (tCB rLstN (Zy (Zl 0) tNil)) 1 []
def pV(ps:List (Pr×Addr)):List V:=ps.map λx=>V.ref x.2
theorem Zeo {K:Frag} {H0 H:Hp} {gs:List Gr} {σ:St} {Q:VK} (W:Wg H0 H f gs) (h2:σ[2]? = some (some (.ref f))) (hn:gs.length<=1000) (hz:∀g∈gs,g.2.2.length<=1000)
 (k:∀(ls:List Addr)H' p,ls.length=gs.length->(∀(j:Nat)l g,ls[j]? = some l->gs[j]? = some g->H' l=some (.lst (pV g.2.2))/\H0 l=none)->(∀g∈gs,∀x∈g.2.2,H' x.2=some (.tup [.int x.1.1,.int x.1.2])/\H0 x.2=none)->Same H0 H'->H' p=none->Q (.ref p) (upd H' p (.lst (ls.map V.ref)))):ZiI K σ H Q:=by
 refine⟨.ref f,h2,f,ZL gs,rfl,W.top,λo _ => ?_⟩;have lo:(ZL gs).length=gs.length:=by unfold ZL;rw [ja]
 have hff:∀g∈gs,g.2.1≠f:=λg hg z=>by have:=(W.inn g hg).1.at_;rw [z,W.top]at this;cases this
 have kf:Keep H (upd H f (.frz o (.dT (ZL gs)))):=λa vs e=>by rw [Zc λz=>by rw [z,W.top]at e;cases e];exact e
 refine⟨λi m ys H'=>m=gs.length-i/\i<=gs.length/\∃ls:List Addr,ys=ls.map V.ref/\ls.length=i/\(∀(j:Nat)l g,ls[j]? = some l->gs[j]? = some g->H' l=some (.lst (pV g.2.2))/\H0 l=none)/\Same (upd H f (.frz o (.dT (ZL gs)))) H',⟨gs.length,by simp,jR _,[],rfl,rfl,λj l g e=>by simp at e,Same.refl _⟩,?_⟩
 rintro i m ys H' ⟨rfl,hi,ls,rfl,ll,hls,sm⟩
 have tf:H' f=some (.frz o (.dT (ZL gs))):=sm f _ Zi;have smH:∀a u,a≠f->H a=some u->H' a=some u:=λa u n e=>sm a u (by rw [Zc n];exact e)
 have sm0:Same H0 H':=λa u e=>smH a u (λz=>by rw [z,W.f0]at e;cases e) (W.sm a u e)
 have ky:∀g∈gs,∀x∈g.2.2,H' x.2=some (.tup [.int x.1.1,.int x.1.2])/\H0 x.2=none:=λg hg x hx=>by
  obtain⟨a,b⟩:=(W.inn g hg).1.ky x hx;exact⟨sm _ _ (kf _ _ a),b⟩
 by_cases hlt:i<gs.length
 . have hx:gs[i]? = some gs[i]:=jd hlt
   have hgm:gs[i]∈gs:=q5 hlt;generalize gs[i]=g at hx hgm;have ho:(ZL gs)[i]? = some (kO g.1,.ref g.2.1):=by unfold ZL;rw [ji,hx];rfl
   refine .inr ⟨⟨tf,by rw [lo];exact hlt⟩,λx H2 y => ?_⟩;obtain⟨rfl,kk,y1⟩:=y;rw [ho]at y1;have ex:x = .ref g.2.1:=by cases y1;rfl
   subst ex;unfold Zs tYes;dsimp only;rw [je rfl];obtain⟨I,b0⟩:=W.inn g hgm;have at':H2 g.2.1=some (.ext (NK.NDat g.2.1 (g.2.2.map Z1))):=smH _ _ (hff g hgm) I.at_;refine⟨.ref g.2.1,by simp [blk],g.2.1,_,pV g.2.2,rfl,at',λh x=>⟨_,⟨x,?_,by rw [ja];have:=hz g hgm;omega,I.sm,λr hr => ?_⟩,by unfold pV;rw [jZ];rfl⟩,λl hl=>⟨by rw [ja,ll,j7];omega,gs.length-(i+1),by omega,rfl,hlt,ls++[l],by rw [jm];rfl,by rw [jc,ll];rfl,λj l' g' e1 e2 => ?_,λa u e => ?_⟩⟩
   . rw [jZ,show g.2.2.map ((·.1)∘Z1)=(g.2.2.map (·.1)).map kE by rw [jZ];rfl]
     exact Vs I.nd
   . obtain⟨z,hz',rfl⟩:=jE.mp hr
     exact⟨_,(ky g hgm z hz').1,.cons rfl (.cons rfl .nil)⟩
   . by_cases hj:j<ls.length
     . rw [jD hj]at e1
       obtain⟨a,b⟩:=hls j l' g' e1 e2;exact⟨by rw [Zc (ZI a hl)];exact a,b⟩
     . have hj2 : j = i := by
        have:=(jt.mp e1).1;rw [jc,qd]at this;omega
       subst hj2;rw [jG 'a',ll,yQ]at e1;cases e1;rw [hx]at e2;cases e2;exact⟨Zi,Y7 sm0 hl⟩
   . have:=sm a u e
     rw [Zc (ZI this hl)];exact this
 . have ei:i=gs.length:=by omega
   exact .inl ⟨⟨tf,by rw [lo];omega⟩,λp hp=>k ls H' p (by rw [ll];exact ei) hls ky sm0 hp⟩
end Wb
namespace Wb
open PySem PySem.Spec L2 DL
def trL{α:Type}(f:D->Option α):List D->Option (List α)
 | []=>some []
 |x::xs=>match f x,trL f xs with
  |some y,some l=>some (y::l)
  |_,_=>none
theorem Js{α:Type}{f:D->Option α}{x:D}{xs:List D}{l:List α}(h:trL f (x::xs)=some l):∃y r,l=y::r/\f x=some y/\trL f xs=some r:=by
 unfold trL at h
 split at h
 . rename_i y r h1 h2;cases h;exact⟨y,r,rfl,h1,h2⟩
 . cases h
def intD:D->Option Int
 | .int i=>some i
 |_=>none
def wyD:D->Option Wy
 | .tup [.str w,.int p]=>some (w,p)
 |_=>none
def rowD:D->Option (List Wy)
 | .tup xs=>trL wyD xs
 |_=>none
def outE(G:Gs):D := .lst (G.map λg => .lst (g.2.map λp => .tup [.int p.1,.int p.2]))
def wbD:List D->Option D
 | [.tup hs,w]=>match trL intD hs,(Ziy w).bind (trL rowD)with
  |some is,some rows=>if is.length=rows.length/\rows.length<=32/\∀r∈rows,r.length<=30 then some (outE (putAll is rows []))else none
  |_,_=>none
 |_=>none
section
variable{cA:Kn}{av:Addr->Prop}{H:Hp}
theorem ints_of:∀{hs:List D}{vs:List V}{is:List Int},trL intD hs=some is->RepL cA av H hs vs->vs=is.map V.int
 | [],vs,is,h,r=>by cases h;exact r.nil_of
 |x::hs,vs,is,h,r=>by
  obtain⟨y,l,rfl,h1,h2⟩:=Js h;obtain⟨v,q,rfl,r1,r2⟩:=r.uncons;rw [ints_of h2 r2];unfold intD at h1
  split at h1
  . cases h1;unfold Rep at r1;rw [r1];rfl
  . cases h1
theorem Jt:∀{xs:List D}{vs:List V}{r:List Wy},trL wyD xs=some r->RepL cA av H xs vs->vs.length=r.length/\∀(j:Nat)x,r[j]? = some x->∃c,vs[j]? = some (.ref c)/\H c=some (.tup [S x.1,.int x.2])
 | [],vs,is,h,r=>by cases h;rw [r.nil_of];exact⟨rfl,λj x z=>by simp at z⟩
 |x::hs,vs,is,h,r=>by
  obtain⟨y,l,rfl,h1,h2⟩:=Js h;obtain⟨v,q,rfl,r1,r2⟩:=r.uncons;obtain⟨i1,i2⟩:=Jt h2 r2;refine⟨by simp [i1],λj x z => ?_⟩;cases j with
  |succ j=>exact i2 j x z
  |zero=>
   cases z;unfold wyD at h1
   split at h1
   . cases h1
     unfold Rep at r1;obtain⟨c,us,rfl,_,hc,l⟩:=r1;obtain⟨a,_,rfl,e1,l⟩:=l.uncons;obtain⟨b,_,rfl,e2,l⟩:=l.uncons;rw [l.nil_of]at hc;unfold Rep at e1 e2;rw [e1,e2]at hc;exact⟨c,rfl,hc⟩
   . cases h1
theorem Zdb:∀{xs:List D}{vs:List V}{r:List (List Wy)},trL rowD xs=some r->RepL cA av H xs vs->vs.length=r.length/\∀(j:Nat)v x,vs[j]? = some v->r[j]? = some x->Rw H v x
 | [],vs,is,h,r=>by cases h;rw [r.nil_of];exact⟨rfl,λj v x z=>by simp at z⟩
 |x::hs,vs,is,h,r=>by
  obtain⟨y,l,rfl,h1,h2⟩:=Js h;obtain⟨v,q,rfl,r1,r2⟩:=r.uncons;obtain⟨i1,i2⟩:=Zdb h2 r2;refine⟨by simp [i1],λj u x z1 z2 => ?_⟩;cases j with
  |succ j=>exact i2 j u x z1 z2
  |zero=>
   cases z1;cases z2;unfold rowD at h1
   split at h1
   . unfold Rep at r1
     obtain⟨a,us,rfl,_,hc,l⟩:=r1;obtain⟨w1,w2⟩:=Jt h1 l;exact⟨a,us,rfl,hc,w1,w2⟩
   . cases h1
theorem Xz{α:Type}{f:α->D}:∀{l:List α}{vs:List V},vs.length=l.length->(∀(j:Nat)v x,vs[j]? = some v->l[j]? = some x->Rep cA av H (f x) v)->RepL cA av H (l.map f) vs
 | [],[],_,_=>RepL.nil
 |x::l,v::vs,h,k=>RepL.cons (k 0 v x rfl rfl) (Xz (by simpa using h) λj=>k (j+1))
end
abbrev tWb(K:Frag):TS:=ZB (ZG tDNewT (Zs 2)) (ZB (ZmR K) (Xp (ZiI K)))
theorem fn_W {K:Frag} {st:Stmt} {N ps:List Str} {k:Nat} {body:List Stmt} {scope:Scope} {cA:Kn}
 (F:FunX K x qual st f fd) (S:FnScope N ps (defScope st)) (hS:defScope st=scope) (hB:defBody st=body) (hnp:ps.length=2) (hN:8<=N.length)
 (hbody:∀(cdv:Value)(A:Around)(outer:List PySem.Env)(s:Shared)(H:Hp)(E:XK),Room k (A.deeper (PyProof.Rows.envOfC qual scope s.heap.objs.size f cdv))->PSs (Yd CX0 P w K mg base N qual scope f cdv A outer s H E).nox body (tWb K)) (hK:cA.K=K:=by rfl) :
 FnOk P w K mg base CX0 (k+1) f fd ps (spD cA 2 wbD):=by
 subst hS hB hK;refine F.ok S (λvs H Q E h => ?_) λcdv A ou s H vs Q E hr h => ?_
 . obtain⟨av,ds,d,_,r,hl,_⟩:=h
   rw [<-r.length,hl,hnp]
 . obtain⟨av,ds,d,ha,r,hl,hm,q⟩:=h
   refine⟨_,hbody cdv A ou s H E hr,?_⟩;unfold wbD at hm
   split at hm
   case h_2=>cases hm
   rename_i hs w
   split at hm
   case h_2=>cases hm
   rename_i is rows e1 e2;obtain⟨ws,e0,e2⟩:=uz.mp e2
   by_cases hz:is.length=rows.length/\rows.length<=32/\∀r∈rows,r.length<=30
   case neg=>rw [jg hz]at hm;cases hm
   rw [je hz]at hm;cases hm;obtain⟨z1,z2,z3⟩:=hz;obtain⟨v0,r0,rfl,r1,r⟩:=r.uncons;obtain⟨v1,r0,rfl,r2,r⟩:=r.uncons;cases r.nil_of;unfold Rep at r1;obtain⟨ah,vh,rfl,_,th,lh⟩:=r1;obtain⟨qk,aw,wv,rfl,tw,lw⟩:=Zfm e0 r2;rw [ints_of e1 lh]at th;obtain⟨w1,w2⟩:=Zdb e2 lw;have s0:(L2.start N [.ref ah,.ref aw])[0]? = some (some (.ref ah)):=rfl;have s1:(L2.start N [.ref ah,.ref aw])[1]? = some (some (.ref aw)):=rfl
   have sl:8<=(L2.start N [.ref ah,.ref aw]).length:=by
    unfold L2.start;rw [jc,jH];show 8<=2+(N.length-2)
    omega
   generalize L2.start N [.ref ah,.ref aw]=σ at s0 s1 sl;intro p hp;have sm:Same H (upd H p (.dT [])):=λa o e=>by rw [Zc (ZI e hp)];exact e
   have W:Wg H (upd H p (.dT [])) p []:=⟨Zi,hp,(λ_ z=>nomatch z),qt,sm⟩
   refine outer (m:=30) (rows:=rows) (hs:=is) W (by rw [jU];exact sl) (by rw [jl 'b'];exact s0) (by rw [jl 'b'];exact s1) (jB 'a') (sm _ _ th) (λH' s=>Zfu tw s) w1 z1 (λi v r x1 x2=>(w2 i v r x1 x2).keep λa vs e=>sm _ _ e) z3 'a' λσ' H' gs W' eg kp ag => ?_
   have bd:Bd (0+rows.length*30) (strip gs):=by rw [eg];exact Bd.all (m:=30) z3 ⟨jk _,λ_ z=>nomatch z⟩
   refine Zeo (K:=cA.K) W' (by rw [ag.2 2 'b'];exact jB 'a') (by have:=bd.1;rw [strip_len]at this;omega) (λg hg=>by have:=strip_in bd g hg;omega) λls H2 l ll h1 h2 s2 hl => ?_
   have nav:∀a,H a=none->¬av a:=λa e z=>ha a z e
   have k2:∀a o,H2 a=some o->upd H2 l (.lst (ls.map V.ref)) a=some o:=λa o e=>by rw [Zc (ZI e hl)];exact e
   refine q _ _ (λa o e=>k2 a o (s2 a o e)) ?_;unfold outE Rep;refine⟨l,_,rfl,λz=>absurd z (nav l (Y7 s2 hl)),SqL.of Zi,?_⟩;rw [<-eg];unfold strip;rw [jZ];refine Xz (by rw [ja,ll]) λj v g y1 y2 => ?_
   rw [ji]at y1;cases y3:ls[j]? with
   |none=>rw [y3]at y1;cases y1
   |some b=>
    rw [y3]at y1;cases y1;obtain⟨g1,g2⟩:=h1 j b g y3 y2;show Rep cA av _ (.lst _) _;unfold Rep;refine⟨b,_,rfl,λz=>absurd z (nav b g2),SqL.of (k2 _ _ g1),?_⟩;unfold pV;rw [jZ];refine Xz (by rw [ja]) λi u x y4 y5 => ?_
    rw [ji,y5]at y4;cases y4;obtain⟨x1,x2⟩:=h2 g (jI y2) x (jI y5);show Rep cA av _ (.tup _) _;unfold Rep;exact⟨x.2,_,rfl,nav _ x2,k2 _ _ x1,.cons rfl (.cons rfl .nil)⟩
end Wb
namespace Pb
open PySem PySem.Spec L2 DL Wb
abbrev Bg:=List Nat×Addr×List Int
abbrev Bs:=List (List Nat×List Int)
def kB(w:List Nat):Key := .inr (tx w)
theorem kB_inj{a b:List Nat}(h:kB a=kB b):a=b:=tx_inj.mp (Sum.inr.inj h)
def Yn(gs:List Bg):List (Key×V):=gs.map λg=>(kB g.1,.ref g.2.1)
def strip(gs:List Bg):Bs:=gs.map λg=>(g.1,g.2.2)
def putB(k:List Nat)(p:Int):Bs->Bs
 | []=>[(k,[p])]
 |g::gs=>if g.1=k then(g.1,g.2++[p])::gs else g::putB k p gs
def putBs:List Wy->Bs->Bs
 | [],G=>G
 |x::r,G=>putBs r (putB x.1 x.2 G)
theorem ZaG(x:Wy):∀(r:List Wy)(G:Bs),putBs (r++[x]) G=putB x.1 x.2 (putBs r G)
 | [],G=>rfl
 |y::r,G=>ZaG x r _
theorem Ju{k:List Nat}{p:Int}{ps:List Int}{post:Bs}:∀{pre:Bs},(∀g∈pre,g.1≠k)->putB k p (pre++(k,ps)::post)=pre++(k,ps++[p])::post
 | [],_=>by rw [ue,putB,je rfl];rfl
 |g::pre,h=>by
  rw [qD,putB,jg (h g jj),Ju λx hx=>h x (jq _ hx)];rfl
theorem Zdc{k:List Nat}{p:Int}:∀{gs:Bs},(∀g∈gs,g.1≠k)->putB k p gs=gs++[(k,[p])]
 | [],_=>rfl
 |g::gs,h=>by
  rw [putB,jg (h g jj),Zdc λx hx=>h x (jq _ hx)];rfl
def Bd(n:Nat)(G:Bs):Prop:=G.length<=n/\∀g∈G,g.2.length<=n
theorem bd_put{n:Nat}{p:Int}:∀{G:Bs},(∀g∈G,g.2.length<=n)->(putB k p G).length<=G.length+1/\∀g∈putB k p G,g.2.length<=n+1
 | [],_=>⟨jk _,λg hg=>by rw [ju.mp hg];exact Nat.le_add_left _ _⟩
 |g::G,h2=>by
  rw [putB]
  split
  . refine⟨by simp,λx hx => ?_⟩
    rcases jA.mp hx with rfl|hx
    . have:=h2 g jj
      rw [jc];exact uA this
    . have:=h2 x (jq _ hx);omega
  . obtain⟨a,b⟩:=bd_put (n:=n) (k:=k) (p:=p) (G:=G) λx hx=>h2 x (jq _ hx)
    refine⟨uA a,λx hx => ?_⟩;rcases jA.mp hx with rfl|hx
    . have:=h2 x jj;omega
    . exact b x hx
theorem Bd.puts:∀{r:List Wy}{n:Nat}{G:Bs},Bd n G->Bd (n+r.length) (putBs r G)
 | [],n,G,b=>b
 |x::r,n,G,b=>by
  rw [putBs,jx,show n+(r.length+1)=n+1+r.length by omega];obtain⟨h1,h2⟩:=bd_put (k:=x.1) (p:=x.2) b.2;exact Bd.puts ⟨jL h1 (uA b.1),h2⟩
structure Pg(H0 H:Hp)(f:Addr)(gs:List Bg):Prop where
 top:H f=some (.dK (Yn gs))
 f0:H0 f=none
 inn:∀g∈gs,H g.2.1=some (.lst (g.2.2.map V.int))/\H0 g.2.1=none
 ad:(gs.map (·.2.1)).Nodup
 sm:Same H0 H
theorem Pg.fresh{H0 H:Hp}{f x:Addr}{gs:List Bg}{u:HO}(W:Pg H0 H f gs)(h:H x=none):Pg H0 (upd H x u) f gs:=by
 refine⟨by rw [Zc (ZI W.top h)];exact W.top,W.f0,λg hg=>⟨by rw [Zc (ZI (W.inn g hg).1 h)];exact(W.inn g hg).1,(W.inn g hg).2⟩,W.ad,λa o e => ?_⟩;have:=W.sm a o e;rw [Zc (ZI this h)];exact this
theorem val_split{gs:List Bg}{k:List Nat}{v:V}(h:Zm (Yn gs) (kB k)=some v):∃pre g post,gs=pre++g::post/\g.1=k/\v = .ref g.2.1/\∀x∈pre,x.1≠k:=by
 induction gs with
 |nil=>cases h
 |cons g gs ih=>
  by_cases e:kB g.1=kB k
  . have:Zm (Yn (g::gs)) (kB k)=some (.ref g.2.1):=Ye e
    rw [this]at h;cases h;exact⟨[],g,gs,rfl,kB_inj e,rfl,λ_ z=>nomatch z⟩
  . have:Zm (Yn (g::gs)) (kB k)=Zm (Yn gs) (kB k):=Yg e
    rw [this]at h;obtain⟨pre,g',post,h1,h2,h3,h4⟩:=ih h;refine⟨g::pre,g',post,by rw [h1];rfl,h2,h3,λx hx => ?_⟩;rcases jA.mp hx with rfl|hx
    . exact λz=>e (by rw [z])
    . exact h4 x hx
theorem val_no{gs:List Bg}{k:List Nat}(h:Zm (Yn gs) (kB k)=none):∀g∈gs,g.1≠k:=by
 induction gs with
 |nil=>exact λ_ z=>nomatch z
 |cons g gs ih=>
  by_cases e:kB g.1=kB k
  . have:Zm (Yn (g::gs)) (kB k)=some (.ref g.2.1):=Ye e
    rw [this]at h;cases h
  . have:Zm (Yn (g::gs)) (kB k)=Zm (Yn gs) (kB k):=Yg e
    rw [this]at h;intro g' hg;rcases jA.mp hg with rfl|hg
    . exact λz=>e (by rw [z])
    . exact ih h g' hg
theorem Zgk{pre post:List Bg}{g:Bg}{p:Int}(W:Pg H0 H f (pre++g::post))(hk:∀x∈pre,x.1≠g.1):Pg H0 (upd H g.2.1 (.lst (g.2.2.map V.int++[.int p]))) f (pre++(g.1,g.2.1,g.2.2++[p])::post)/\strip (pre++(g.1,g.2.1,g.2.2++[p])::post)=putB g.1 p (strip (pre++g::post)):=by
 have hg:g∈pre++g::post:=jw _ jj;obtain⟨h1,h2⟩:=W.inn g hg;have nd:=W.ad;rw [jm,jp,qF,j8]at nd;obtain⟨_,⟨n1,_⟩,n2⟩:=nd;refine⟨⟨?_,W.f0,λx hx => ?_,?_,λa o z => ?_⟩,?_⟩
 . rw [Zc λz=>by have:=W.top;rw [z,h1]at this;cases this]
   rw [W.top];unfold Yn;rw [jm,jm];rfl
 . rcases jK.mp hx with hx|hx
   . rw [Zc (n2 _ (qU hx) _ jj)]
     exact W.inn x (j2 _ hx)
   . rcases jA.mp hx with rfl|hx
     . exact⟨by rw [Zi,jm];rfl,h2⟩
     . rw [Zc (show x.2.1≠g.2.1 from λz=>n1 (z▸qU hx))]
       exact W.inn x (jw _ (jq _ hx))
 . have:=W.ad
   rw [jm,jp]at this ⊢;exact this
 . rw [Zc λy=>by rw [y,h2]at z;cases z]
   exact W.sm a o z
 . unfold strip
   rw [jm,jm,jp,jp,Ju];intro y hy;obtain⟨x,hx,rfl⟩:=jE.mp hy;exact hk x hx
theorem Zj7{H0 H:Hp}{f b:Addr}{gs:List Bg}{w:List Nat}(W:Pg H0 H f gs)(hb:H b=none)(hv:Zm (Yn gs) (kB w)=none):Pg H0 (upd (upd H b 'p') f (.dK (Zv (Yn gs) (kB w) (.ref b)))) f (gs++[(w,b,[])]):=by
 have hfb:f≠b:=ZI W.top hb;have W1:=W.fresh (u:=.lst []) hb;refine⟨?_,W.f0,λg hg => ?_,?_,λa o z => ?_⟩
 . rw [Zi]
   unfold Zv;rw [Xs,hv];unfold Yn;rw [jm];rfl
 . rcases jK.mp hg with hg|hg
   . rw [Zc λz=>by have:=(W1.inn g hg).1;rw [z,W1.top]at this;cases this]
     exact W1.inn g hg
   . rw [ju.mp hg]
     exact⟨by rw [Zc (jO hfb)];exact Zi,Y7 W.sm hb⟩
 . rw [jm,qF]
   refine⟨W.ad,by simp,λa ha c hc => ?_⟩;obtain⟨g,hg,rfl⟩:=jE.mp ha;have:c=b:=by simpa using hc
   rw [this];exact ZI (W.inn g hg).1 hb
 . rw [Zc λy=>by rw [y,W.f0]at z;cases z]
   exact W1.sm a o z
abbrev tBd(K:Frag):TS:=XA (tBM K "list" rAppend (Zgj (Zl 1) (Zl 2) (Xr tNil)) (Zy (Zl 3) tNil))
theorem body {K:Frag} {gs:List Bg} {σ:St} {p:Int} {De:Ends} (W:Pg H0 H f gs) (h1:σ[1]? = some (some (.ref f))) (h2:σ[2]? = some (some (S w))) (h3:σ[3]? = some (some (.int p)))
 (hn:gs.length<=1000) (hz:∀g∈gs,g.2.2.length<=1000) (k:∀H' gs',Pg H0 H' f gs'->strip gs'=putB w p (strip gs)->Keep H H'->De.nx σ H'):tBd K De σ H:=by
 refine⟨.ref f,h1,f,rfl,.inl ⟨_,.inl W.top⟩,S w,h2,jR _,λb hb => ?_⟩;have W1:=W.fresh (u:=.lst []) hb;have k1:Keep H (upd H b 'p'):=Yy hb;refine⟨Yn gs,kB w,W1.top,rfl,by unfold Yn;rw [ja,j7];omega,λv hv => ?_,λhv => ?_⟩
 . obtain⟨pre,g,post,rfl,rfl,rfl,npre⟩:=val_split hv
   have hg:g∈pre++g::post:=jw _ jj;have at_:=(W1.inn g hg).1;obtain⟨W2,e⟩:=Zgk (p:=p) W1 npre;refine⟨.inl ⟨rfl,_,.of at_⟩,.int p,h3,g.2.1,_,.int p,rfl,rfl,at_,by rw [ja,j7];have:=hz g hg;omega,k _ _ W2 e (k1.trans λa vs z => ?_)⟩;rw [Zc λy=>by rw [y,at_]at z;cases z];exact z
 . have W2:=Zj7 W hb hv
   have at_:=(W2.inn (w,b,[]) (jw _ jj)).1;obtain⟨W3,e⟩:=Zgk (pre:=gs) (g:=(w,b,[])) (post:=[]) (p:=p) W2 (val_no hv);refine⟨.inl ⟨rfl,_,.of at_⟩,.int p,h3,b,_,.int p,rfl,rfl,at_,by rw [j7];show 0<_;omega,k _ _ W3 (e.trans ?_) λa vs z => ?_⟩
   . have nk : ∀ x ∈ strip gs, x.1 ≠ w := fun x hx => by
      obtain⟨g,hg,rfl⟩:=jE.mp hx;exact val_no hv g hg
     rw [Zdc nk,show strip (gs++[(w,b,[])])=strip gs++[(w,[])] by unfold strip;rw [jm];rfl];exact Ju (post:=[]) nk
   . show upd (upd _ f _) b _ a=_
     rw [Zc (ZI z hb),Zc λy=>by rw [y,W.top]at z;cases z];exact k1 a vs z
def outP(G:Bs):D := .dct (G.map λg=>kB g.1) (G.map λg => .lst (g.2.map .int))
def pbD:List D->Option D
 | [.tup ws]=>match trL wyD ws with
  |some r=>if r.length<=900 then some (outP (putBs r []))else none
  |_=>none
 |_=>none
abbrev tPb(K:Frag):TS:=ZB (ZG tDNewK (Zs 1)) (ZB (Yt (QG K (Zl 0)) (Xq K 2 (YE (Zs 2) (YE (Zs 3) gNil))) (tBd K)) (Xp (Zl 1)))
theorem strip_len(gs:List Bg):(strip gs).length=gs.length:=by unfold strip;rw [ja]
theorem strip_in{gs:List Bg}{n:Nat}(h:Bd n (strip gs)):∀g∈gs,g.2.2.length<=n:=λg hg=>h.2 _ (qU (f:=λg:Bg=>(g.1,g.2.2)) hg)
theorem fn_P {K:Frag} {st:Stmt} {N ps:List Str} {k:Nat} {body:List Stmt} {scope:Scope}
 (F:FunX K x qual st f fd) (S:FnScope N ps (defScope st)) (hS:defScope st=scope) (hB:defBody st=body) (hnp:ps.length=1) (hN:4<=N.length)
 (hbody:∀(cdv:Value)(A:Around)(outer:List PySem.Env)(s:Shared)(H:Hp)(E:XK),Room k (A.deeper (PyProof.Rows.envOfC qual scope s.heap.objs.size f cdv))->PSs (Yd CX0 P w K mg base N qual scope f cdv A outer s H E).nox body (tPb K)) :
 FnOk P w K mg base CX0 (k+1) f fd ps (spD cA 1 pbD):=by
 subst hS hB;refine F.ok S (λvs H Q E h => ?_) λcdv A ou s H vs Q E hr h => ?_
 . obtain⟨av,ds,d,_,r,hl,_⟩:=h
   rw [<-r.length,hl,hnp]
 . obtain⟨av,ds,d,ha,r,hl,hm,q⟩:=h
   refine⟨_,hbody cdv A ou s H E hr,?_⟩;unfold pbD at hm
   split at hm
   case h_2=>cases hm
   rename_i ws
   split at hm
   case h_2=>cases hm
   rename_i row e1
   by_cases hz:row.length<=900
   case neg=>rw [jg hz]at hm;cases hm
   rw [je hz]at hm;cases hm;obtain⟨v0,r0,rfl,r1,r⟩:=r.uncons;cases r.nil_of;unfold Rep at r1;obtain⟨aw,wv,rfl,_,tw,lw⟩:=r1;obtain⟨w1,w2⟩:=Jt e1 lw;have s0:(L2.start N [.ref aw])[0]? = some (some (.ref aw)):=rfl
   have sl:4<=(L2.start N [.ref aw]).length:=by
    unfold L2.start;rw [jc,jH];show 4<=1+(N.length-1)
    omega
   generalize L2.start N [.ref aw]=σ at s0 sl;intro p hp;have sm:Same H (upd H p (.dK [])):=λa o e=>by rw [Zc (ZI e hp)];exact e
   have W:Pg H (upd H p (.dK [])) p []:=⟨Zi,hp,(λ_ z=>nomatch z),qt,sm⟩
   refine⟨.ref aw,by rw [jl 'b'];exact s0,aw,rfl,⟨_,.of (sm _ _ tw)⟩,λi m σ' H'=>m=row.length-i/\i<=row.length/\∃gs,Pg H H' p gs/\strip gs=putBs (row.take i) []/\Agr 2 (σ.set 1 (some (.ref p))) σ',⟨row.length,by simp,jR _,[],W,rfl,Agr.refl _ _⟩,?_⟩
   rintro i m σ' H' ⟨rfl,hi,gs,W',e',ag⟩
   have tw':H' aw=some (.tup wv):=W'.sm _ _ tw
   have bd:Bd (0+i) (strip gs):=by
    have:=Bd.puts (r:=row.take i) (n:=0) (G:=[]) ⟨jk _,λ_ z=>nomatch z⟩;rw [jY,uc hi]at this;rw [e'];exact this
   have hb:=bd.1;rw [strip_len]at hb
   by_cases hlt:i<row.length
   . have hx:row[i]? = some row[i]:=jd hlt
     obtain⟨c,c1,c2⟩:=w2 i _ hx;have htk:row.take (i+1)=row.take i++[row[i]]:=by rw [yS,hx];rfl
     generalize row[i]=x at hx c2 htk;refine .inr ⟨⟨wv,_,.of tw',c1⟩,λσ2 H2=>∃gs2,Pg H H2 p gs2/\strip gs2=putBs (row.take (i+1)) []/\Agr 2 (σ.set 1 (some (.ref p))) σ2,λσ2 H2 ⟨gs2,w2,e2,a2⟩=>⟨row.length-(i+1),by omega,rfl,hlt,gs2,w2,e2,a2⟩,λv2 H2 y => ?_⟩;obtain⟨rfl,y1⟩:=y
     have ex:v2 = .ref c:=by
      have:=y1 wv (.of tw');rw [c1]at this;exact(jo this).symm
     subst ex;have l2:4<=σ'.length:=by rw [ag.1,jU];exact sl
     refine⟨c,_,rfl,.of (W'.sm _ _ c2),rfl,_,_,rfl,_,_,rfl,rfl,?_⟩;refine Pb.body W' (w:=x.1) (p:=x.2) ?_ ?_ ?_ 'a' (λg hg=>by have:=strip_in bd g hg;omega) λH3 gs3 w3 e3 k3 => ?_
     . rw [jl 'b',jl 'b',ag.2 1 'b'];exact jB 'a'
     . rw [jl 'b',jB 'a']
     . rw [jB (by rw [jU];omega)]
     . exact⟨gs3,w3,by rw [e3,e',htk,ZaG],(ag.set 'b').set 'b'⟩
   . have ei:i=row.length:=by omega
     subst ei;rw [qo]at e';refine .inl ⟨⟨wv,.of tw',by omega⟩,.ref p,by rw [ag.2 1 'b'];exact jB 'a',?_⟩;have nav:∀a,H a=none->¬av a:=λa e z=>ha a z e
     refine q _ _ W'.sm ?_;unfold outP Rep;refine⟨p,gs.map λg => .ref g.2.1,rfl,nav p hp,?_,by rw [ja,ja],?_⟩
     . rw [W'.top,<-e']
       unfold Yn strip;rw [jZ,List.zip_map'];rfl
     . rw [<-e']
       unfold strip;rw [jZ];refine Xz (by rw [ja]) λj v g y1 y2 => ?_
       rw [ji,y2]at y1;cases y1;obtain⟨g1,g2⟩:=W'.inn g (jI y2);show Rep cA av _ (.lst _) _;unfold Rep;refine⟨g.2.1,_,rfl,λz=>absurd z (nav _ g2),.of g1,Xz (by rw [ja]) λi u x y4 y5 => ?_⟩;rw [ji,y5]at y4;cases y4;rfl
end Pb
namespace Fw
open PySem PySem.Spec L2 DL
open Wb (In UU Pr putP Keep Y7 ZI Yy trL intD Agr Z1 kE Vs Xz)
open Pb (Bs kB)
def mm(a b:Int):Pr:=(if b<a then b else a,if b>a then b else a)
def puts(l:List Pr):List Pr:=l.foldl (λxs p=>putP p xs) []
theorem Zep(l:List Pr)(p:Pr):puts (l++[p])=putP p (puts l):=by unfold puts;rw [List.foldl_append];rfl
theorem Zbd:∀(l xs:List Pr),(l.foldl (λxs p=>putP p xs) xs).length<=xs.length+l.length
 | [],xs=>jk _
 |p::l,xs=>by
  have:=Zbd l (putP p xs)
  have h:(putP p xs).length<=xs.length+1:=by
   unfold putP
   split
   . omega
   . rw [jc];exact jk _
  rw [uf,jx];omega
theorem len_puts(l:List Pr):(puts l).length<=l.length:=by have:=Zbd l [];rw [List.length_nil,jW]at this;exact this
structure Fs(H0 F H:Hp)(b:Addr)(l:List Pr):Prop where
 xs:∃xs,In H0 H b xs/\xs.map (·.1)=puts l
 sm:Same F H
 b0:F b=none
 n0:∀x,F x=none->H0 x=none
theorem Fs.fresh{H0 F H:Hp}{b x:Addr}{l:List Pr}{u:HO}(s:Fs H0 F H b l)(h:H x=none):Fs H0 F (upd H x u) b l:=by
 obtain⟨xs,I,e⟩:=s.xs;exact⟨⟨xs,I.mono (Zc (ZI I.at_ h)) (Yy h),e⟩,λa o z=>by rw [Zc (ZI (s.sm a o z) h)];exact s.sm a o z,s.b0,s.n0⟩
abbrev Znb:List V->Hp->VK->Prop:=λxs H Q=>∃i j,xs=[.int i,.int j]/\Q (.int (if j<i then j else i)) H
abbrev Znc:List V->Hp->VK->Prop:=λxs H Q=>∃i j,xs=[.int i,.int j]/\Q (.int (if j>i then j else i)) H
abbrev UV:TS:=NK.sPutN (Zl 2) (Vz (Zy (tCB Znb (Zy (Zl 5) (Zy (Zl 6) tNil))) (Zy (tCB Znc (Zy (Zl 5) (Zy (Zl 6) tNil))) tNil))) (tC (.bl true))
section
variable{K:Frag}{H0 F H:Hp}{b:Addr}{l:List Pr}{σ:St}{De:Ends}
theorem Znd{a c:Int}(s:Fs H0 F H b l)(h2:σ[2]? = some (some (.ref b)))(h5:σ[5]? = some (some (.int a)))(h6:σ[6]? = some (some (.int c)))(hl:l.length<=20000)(k:∀H',Fs H0 F H' b (l++[mm a c])->De.nx σ H'):UV De σ H:=by
 refine⟨.ref b,h2,.int a,h5,.int c,h6,a,c,rfl,.int a,h5,.int c,h6,a,c,rfl,(show 2<=sizeLine by decide),λq hq => ?_⟩;obtain⟨xs,I,e⟩:=s.xs
 have hx:xs.length<=20000:=by
  have:=len_puts l;rw [<-e,ja]at this;omega
 obtain⟨xs',H',n,I',e',same⟩:=UU (p:=mm a c) (H:=upd H q (.tup [.int (mm a c).1,.int (mm a c).2])) (I.mono (Zc (ZI I.at_ hq)) (Yy hq)) Zi (s.n0 q (Y7 s.sm hq)) 'a';refine⟨b,H',rfl,n,k H' ⟨⟨xs',I',by rw [e',e,Zep]⟩,λx o z => ?_,s.b0,s.n0⟩⟩;have xb:x≠b:=λy=>by rw [y,s.b0]at z;cases z
 rw [same x xb,Zc (ZI (s.sm x o z) hq)];exact s.sm x o z
theorem inn {a:Int} {os:List Int} (s:Fs H0 F H b l) (hn:7<=σ.length) (h2:σ[2]? = some (some (.ref b))) (h5:σ[5]? = some (some (.int a))) (sq:∀H',Same F H'->SqL K H' lo (os.map V.int)) (hl:l.length+os.length<=20000)
 (k:∀σ' H',Fs H0 F H' b (l++os.map (mm a))->Agr 6 σ σ'->De.nx σ' H'):Yt (λ_ H R=>R (Itl K lo) H) (Zs 6) UV De σ H:=by
 refine⟨λi m σ' H'=>m=os.length-i/\i<=os.length/\Fs H0 F H' b (l++(os.take i).map (mm a))/\Agr 6 σ σ',⟨os.length,by simp,jR _,by simpa using s,Wb.Agr.refl 6 σ⟩,?_⟩
 rintro i m σ' H' ⟨rfl,hi,s',ag⟩
 have q':=sq H' s'.sm
 by_cases hlt:i<os.length
 . have hx:os[i]? = some os[i]:=jd hlt
   have htk:os.take (i+1)=os.take i++[os[i]]:=by rw [yS,hx];rfl
   generalize os[i]=x at hx htk;have hx':(os.map V.int)[i]? = some (.int x):=by rw [ji,hx];rfl
   refine .inr ⟨⟨_,_,q',hx'⟩,λσ2 H2=>Fs H0 F H2 b (l++(os.take (i+1)).map (mm a))/\Agr 6 σ σ2,λσ2 H2 ⟨s2,a2⟩=>⟨os.length-(i+1),by omega,rfl,hlt,s2,a2⟩,λv2 H2 y => ?_⟩;obtain⟨rfl,y1⟩:=y
   have ex:v2 = .int x:=by
    have:=y1 _ q';rw [hx']at this;exact(jo this).symm
   subst ex;refine Znd s' (a:=a) (c:=x) ?_ ?_ ?_ ?_ λH3 s3=>⟨?_,ag.set 'b'⟩
   . rw [jl 'b',ag.2 2 'b'];exact h2
   . rw [jl 'b',ag.2 5 'b'];exact h5
   . rw [jB (by rw [ag.1];omega)]
   . rw [jc,ja,jY];omega
   . rw [htk,jm,<-qr];exact s3
 . have ei:i=os.length:=by omega
   subst ei;rw [qo]at s';exact .inl ⟨⟨_,q',by rw [ja];omega⟩,k σ' H' s' ag⟩
end
def Dr(K:Frag)(H:Hp):List (Key×V)->Bs->Prop
 | [],[]=>True
 |p::r,g::G=>p.1=kB g.1/\(∃l,p.2 = .ref l/\SqL K H l (g.2.map V.int))/\Dr K H r G
 |_,_=>False
def lookB(w:List Nat):Bs->List Int
 | []=>[]
 |g::G=>if g.1=w then g.2 else lookB w G
theorem Dr.look{K:Frag}{H:Hp}{w:List Nat}:∀{r:List (Key×V)}{G:Bs},Dr K H r G->(Zm r (kB w)=none/\lookB w G=[])\/∃l,Zm r (kB w)=some (.ref l)/\SqL K H l ((lookB w G).map V.int)
 | [],[],_ => .inl ⟨rfl,rfl⟩
 |p::r,[],h=>h.elim
 | [],g::G,h=>h.elim
 |p::r,g::G,⟨h1,⟨l,h2,h3⟩,h4⟩=>by
  by_cases e:g.1=w
  . refine .inr ⟨l,?_,?_⟩
    . rw [Ye (by rw [h1,e]),h2]
    . rw [lookB,je e];exact h3
  . rw [Yg (λz=>e (Pb.kB_inj (h1.symm.trans z))),lookB,jg e]
    exact h4.look
theorem Dr.at{K:Frag}{H:Hp}:∀{r:List (Key×V)}{G:Bs}{i:Nat}{g:List Nat×List Int},Dr K H r G->G[i]? = some g->∃l,r[i]? = some (kB g.1,.ref l)/\SqL K H l (g.2.map V.int)
 | [],[],i,g,_,e=>by simp at e
 |p::r,[],_,_,h,_=>h.elim
 | [],_::G,_,_,h,_=>h.elim
 |p::r,g::G,0,_,⟨h1,⟨l,h2,h3⟩,h4⟩,e=>by cases e;exact⟨l,by show some p=_;rw [<-h1,<-h2],h3⟩
 |p::r,g::G,i+1,_,⟨_,_,h4⟩,e=>h4.at e
theorem Dr.len{K:Frag}{H:Hp}:∀{r:List (Key×V)}{G:Bs},Dr K H r G->r.length=G.length
 | [],[],_=>rfl
 |p::r,[],h=>h.elim
 | [],g::G,h=>h.elim
 |p::r,g::G,⟨_,_,h⟩=>congrArg Nat.succ h.len
def oL(G2:Bs)(w:List Nat)(a:Int):List Pr:=(lookB w G2).map (mm a)
def oM(G2:Bs)(g:List Nat×List Int):List Pr:=g.2.flatMap (oL G2 g.1)
def ops(G1 G2:Bs):List Pr:=G1.flatMap (oM G2)
theorem Zbe{α β:Type}{f:α->List β}{l:List α}{i:Nat}{x:α}(h:l[i]? = some x):(l.take (i+1)).flatMap f=(l.take i).flatMap f++f x/\((l.take i).flatMap f).length+(f x).length<=(l.flatMap f).length:=by
 have e:l.take (i+1)=l.take i++[x]:=by rw [yS,h];rfl
 have e1:(l.take (i+1)).flatMap f=(l.take i).flatMap f++f x:=by rw [e,qe];simp
 refine⟨e1,?_⟩;have:l.flatMap f=(l.take (i+1)).flatMap f++(l.drop (i+1)).flatMap f:=by rw [<-qe,uN]
 rw [this,e1,jc,jc];omega
abbrev tGt(K:Frag):TE:=QV (tOp (Xf K) (Zl 1) (tOp (Xf K) (Zl 0) (tC (.int 1)))) (Zl 3) (Xr tNil)
abbrev ZmS(K:Frag):TS:=Yt (Vy K (Zl 4)) (Zs 5) (Yt (Vy K (tGt K)) (Zs 6) UV)
abbrev tFo(K:Frag):TS:=ZB (ZG NK.tDNewN (Zs 2)) (ZB (Zgi λNF=>Yt (Zda NF (tOp (Xf K) (Zl 1) (tOp (Xf K) (Zl 0) (tC (.int 0))))) (Xq K 2 (YE (Zs 3) (YE (Zs 4) gNil))) (ZmS K)) (Xp (tCB rLstN (Zy (Zl 2) tNil))))
structure Kp(K:Frag)(H0 F:Hp)(σ:St)(b d:Addr)(a c:Int)(d2:Addr)(G2:Bs):Prop where
 pr:∃p,σ[0]? = some (some (.ref p))/\∀H',Same F H'->H' p=some (.tup [.int a,.int c])
 bb:∃l bv,σ[1]? = some (some (.ref l))/\(∀H',Same F H'->SqL K H' l bv)/\atI bv a=some (.ref d)/\atI bv c=some (.ref d2)
 nm:σ[2]? = some (some (.ref b))
 two:∃kvs,(∀H',Same F H'->Rd H' d2 (.dK kvs))/\Dr K H0 kvs G2
 sq:∀l xs,SqL K H0 l xs->∀H',Same F H'->SqL K H' l xs
theorem Kp.agr{K:Frag}{H0 F:Hp}{σ σ':St}{b d d2:Addr}{a c:Int}{G2:Bs}{n:Nat}(h:Kp K H0 F σ b d a c d2 G2)(ag:Agr n σ σ')(hn:3<=n):Kp K H0 F σ' b d a c d2 G2:=by
 obtain⟨⟨p,p1,p2⟩,⟨l,bv,b1,b2⟩,m,t,s⟩:=h;exact⟨⟨p,by rw [ag.2 0 'a'];exact p1,p2⟩,⟨l,bv,by rw [ag.2 1 'a'];exact b1,b2⟩,by rw [ag.2 2 'a'];exact m,t,s⟩
section
variable{K:Frag}{H0 F H:Hp}{b d d2:Addr}{l:List Pr}{σ:St}{De:Ends}{a c:Int}{G2:Bs}{w:List Nat}
theorem got {e:Int} (kp:Kp K H0 F σ b d a c d2 G2) (s:Fs H0 F H b l) (hn:7<=σ.length) (h3:σ[3]? = some (some (S w))) (h5:σ[5]? = some (some (.int e))) (hl:l.length+(oL G2 w e).length<=20000)
 (k:∀σ' H',Fs H0 F H' b (l++oL G2 w e)->Agr 6 σ σ'->De.nx σ' H'):Yt (Vy K (tGt K)) (Zs 6) UV De σ H:=by
 obtain⟨p,p1,p2⟩:=kp.pr;obtain⟨bl,bv,b1,b2,_,b4⟩:=kp.bb;obtain⟨kvs,t1,t2⟩:=kp.two;refine⟨.ref bl,b1,.ref p,p1,.inr (.inl ⟨p,_,1,.int c,rfl,rfl,SqT.of (p2 H s.sm),rfl,.inl ⟨bl,bv,c,.ref d2,rfl,rfl,b2 H s.sm,b4,d2,rfl,.inl ⟨kvs,t1 H s.sm⟩,S w,h3,jR _,λq hq => ?_⟩⟩)⟩;have s1:=s.fresh (u:=.lst []) hq;refine⟨Zm kvs (kB w),.inl ⟨kvs,kB w,t1 _ s1.sm,rfl,rfl⟩,?_⟩
 rcases t2.look (w:=w)with⟨v1,v2⟩|⟨lo,v1,v2⟩
 . rw [v1]
   have e0:oL G2 w e=[]:=by unfold oL;rw [v2];rfl
   rw [e0]at k;refine⟨q,rfl,⟨[],.of Zi⟩,λi m σ' H'=>m=0/\i=0/\σ'=σ/\H'=upd H q 'p',⟨0,rfl,rfl,rfl,rfl⟩,?_⟩
   rintro i m σ' H' ⟨rfl,rfl,rfl,rfl⟩
   exact .inl ⟨⟨[],.of Zi,jk _⟩,k _ _ (by rw [qj];exact s1) (Wb.Agr.refl 6 _)⟩
 . rw [v1]
   refine⟨lo,rfl,⟨_,kp.sq _ _ v2 _ s1.sm⟩,?_⟩;have hl':l.length+(lookB w G2).length<=20000:=by unfold oL at hl;rw [ja]at hl;exact hl
   exact inn (De:=De) s1 hn kp.nm h5 (λH' z=>kp.sq _ _ v2 H' z) hl' k
theorem mid {g:List Nat×List Int} (kp:Kp K H0 F σ b d a c d2 G2) (s:Fs H0 F H b l) (hn:7<=σ.length) (h3:σ[3]? = some (some (S g.1))) (h4:σ[4]? = some (some (.ref lp))) (sq:SqL K H0 lp (g.2.map V.int)) (hl:l.length+(oM G2 g).length<=20000)
 (k:∀σ' H',Fs H0 F H' b (l++oM G2 g)->Agr 5 σ σ'->De.nx σ' H'):ZmS K De σ H:=by
 refine⟨.ref lp,h4,lp,rfl,⟨_,kp.sq _ _ sq _ s.sm⟩,λi m σ' H'=>m=g.2.length-i/\i<=g.2.length/\Fs H0 F H' b (l++(g.2.take i).flatMap (oL G2 g.1))/\Agr 5 σ σ',⟨g.2.length,by simp,jR _,by simpa using s,Wb.Agr.refl 5 σ⟩,?_⟩
 rintro i m σ' H' ⟨rfl,hi,s',ag⟩
 have q':=kp.sq _ _ sq H' s'.sm
 by_cases hlt:i<g.2.length
 . have hx:g.2[i]? = some g.2[i]:=jd hlt
   generalize g.2[i]=x at hx;obtain⟨f1,f2⟩:=Zbe (f:=oL G2 g.1) hx;have hx':(g.2.map V.int)[i]? = some (.int x):=by rw [ji,hx];rfl
   refine .inr ⟨⟨_,_,q',hx'⟩,λσ2 H2=>Fs H0 F H2 b (l++(g.2.take (i+1)).flatMap (oL G2 g.1))/\Agr 5 σ σ2,λσ2 H2 ⟨s2,a2⟩=>⟨g.2.length-(i+1),by omega,rfl,hlt,s2,a2⟩,λv2 H2 y => ?_⟩;obtain⟨rfl,y1⟩:=y
   have ex:v2 = .int x:=by
    have:=y1 _ q';rw [hx']at this;exact(jo this).symm
   subst ex;have a2:Agr 5 σ (σ'.set 5 (some (.int x))):=ag.set 'b';refine got (kp.agr a2 'b') s' (w:=g.1) (e:=x) (by rw [a2.1];exact hn) (by rw [a2.2 3 'b'];exact h3) (jB (by rw [ag.1];omega)) ?_ λσ3 H3 s3 a3=>⟨?_,⟨a3.1.trans a2.1,λj hj=>(a3.2 j 'a').trans (a2.2 j hj)⟩⟩
   . unfold oM at hl
     rw [jc];omega
   . rw [f1,<-qr];exact s3
 . have ei:i=g.2.length:=by omega
   subst ei;rw [qo]at s';exact .inl ⟨⟨_,q',by rw [ja];omega⟩,k σ' H' s' ag⟩
end
end Fw
namespace DL
open PySem PySem.Spec L2 PyProof.Rows
def tNewNA:TE:=λ_ H Q=>∀p,H p=none->Q (.ref p) (upd H p (.ext (NDA p [] [])))
theorem Zfv:PE X (.Dict [] [] pos) tNewNA:=λpins s σ H Q I h=>by
 have hs:(s.heap.objs.size == sysModules)=false:=yi.mpr (jO (jQ I.big));exact wpAny_Dict_empty ⟨.ref s.heap.objs.size,_,I.laid (a:=s.heap.objs.size) (o:=.ext (NDA s.heap.objs.size [] [])) (t':=s.toks) (λ_ _ q=>jh _ q) (jk _) ⟨⟨[],⟨_,#[],0,jr _ rfl,⟨rfl,rfl,rfl⟩,rfl,rfl⟩,trivial,qt,jR _,hs⟩,⟨_,jr _ rfl⟩,λh1 h2 q k=>ZbO q k⟩,rfl,h _ (I.hok.fresh (jk _))⟩
variable{G:Cn}{ow:List Nat}
theorem Zfw:ZmK G ow tNewNA (eC (.dnn [])):=λH0 av A σ H δ E d e Q k=>λp hp=>by
 cases e;exact k p [] [] H 'q' hp RepL.nil rfl
theorem ZhT{X:Cx}{K:Frag}(hl:PE X l tl)(hK:X.K=K:=by rfl):PI X tg l (Vy K tl):=hK▸ZgN hl
theorem Zj8{X:Cx}{K:Frag}(hl:PE X l tl)(hK:X.K=K:=by rfl):PI X tg l (QG K tl):=hK▸ZfL hl
end DL
namespace Fw
open PySem PySem.Spec L2 DL
open Wb (In UU Pr putP Keep Y7 ZI Yy trL intD Agr Z1 kE Vs Xz)
open Pb (Bs kB)
def trG:List Key->List D->Option Bs
 | [],[]=>some []
 | .inr s::ks,.lst ys::xs=>match trL intD ys,trG ks xs with
  |some is,some G=>some ((s.cps.toList,is)::G)
  |_,_=>none
 |_,_=>none
def dctD:D->Option Bs
 | .dct ks xs=>trG ks xs
 |_=>none
def prsD(l:List Pr):D := .lst (l.map λp => .tup [.int p.1,.int p.2])
def folD:List D->Option D
 | [.tup [.int a,.int c],.lst ds]=>match(atI ds a).bind dctD,(atI ds c).bind dctD with
  |some G1,some G2=>if(ops G1 G2).length<=20000 then some (prsD (puts (ops G1 G2)))else none
  |_,_=>none
 |_=>none
section
variable{cA:Kn}{av:Addr->Prop}{H:Hp}
theorem ZiJ:∀{ks:List Key}{xs:List D}{vs:List V}{G:Bs},trG ks xs=some G->RepL cA av H xs vs->Dr cA.K H (ks.zip vs) G
 | [],[],vs,G,h,r=>by cases h;exact True.intro
 |k::ks,x::xs,vs,G,h,r=>by
  unfold trG at h
  split at h
  . rename_i e;cases e
  . rename_i s ks' ys xs' e1 e2
    cases e1;cases e2
    split at h
    . rename_i is G' h1 h2
      cases h;obtain⟨v,q,rfl,r1,r2⟩:=r.uncons;unfold Rep at r1;obtain⟨l,us,rfl,_,sq,ll⟩:=r1;rw [Wb.ints_of h1 ll]at sq;exact⟨rfl,⟨l,rfl,sq⟩,ZiJ h2 r2⟩
    . cases h
  . cases h
 | [],x::xs,vs,G,h,r=>by cases h
 |k::ks,[],vs,G,h,r=>by cases k<;>cases h
theorem Zgl{v:V}{G:Bs}(h:dctD x=some G)(r:Rep cA av H x v):∃d kvs,v = .ref d/\¬av d/\H d=some (.dK kvs)/\Dr cA.K H kvs G:=by
 unfold dctD at h
 split at h
 . unfold Rep at r
   obtain⟨d,vs,rfl,n,e,_,l⟩:=r;exact⟨d,_,rfl,n,e,ZiJ h l⟩
 . cases h
end
theorem outer {K:Frag} {H0:Hp} {b d d2 p bl:Addr} {σ:St} {De:Ends} {a c:Int} {kv1 kv2:List (Key×V)} {G1 G2:Bs} (hn:7<=σ.length) (h0:σ[0]? = some (some (.ref p))) (h1:σ[1]? = some (some (.ref bl)))
 (tp:H0 p=some (.tup [.int a,.int c])) (sb:SqL K H0 bl bv) (i1:atI bv a=some (.ref d)) (i2:atI bv c=some (.ref d2)) (t1:H0 d=some (.dK kv1)) (t2:H0 d2=some (.dK kv2)) (D1:Dr K H0 kv1 G1) (D2:Dr K H0 kv2 G2) (hz:(ops G1 G2).length<=20000)
 (k:∀l xs H',Same H0 H'->H0 l=none->H' l=some (.lst (Wb.pV xs))->xs.map (·.1)=puts (ops G1 G2)->(∀x∈xs,H' x.2=some (.tup [.int x.1.1,.int x.1.2])/\H0 x.2=none)->De.rt (.ref l) H'):tFo K De σ H0:=by
 intro b hb nd NF;have sm:(b == sysModules)=false:=by obtain⟨_,_,_,_,_,_,z⟩:=nd;exact z
 have ne:∀{x:Addr}{o:HO},H0 x=some o->x≠b:=λe=>ZI e hb
 have up:∀{x:Addr}{o:HO},H0 x=some o->upd H0 b (.ext (NK.NDat b [])) x=some o:=λe=>by rw [Zc (ne e)];exact e
 have sqb:SqL K (upd H0 b (.ext (NK.NDat b []))) bl bv:=by
  rcases sb with sb|sb
  . exact .inl (DL.Rd.ext sb λo e=>up e)
  . exact .inr sb
 refine⟨.ref bl,by rw [jl 'b'];exact h1,.ref p,by rw [jl 'b'];exact h0,.inr (.inl ⟨p,_,0,.int a,rfl,rfl,SqT.of (up tp),rfl,.inl ⟨bl,bv,a,.ref d,rfl,rfl,sqb,i1,d,kv1,rfl,up t1,λo nf => ?_⟩⟩)⟩;have hdb:d≠b:=ne t1;generalize hF:upd H0 d (.frz o (.dK kv1))=F;have Fd:F d=some (.frz o (.dK kv1)):=by rw [<-hF];exact Zi
 have Fo:∀x,x≠d->F x=H0 x:=λx e=>by rw [<-hF];exact Zc e
 have sF:Same F (upd (upd H0 b (.ext (NK.NDat b []))) d (.frz o (.dK kv1))):=λx u e=>by
  by_cases h:x=d
  . subst h;rw [Fd]at e;rw [Zi];exact e
  . rw [Fo x h]at e;rw [Zc h];exact up e
 have s0:Fs H0 F (upd (upd H0 b (.ext (NK.NDat b []))) d (.frz o (.dK kv1))) b []:=by
  refine⟨⟨[],⟨by rw [Zc (jO hdb)];exact Zi,qt,sm,λ_ z=>nomatch z⟩,rfl⟩,sF,by rw [Fo b (jO hdb)];exact hb,λx e => ?_⟩
  by_cases h:x=d
  . subst h;rw [Fd]at e;cases e
  . rw [<-Fo x h];exact e
 have sq:∀l xs,SqL K H0 l xs->∀H',Same F H'->SqL K H' l xs:=λl xs e H' z=>by
  rcases e with e|e
  . have hld : l ≠ d := fun y => by
     rcases e with e|⟨_,e⟩
     . rw [y,t1]at e;cases e
     . rw [y,t1]at e;cases e
    exact .inl (DL.Rd.ext e λu q=>z l u (by rw [Fo l hld];exact q))
  . exact .inr e
 have kp:Kp K H0 F (σ.set 2 (some (.ref b))) b d a c d2 G2:=by
  refine⟨⟨p,by rw [jl 'b'];exact h0,λH' z=>z p _ ?_⟩,⟨bl,bv,by rw [jl 'b'];exact h1,sq _ _ sb,i1,i2⟩,jB 'a',?_,sq⟩
  . rw [Fo p λy=>by rw [y,t1]at tp;cases tp];exact tp
  . by_cases h:d2=d
    . subst h
      rw [t1]at t2;cases t2;exact⟨kv1,λH' z => .inr ⟨o,z _ _ Fd⟩,D2⟩
    . exact⟨kv2,λH' z => .inl (z d2 _ (by rw [Fo d2 h];exact t2)),D2⟩
 have hlen:=D1.len;refine⟨λi m σ' H'=>m=G1.length-i/\i<=G1.length/\Fs H0 F H' b (ops (G1.take i) G2)/\Agr 3 (σ.set 2 (some (.ref b))) σ',⟨G1.length,by simp,jR _,s0,Wb.Agr.refl 3 _⟩,?_⟩
 rintro i m σ' H' ⟨rfl,hi,s',ag⟩
 have fr:=s'.sm d _ Fd
 by_cases hlt:i<G1.length
 . have hx:G1[i]? = some G1[i]:=jd hlt
   generalize G1[i]=g at hx;obtain⟨f1,f2⟩:=Zbe (f:=oM G2) hx;obtain⟨lp,g1,g2⟩:=D1.at hx;refine .inr ⟨⟨fr,by omega⟩,λσ2 H2=>Fs H0 F H2 b (ops (G1.take (i+1)) G2)/\Agr 3 (σ.set 2 (some (.ref b))) σ2,λσ2 H2 ⟨s2,a2⟩=>⟨G1.length-(i+1),by omega,rfl,hlt,s2,a2⟩,λv2 H2 y => ?_⟩;obtain⟨t,kk,x,y1,y2,rfl,rfl⟩:=y;rw [g1]at y1;cases y1;refine⟨t,_,rfl,SqT.of Zi,rfl,_,_,rfl,_,_,rfl,rfl,?_⟩
   have a2:Agr 3 (σ.set 2 (some (.ref b))) ((σ'.set 3 (some (kV (kB g.1)))).set 4 (some (.ref lp))):=(ag.set 'b').set 'b';have ln:σ'.length=σ.length:=by rw [ag.1,jU]
   refine mid (kp.agr a2 'b') (s'.fresh y2) (g:=g) (lp:=lp) (by rw [jU,jU];omega) ?_ ?_ g2 ?_ λσ3 H3 s3 a3=>⟨?_,⟨a3.1.trans a2.1,λj hj=>(a3.2 j 'a').trans (a2.2 j hj)⟩⟩
   . rw [jl 'b',jB 'a'];rfl
   . rw [jB (by rw [jU];omega)]
   . unfold ops at hz ⊢;omega
   . unfold ops at s3 ⊢;rw [f1];exact s3
 . have ei:i=G1.length:=by omega
   subst ei;rw [qo]at s';refine .inl ⟨⟨fr,by omega⟩,d,o,kv1,fr,nf,?_⟩;obtain⟨xs,I,e⟩:=s'.xs;have hdd:∀{x:Addr}{u:HO},x≠d->H' x=some u->upd H' d (.dK kv1) x=some u:=λh z=>by rw [Zc h];exact z
   have td:∀{x:Addr}{vs:List V},H' x=some (.tup vs)->x≠d:=λz y=>by rw [y,fr]at z;cases z
   have sd:Same H0 (upd H' d (.dK kv1)):=λx u z=>by
    by_cases h:x=d
    . subst h;rw [t1]at z;rw [Zi];exact z
    . exact hdd h (s'.sm x u (by rw [Fo x h];exact z))
   have hxl:xs.length<=20000:=by
    have:=len_puts (ops G1 G2);rw [<-e,ja]at this;omega
   have at':upd H' d (.dK kv1) b=some (.ext (NK.NDat b (xs.map Z1))):=hdd (jO hdb) I.at_;have ky:∀x∈xs,upd H' d (.dK kv1) x.2=some (.tup [.int x.1.1,.int x.1.2])/\H0 x.2=none:=λx hx=>⟨hdd (td (I.ky x hx).1) (I.ky x hx).1,(I.ky x hx).2⟩
   refine⟨.ref b,by rw [ag.2 2 'b'];exact jB 'a',b,_,Wb.pV xs,rfl,at',λh x=>⟨_,⟨x,?_,by rw [ja];omega,sm,λr hr => ?_⟩,by unfold Wb.pV;rw [jZ];rfl⟩,λl hl=>k l xs _ (λx u z => ?_) (Y7 sd hl) Zi e λx hx=>⟨?_,(ky x hx).2⟩⟩
   . rw [jZ,show xs.map ((·.1)∘Z1)=(xs.map (·.1)).map kE by rw [jZ];rfl]
     exact Vs I.nd
   . obtain⟨z,hz',rfl⟩:=jE.mp hr
     exact⟨_,(ky z hz').1,.cons rfl (.cons rfl .nil)⟩
   . rw [Zc (ZI (sd x u z) hl)];exact sd x u z
   . rw [Zc (ZI (ky x hx).1 hl)];exact(ky x hx).1
theorem fn_F {K:Frag} {base:Heap} {k:Nat} {fo:Obj} {params:Arguments} {scope:Scope} {cl:List (Str×Addr)} {dV kV doc pm ct:Value} {N ps fr:List Str} {cA:Kn}
 (hf:base.get? f=some fo) (hd:fo.data = .func (PySem.W.fnX name qual params body scope cl dV kV doc pm an (.ref c) ct)) (S:CloScope N ps fr scope) (C:Caps base cl fr vc) (hnp:ps.length=1) (hN:7<=N.length)
 (hbody:∀(A:Around)(outer:List PySem.Env)(s:Shared)(H:Hp),Room k (A.deeper (PySem.W.envX qual scope s.heap.objs.size f (.ref c) cl))->PSs (cxC P w K mg base N qual scope f (.ref c) cl A outer s H) body (tFo K)) (hK:cA.K=K:=by rfl) :
 FnOk P w K mg base CX0 (k+1) f (PySem.W.fnX name qual params body scope cl dV kV doc pm an (.ref c) ct) ps (spC cA c qual vc 1 folD):=by
 subst hK;refine ZjS hf hd S C (λvs H Q E h => ?_) (λvs H Q E h => ?_) λA ou s H vs Q E hr h => ?_
 . obtain⟨av,ds,cs,d,_,r,hl,_⟩:=h
   rw [<-r.length,hl,hnp]
 . obtain⟨av,ds,cs,d,_,r,hl,_,oc,_⟩:=h
   exact oc
 . obtain⟨av,ds,cs,d,ha,r,hl,rc,_,hm,q⟩:=h
   refine⟨_,hbody A ou s H hr,?_⟩;have rr:=r.append rc;generalize ds++cs=es at rr hm;generalize vs++vc=us at rr;unfold folD at hm
   split at hm
   case h_2=>cases hm
   rename_i a c' ds'
   split at hm
   case h_2=>cases hm
   rename_i G1 G2 e1 e2
   by_cases hz:(ops G1 G2).length<=20000
   case neg=>rw [jg hz]at hm;cases hm
   rw [je hz]at hm;cases hm;obtain⟨v0,r0,rfl,r1,rr⟩:=rr.uncons;obtain⟨v1,r0,rfl,r2,rr⟩:=rr.uncons;cases rr.nil_of;unfold Rep at r1 r2;obtain⟨p,pv,rfl,_,tp,lp⟩:=r1;obtain⟨z1,_,rfl,y1,lp⟩:=lp.uncons;obtain⟨z2,_,rfl,y2,lp⟩:=lp.uncons;cases lp.nil_of;unfold Rep at y1 y2;subst y1 y2;obtain⟨bl,bv,rfl,_,sb,lb⟩:=r2;obtain⟨x1,x2,x3⟩:=uz.mp e1
   obtain⟨x4,x5,x6⟩:=uz.mp e2;obtain⟨u1,i1,q1⟩:=UA lb x2;obtain⟨u2,i2,q2⟩:=UA lb x5;obtain⟨d1,kv1,rfl,_,t1,D1⟩:=Zgl x3 q1;obtain⟨d2,kv2,rfl,_,t2,D2⟩:=Zgl x6 q2;refine outer (b:=0) ?_ rfl rfl tp sb i1 i2 t1 t2 D1 D2 hz λl xs H' s' l0 hl e ky => ?_
   . unfold L2.start
     rw [jc,jH];show 7<=2+(N.length-2)
     omega
   . have nav:∀a,H a=none->¬av a:=λa e z=>ha a z e
     refine q _ _ s' ?_;unfold prsD Rep;refine⟨l,_,rfl,λz=>absurd z (nav l l0),SqL.of hl,?_⟩;rw [<-e];unfold Wb.pV;rw [jZ];refine Xz (by rw [ja]) λi u x y4 y5 => ?_
     rw [ji,y5]at y4;cases y4;obtain⟨x1,x2⟩:=ky x (jI y5);show Rep cA av _ (.tup _) _;unfold Rep;exact⟨x.2,_,rfl,nav _ x2,x1,.cons rfl (.cons rfl .nil)⟩
end Fw
abbrev EN:=DL.Env
namespace K41
open PySem PySem.Spec L2 DL
def UW:List (String×Bool):=[("NoneType",false),("bool",true),("int",false),("str",false),("list",false),("tuple",false)]
def UX:List (String×Bool):=[("NoneType",false),("bool",true),("int",true),("str",false),("list",false),("tuple",false)]
noncomputable def V1:List D->Option D:=Fw.folD
noncomputable def V2:EN->Option Out:=
 (Zd (Ze 3 (eC (.dtt [] [])))
 (Zd (Ze 4 (eCB VW 'n'))
 (Zd (YO (xB (eOp (ZJ λi j=>decide (j<i)) (eCB lenD (Zb (Za 4) eNil)) 'm')) (Zd (Xy 5 4)
 (sIf (xB (eOp (XJ true) (Za 5) (Za 3))) (Zd (XN 3 (Za 5) (YR 1 V1 (Zb (Za 5) eNil) 'r'))
 (Vj 4 (eOp XM (Za 3) (Za 5)))) sNext)))
 (Zt (Za 3)))))
noncomputable def UY:List D->Option D:=Jm 1 6 V2
noncomputable def V3:List D->Option D:=λds=>Lg.longD (UY ds)
noncomputable def UZ:List D->Option D:=Wb.wbD
noncomputable def Jv:EN->Option Out:=
 (Zd (Ze 2 (eC (.dnn [])))
 (Zd (Zq (ZF (Zn 2 UZ [] (Zb (Za 0) (Zb (Za 1) eNil)))) (Zj 3) (Zq (ZF (Za 3)) (ZY 2 (Zz 4 (Zz 5 gsNil))) (Zq (ZF (Za 3)) (Zj 6) (sIf (xB (eOp (ZJ λi j=>decide (i<j)) (Za 4) (eOp ixD (Za 6) 'm'))) (Xl 2 (ZD (Zb (eCB minD (Zb (Za 5) (Zb (eOp ixD (Za 6) 'd') eNil))) (Zb (eCB maxD (Zb (Za 5) (Zb (eOp ixD (Za 6) 'd') eNil))) eNil))) (eC (.bl true))) sNext))))
 (Zt (Y6 (Za 2)))))
noncomputable def U0:List D->Option D:=run 7 Jv
noncomputable def V4:List D->Option D:=Pb.pbD
noncomputable def f_QS:EN->Option Out:=
 (Zd (Ze 2 (ZV (ZF (Za 1)) (Zj 0) (λ_=>some true) (Zn 1 V4 [] 'n') 1 []))
 (UM 3 (Zt (YR 1 V3 (Zb (Zn 2 U0 [] (Zb (Za 0) (Zb (Za 1) eNil))) eNil) 'r'))))
noncomputable def XU:List D->Option D:=run 4 f_QS
noncomputable def ZmT:EN->Option Out:=
 (Zd (sIf (xB (eOp (ZJ λi j=>decide (i<j)) (Za 1) (eCB lenD 'n'))) (Zt (eOp ixD (Za 0) (Za 1))) sNext)
 (Zt 'm'))
noncomputable def ZS:List D->Option D:=run 2 ZmT
noncomputable def Jw:EN->Option Out:=
 (Zd (Ze 3 (ZV (Zr 'r') (Zj 0) (λ_=>some true) (eOp addX (eOp mulX (Za 0) (Za 0)) (Za 0)) 1 []))
 (Zd (Zq (Zr (Zb (Za 1) (Zb (eCB lenD 'n') eNil))) (Zj 4) (Zd (Ze 5 (eOp modW (eOp subD (Za 4) (Za 1)) (Za 2)))
 (YQ 3 (Za 5) (eOp modW (eOp addX (eOp mulX (eOp ixD (Za 3) (Za 5)) (eC (.int 31))) (eOp ixD (Za 0) (Za 4))) (eC (.int 1000000000039))))))
 (Zt (Za 3))))
noncomputable def U1:List D->Option D:=run 6 Jw
noncomputable def Jx:EN->Option Out:=
 (Zd (Ze 2 (eC (.str [97,98,99,100,101,102,103,104,105,106,107,108,109,110,111,112,113,114,115,116,117,118,119,120,121,122,48,49,50,51,52,53,54,55,56,57])))
 (Zt (eBM joinD (eC (.str [])) (Zb (ZV (Zr (Zb (Za 1) eNil)) (Zj 0) (λ_=>some true) (eOp ixD (Za 1) (eOp modW (eOp addX (Za 2) (eOp mulX (eC (.int 5)) (Za 0))) (eCB lenD (Zb (Za 1) eNil)))) 1 [2,0]) eNil))))
noncomputable def Vt:List D->Option D:=run 3 Jx
noncomputable def Jy:EN->Option Out:=
 (Zd (Ze 2 (Zo eNil))
 (Zd (Zq (Zr (Zb (Za 1) eNil)) (Zj 3) (Zd (Ze 4 (Zo eNil))
 (Zd (Zq (Zr (Zb (Za 1) eNil)) (Zj 5) (sIf (xOr (xB (eOp (ZJ λi j=>decide (j<i)) (eOp modW (eOp fdivW (Za 0) (eOp addX (eOp addX (eOp mulX 't' (Za 3)) (Za 5)) 'd')) 't') 'm')) (xB (eOp eqD (Za 5) (eOp modW (eOp addX (Za 3) 'd') (Za 1))))) (ZE 4 (Za 5)) (ZE 4 (eC .non))))
 (ZE 2 (eCB ZM (Zb (Za 4) eNil))))))
 (Zt (eCB ZM 'r'))))
noncomputable def U2:List D->Option D:=run 6 Jy
noncomputable def Jz:EN->Option Out:=
 (Zd (Ze 2 (Zo eNil))
 (Zd (Zq (Zr (Zb (eOp addX (Za 1) 'd') eNil)) (Zj 3) (Zd (Ze 4 (Zo (Zb (eOp addX (Za 3) 'd') (Zb 'm' eNil))))
 (Zd (sIf (xB (eOp eqD (Za 3) (Za 1))) (YQ 4 'm' (eC .non)) sNext)
 (Zd (sIf (xB (eOp (ZJ λi j=>decide (i<j)) (Za 3) (Za 0))) (YQ 4 'd' (eC .non)) sNext)
 (ZE 2 (eCB ZM (Zb (Za 4) eNil)))))))
 (Zt (eCB ZM 'r'))))
noncomputable def U3:List D->Option D:=run 5 Jz
noncomputable def JA:EN->Option Out:=
 (Zd (sIf (xB (eOp eqD (eOp modW (Za 0) 'o') 'm')) (Zd (Ze 2 (eOp addX 'o' (eOp modW (eOp fdivW (Za 0) 'o') 'o')))
 (Zt (ZD (Zb (Zn 2 Vt [] (Zb (Za 1) 'r')) (Zb (Zn 2 U2 [] (Zb (eOp fdivW (Za 0) (eC (.int 4))) 'r')) (Zb 'd' eNil)))))) sNext)
 (Zd (Ze 3 (eOp modW (eOp fdivW (Za 0) 'o') (eC (.int 4))))
 (Zt (ZD (Zb (Zn 2 Vt [] (Zb (Za 1) (Zb 'o' eNil))) (Zb (Zn 2 U3 [] (Zb (eOp modW (eOp fdivW (Za 0) (eC (.int 8))) (eOp addX (Za 3) 'd')) (Zb (Za 3) eNil))) (Zb (Za 3) eNil)))))))
noncomputable def U4:List D->Option D:=run 4 JA
noncomputable def JB:EN->Option Out:=
 (Zd (Ze 4 (Zo (Zb (ZD (Zb (eC (.str [])) 'r')) eNil)))
 (Zd (Zq (Zr (Zb (Za 3) eNil)) (Zj 5) (Zd (Ze 6 (Zo eNil))
 (Zd (Zq (ZF (Za 4)) (ZY 2 (Zz 7 (Zz 8 gsNil))) (Zq (Zr (Zb (eCB lenD 'n') eNil)) (Zj 9) (sIf (xB (Xi (eOp ixD (eOp ixD (Za 1) (Za 8)) (Za 9)))) (ZE 6 (ZD (Zb (eOp addX (Za 7) (eOp ixD (Za 0) (Za 9))) (Zb (eOp ixD (eOp ixD (Za 1) (Za 8)) (Za 9)) eNil)))) sNext)))
 (Ze 4 (Za 6)))))
 (Zt (Za 4))))
noncomputable def U5:List D->Option D:=run 10 JB
noncomputable def JC:EN->Option Out:=
 (Zd (Ze 3 (Zo eNil))
 (Zd (Zq (Zr (Zb (eC (.int 4)) eNil)) (Zj 4) (Zd (Ze 5 (Zo eNil))
 (Zd (Zq (ZF (Za 1)) (Zj 6) (Zd (Ze 7 (Zn 4 U5 [] (Zb (eOp ixD (Za 0) 'm') (Zb (eOp ixD (Za 0) 'd') (Zb (Za 6) (Zb (eOp addX 'd' (eOp modW (eOp addX (Za 2) (Za 4)) (eC (.int 4)))) eNil))))))
 (ZE 5 (ZV (ZF (Za 7)) (Zj 0) (xB (eOp (inD false) (eOp ixD (Za 0) 'd') (Za 1))) (Za 0) 1 [1]))))
 (Zd (Ze 8 (eCB minQD (Zb (ZV (ZF (Za 5)) (Zj 0) (λ_=>some true) (eCB lenD 'n') 1 []) eNil)))
 (Zd (sIf (xB (eOp (ZJ λi j=>decide (j<i)) (Za 8) 'd')) (Zt (Za 5)) sNext)
 (sIf (YB (xB (eOp eqD (Za 8) 'd')) (xB (eOp eqD (Za 3) (Zo eNil)))) (Ze 3 (Za 5)) sNext))))))
 (Zt (Za 3))))
noncomputable def U7:List D->Option D:=run 9 JC
noncomputable def JD:EN->Option Out:=
 (Zd (Ze 5 'd')
 (Zd (Zq (Zr (Zb (Za 3) eNil)) (Zj 6) (Ze 5 (eOp mulX (Za 5) (Za 2))))
 (Zd (Ze 7 (Zo eNil))
 (Zd (Ze 8 (Zo eNil))
 (Zd (Zq (ZF (Za 0)) (Zj 9) (Zq (Zr (Zb (Za 5) eNil)) (Zj 10) (Zd (Ze 11 (Zo eNil))
 (Zd (Zq (Zr 'r') (Zj 12) (Zd (Ze 13 (eOp modW (eOp addX (Za 12) (eOp fdivW (eOp ixD (Za 4) (eOp modW (eCB lenD (Zb (Za 7) eNil)) (eC (.int 8)))) 't')) (Za 2)))
 (Zd (Ze 14 (Za 13))
 (Zd (Ze 15 'm')
 (Zd (sIf (xB (eOp (ZJ λi j=>decide (j<i)) (Za 3) 'm')) (Zd (Ze 14 (eOp fdivW (Za 10) (eOp fdivW (Za 5) (Za 2))))
 (Ze 15 (eOp addX (eOp mulX (eOp modW (Za 10) (eOp fdivW (Za 5) (Za 2))) (Za 2)) (Za 13)))) sNext)
 (Zd (Y2 (ZY 2 (Zz 16 (Zz 17 gsNil))) (eOp ixD (eOp ixD (Za 1) (eLM lindexD (Za 0) (Za 9))) (Za 14)))
 (ZE 11 (ZD (Zb (Za 16) (Zb (eOp addX (eOp mulX (eLM lindexD (Za 0) (Za 17)) (Za 5)) (Za 15)) eNil))))))))))
 (Zd (ZE 7 (Za 9))
 (ZE 8 (eCB ZM (Zb (Za 11) eNil))))))))
 (Zt (ZD (Zb (eCB ZM (Zb (Za 7) eNil)) (Zb (eCB ZM (Zb (Za 8) eNil)) eNil)))))))))
noncomputable def U8:List D->Option D:=run 18 JD
noncomputable def JE:EN->Option Out:=
 (Zd (Ze 2 (Zn 2 U4 [] (Zb (Zn 2 ZS [] (Zb (Za 0) (Zb 'd' eNil))) (Zb (Zn 2 ZS [] (Zb (Za 0) (Zb 'o' eNil))) eNil))))
 (Zd (Ze 3 (Vl (Zb (eCB lenD (Zb (eOp ixD (Za 2) 'd') eNil)) eNil)))
 (Zd (sIf (xB (eOp eqD (eOp modW (eOp fdivW (Zn 2 ZS [] (Zb (Za 0) (Zb 'o' eNil))) (eC (.int 36))) 'o') 'd')) (Ze 3 (Zo (Zb (eOp modW (eOp fdivW (Zn 2 ZS [] (Zb (Za 0) (Zb 'o' eNil))) (eC (.int 72))) (eCB lenD (Zb (Za 3) eNil))) eNil))) sNext)
 (Zd (Ze 4 (Zn 3 U7 [] (Zb (Za 2) (Zb (Za 3) (Zb (Zn 2 ZS [] (Zb (Za 0) (Zb 't' eNil))) eNil)))))
 (Zd (Ze 5 (eCB minQD (Zb (eOp Vm (Zo (Zb (eOp addX 'd' (eOp modW (eOp fdivW (Zn 2 ZS [] (Zb (Za 0) (Zb 't' eNil))) (eC (.int 4))) 't')) eNil)) (ZV (ZF (Za 4)) (Zj 0) (λ_=>some true) (eCB lenD 'n') 1 [])) eNil)))
 (Zd (Ze 6 (eOp ixD (Zo (Zb 'm' (Zb 'm' (Zb 'd' (Zb 'd' (Zb 'd' (Zb 'o' (Zb 'o' (Zb 't' eNil))))))))) (eOp modW (eOp fdivW (Zn 2 ZS [] (Zb (Za 0) (Zb 't' eNil))) (eC (.int 12))) (eC (.int 8)))))
 (Zd (sIf (xB (eOp (ZJ λi j=>decide (j<i)) (eCB lenD (Zb (Za 3) eNil)) 'o')) (Ze 6 (eCB minD (Zb (Za 6) (Zb 'o' eNil)))) sNext)
 (Zd (sIf (xB (eOp eqD (Za 5) 't')) (Ze 6 (eCB minD (Zb (Za 6) (Zb 'd' eNil)))) sNext)
 (Zd (sIf (xB (eOp eqD (Za 5) 'd')) (Ze 6 'm') sNext)
 (Zd (Y2 (ZY 2 (Zz 7 (Zz 8 gsNil))) (Zn 5 U8 [] (Zb (Za 3) (Zb (Za 4) (Zb (Za 5) (Zb (Za 6) (Zb (Za 1) eNil)))))))
 (Zt (ZD (Zb (Za 2) (Zb (Za 7) (Zb (Za 8) (Zb (Za 6) eNil))))))))))))))))
noncomputable def U9:List D->Option D:=run 9 JE
noncomputable def JF:EN->Option Out:=
 (Zd (Ze 2 (eOp addX 'd' (eOp modW (Zn 2 ZS [] (Zb (Za 1) (Zb 'd' eNil))) (eC (.int 5)))))
 (Zd (Ze 3 (eOp addX 'd' (eOp modW (eOp fdivW (Zn 2 ZS [] (Zb (Za 1) (Zb 'd' eNil))) (eC (.int 5))) 't')))
 (Zd (Ze 4 (Zo (Zb (Zo (Zb (eC (.str [48])) (Zb (eC (.str [49])) eNil))) (Zb (Zo (Zb (eC (.str [97])) (Zb (eC (.str [98])) (Zb (eC (.str [99])) eNil)))) (Zb (Zo (Zb (eC (.str [48,49])) (Zb (eC (.str [49,48])) (Zb (eC (.str [49,49])) (Zb (eC (.str [48,48])) eNil))))) (Zb (Zo (Zb (eC (.str [97,97])) (Zb (eC (.str [97,98])) (Zb (eC (.str [98,97])) eNil)))) eNil))))))
 (Zd (Ze 5 (eOp ixD (Za 4) (eOp modW (Zn 2 ZS [] (Zb (Za 1) (Zb 'o' eNil))) (eCB lenD (Zb (Za 4) eNil)))))
 (Zd (Ze 6 (ZV (Zr 'r') (Zj 0) (λ_=>some true) (eOp modW (eOp ixD (Za 1) (Za 0)) 't') 1 [0]))
 (Zd (Ze 7 (Zo eNil))
 (Zd (Zq (Zr 'r') (Zj 8) (Zd (Ze 9 (Zo eNil))
 (Zd (Zq (Zr (Zb (Za 3) eNil)) (Zj 10) (Zd (Ze 11 (eOp ixD (Za 0) (eOp addX (eOp addX (eC (.int 5)) (eOp mulX 't' (Za 8))) (Za 10))))
 (ZE 9 (ZD (Zb (eOp ixD (Za 5) (eOp modW (Za 11) (eCB lenD (Zb (Za 5) eNil)))) (Zb (eOp modW (eOp fdivW (Za 11) (eC (.int 12))) (Za 2)) eNil))))))
 (ZE 7 (eCB ZM (Zb (Za 9) eNil))))))
 (Zt (ZD (Zb (eCB ZM (Zb (Za 6) eNil)) (Zb (eCB ZM (Zb (Za 7) eNil)) eNil)))))))))))
noncomputable def V5:List D->Option D:=run 12 JF
noncomputable def JG:EN->Option Out:=
 (Xx (Ze 3 (eC (.dnn [])))
 (Xx (Zq (ZF (Za 1)) (ZY 2 (Zz 4 (Zz 5 gsNil))) (Zq (Zr (Zb (eCB lenD (Zb (eOp ixD (Za 0) (Za 4)) eNil)) eNil)) (Zj 6) (Zq (Zr (Zb (eCB lenD (Zb (eOp ixD (Za 0) (Za 5)) eNil)) eNil)) (Zj 7) (sIf (YB (xB (eOp eqD (eOp ixD (eOp ixD (eOp ixD (Za 0) (Za 4)) (Za 6)) 'm') (eOp ixD (eOp ixD (eOp ixD (Za 0) (Za 5)) (Za 7)) 'm'))) (xOr (xB (eOp neD (Za 6) (Za 7))) (XG (xB (Za 2))))) (Xl 3 (ZD (Zb (eOp ixD (eOp ixD (eOp ixD (Za 0) (Za 4)) (Za 6)) 'd') (Zb (eOp ixD (eOp ixD (eOp ixD (Za 0) (Za 5)) (Za 7)) 'd') eNil))) (eC (.bl true))) sNext))))
 (Zt (Y6 (Za 3)))))
noncomputable def V6:List D->Option D:=VX 8 JG
noncomputable def JH:EN->Option Out:=
 (Zd (Ze 2 (Zo eNil))
 (Zd (Zq (Zr (Zb (eCB lenD 'n') eNil)) (Zj 3) (Zq (Zr (Zb (eCB lenD 'n') eNil)) (Zj 4) (sIf (xB (eOp eqD (eOp ixD (Za 0) (Za 3)) (eOp ixD (Za 0) (Za 4)))) (ZE 2 (ZD (Zb (Za 3) (Zb (Za 4) eNil)))) sNext)))
 (Zd (Ze 2 (Zn 3 V6 [] (Zb (Za 1) (Zb (Za 2) (Zb (eC (.bl true)) eNil)))))
 (Zd (Ze 5 'm')
 (Zd (YO (xB (eOp (ZJ λi j=>decide (j<i)) (eCB lenD 'r') 'm')) (Zd (Ze 5 (eOp addX (Za 5) 'd'))
 (Zd (sIf (xB (eOp (ZJ λi j=>decide (j<i)) (Za 5) (eOp mulX (eCB lenD 'n') (eCB lenD 'n')))) (Zt (eC .non)) sNext)
 (Ze 2 (Zn 3 V6 [] (Zb (Za 1) (Zb (Za 2) (Zb (eC (.bl false)) eNil))))))))
 (Zt (Za 5)))))))
noncomputable def V7:List D->Option D:=run 6 JH
noncomputable def JI:EN->Option Out:=
 (Zd (Ze 1 (Zn 3 U1 [] (Zb (Za 0) (Zb (eC (.int 4)) (Zb (eC (.int 20)) eNil)))))
 (Zd (sIf (xB (eOp eqD (eOp modW (Zn 2 ZS [] (Zb (Za 0) (Zb 'm' eNil))) 'o') 'd')) (Zd (Ze 2 (Zn 2 U9 [] (Zb (Za 0) (Zb (Za 1) eNil))))
 (Zd (Ze 3 (eOp ixD (Za 2) 'd'))
 (Zd (Ze 4 (eOp ixD (Za 2) 'o'))
 (Ze 5 (eOp ixD (Za 2) 't'))))) (Zd (Y2 (ZY 2 (Zz 3 (Zz 4 gsNil))) (Zn 2 V5 [] (Zb (Za 1) 'n')))
 (Ze 5 (Zn 2 V7 [] (Zb (Za 3) (Zb (Za 4) eNil))))))
 (Zd (Ze 6 (Zn 2 XU [] (Zb (Za 3) (Zb (Za 4) eNil))))
 (Zd (sIf (xB (XH (Za 5))) (Zt (XH (Za 6))) sNext)
 (Zt (Xh (Xj UX (Za 6)) (Xh (Vh (Xj UW (Za 6))) (eOp eqD (Za 6) (Za 5)))))))))
noncomputable def Qa:List D->Option D:=run 7 JI
def top(i:Nat):Stmt:=PySem.Challenge.pw_grooveway_k41_look.main.body.getD i (.Pass ⟨0,0,0,0⟩)
abbrev Qb:Stmt:=top 1
abbrev V8:Stmt:=top 2
abbrev V9:Stmt:=top 4
abbrev Qc:Stmt:=top 5
abbrev Qd:Stmt:=top 6
abbrev Y8:Stmt:=top 7
abbrev Qe:Stmt:=top 9
abbrev Ua:Stmt:=top 10
abbrev Ub:Stmt:=top 11
abbrev Qf:Stmt:=top 12
abbrev Qg:Stmt:=top 13
abbrev Qh:Stmt:=top 14
abbrev Qi:Stmt:=top 15
abbrev Vu:Stmt:=top 16
abbrev Qj:Stmt:=top 18
abbrev Uc:Stmt:=top 19
abbrev Ud:Stmt:=top 20
abbrev Qk:Stmt:=top 21
abbrev Qm:Stmt:=top 22
abbrev Qn:Stmt:=top 23
theorem Zlg:FnScope ["begins", "followers", "$by_block", "found", "waiting", "one"] ["begins", "followers"] (defScope Qb):=fsm
theorem Zlh:FnScope ["begins", "followers", "$by_block", "found", "left", "ahead", "one", "behind", "other", "last", "length", "gone", "earlier"] ["begins", "followers"] (defScope V8):=fsm
theorem Zli:FnScope ["homes", "ways", "found", "home", "own", "sign", "way", "ends"] ["homes", "ways"] (defScope V9):=fsm
theorem Zlj:FnScope ["homes", "ways", "pairs", "ends", "sign", "place", "other"] ["homes", "ways"] (defScope Qc):=fsm
theorem Zlk:FnScope ["own", "found", "block", "place"] ["own"] (defScope Qd):=fsm
theorem Zll:FnScope ["homes", "ways", "by_block", "followers"] ["homes", "ways"] (defScope Y8):=fsm
theorem Zlm:FnScope ["script", "k"] ["script", "k"] (defScope Qe):=fsm
theorem Zln:FnScope ["script", "behind", "many", "found", "k", "at"] ["script", "behind", "many"] (defScope Ua):=fsm
theorem Zlo:FnScope ["cell", "many", "some"] ["cell", "many"] (defScope Ub):=fsm
theorem Zlp:FnScope ["cell", "many", "ways", "room", "row", "k"] ["cell", "many"] (defScope Qf):=fsm
theorem Zlq:FnScope ["fewest", "most", "ways", "room", "row"] ["fewest", "most"] (defScope Qg):=fsm
theorem Zlr:FnScope ["cell", "other", "many", "most"] ["cell", "other"] (defScope Qh):=fsm
theorem Zls:FnScope ["marks", "ways", "room", "q", "blocks", "step", "longer", "block", "here", "k"] ["marks", "ways", "room", "q"] (defScope Qi):=fsm
theorem Zlt:FnScope ["ground", "base", "cell", "best", "step", "found", "room", "blocks", "fewest"] ["ground", "base", "cell"] (defScope Vu):=fsm
theorem Zlu:FnScope ["base", "choices", "n", "depth", "cells", "spread", "k", "homes", "ways", "room", "kept", "row", "sign", "new", "picked", "later", "block", "there"] ["base", "choices", "n", "depth", "cells"] (defScope Qj):=fsm
theorem Zlv:FnScope ["script", "cells", "ground", "base", "choices", "n", "depth", "homes", "ways"] ["script", "cells"] (defScope Uc):=fsm
theorem Zlw:FnScope ["cells", "script", "many", "n", "some", "blocks", "homes", "ways", "place", "row", "sign", "cell"] ["cells", "script"] (defScope Ud):=fsm
theorem Zlx:FnScope ["ways", "pairs", "unlike", "found", "one", "other", "sign", "second"] ["ways", "pairs", "unlike"] (defScope Qk):=fsm
theorem Zly:FnScope ["homes", "ways", "pairs", "one", "other", "look"] ["homes", "ways"] (defScope Qm):=fsm
theorem Zlz:FnScope ["script", "cells", "late", "homes", "ways", "due", "found"] ["script"] (defScope Qn):=fsm
abbrev YD:Stmt:=Zk7 (top 7) 1
theorem Zab:CloScope ["pair", "by_block", "pairs", "block", "places", "one", "other"] ["pair"] ["by_block"] (defScope YD):=⟨rfl,rfl,rfl,by decide +kernel,rfl,by decide +kernel,by decide +kernel,by decide +kernel⟩
structure Adr where
 (p_QA a_QD a_QR a_QF a_QL a_QB a_QS a_QG a_QJ a_QN a_QC a_QE a_QK a_QM a_QH a_QI a_QO a_QQ a_QT a_QP a_QU:Addr)
 (d_QD d_QR d_QF d_QL d_QB d_QS d_QG d_QJ d_QN d_QC d_QE d_QK d_QM d_QH d_QI d_QO d_QQ d_QT d_QP d_QU:FuncData)
def Adr.c(t:Adr):String->Addr:=λc=>0
structure Txt(K:Frag)(mg:Str->Option Value)(t:Adr):Prop where
 p_QD:Dg K mg "all_followers" Qb t.a_QD t.d_QD ["begins", "followers"]
 p_QR:Dg K mg "longest" V8 t.a_QR t.d_QR ["begins", "followers"]
 p_QF:Dg K mg "ways_by_block" V9 t.a_QF t.d_QF ["homes", "ways"]
 p_QL:Dg K mg "first_pairs" Qc t.a_QL t.d_QL ["homes", "ways"]
 p_QB:Dg K mg "places_by_block" Qd t.a_QB t.d_QB ["own"]
 f_QS:FunX K "look_of" "look_of" Y8 t.a_QS t.d_QS
 b_QS:Binds K t.d_QS ["homes", "ways"] []
 g_QS:mg "look_of" = some (.ref t.a_QS)
 k_QS:keepIn K (.ref t.a_QS)=true
 p_QG:Dg K mg "_law_cell_at" Qe t.a_QG t.d_QG ["script", "k"]
 p_QJ:Dg K mg "_law_folded" Ua t.a_QJ t.d_QJ ["script", "behind", "many"]
 p_QN:Dg K mg "_law_marks" Ub t.a_QN t.d_QN ["cell", "many"]
 p_QC:Dg K mg "_law_last_ways" Qf t.a_QC t.d_QC ["cell", "many"]
 p_QE:Dg K mg "_law_gap_ways" Qg t.a_QE t.d_QE ["fewest", "most"]
 p_QK:Dg K mg "_law_ground" Qh t.a_QK t.d_QK ["cell", "other"]
 p_QM:Dg K mg "_law_blocks" Qi t.a_QM t.d_QM ["marks", "ways", "room", "q"]
 p_QH:Dg K mg "_law_choices" Vu t.a_QH t.d_QH ["ground", "base", "cell"]
 p_QI:Dg K mg "_law_delayed" Qj t.a_QI t.d_QI ["base", "choices", "n", "depth", "cells"]
 p_QO:Dg K mg "_law_late" Uc t.a_QO t.d_QO ["script", "cells"]
 p_QQ:Dg K mg "_law_any" Ud t.a_QQ t.d_QQ ["cells", "script"]
 p_QT:Dg K mg "_law_on" Qk t.a_QT t.d_QT ["ways", "pairs", "unlike"]
 p_QP:Dg K mg "_law_due" Qm t.a_QP t.d_QP ["homes", "ways"]
 p_QU:Dg K mg "law" Qn t.a_QU t.d_QU ["script"]
 tb_look_of_followers:(t.p_QA,("look_of.<locals>.followers" : Str))∈Xo K
 nk_look_of_followers:∃c0,t.d_QS.code = .ref c0/\NestK K mg c0 t.p_QA
 n_bool:mg "bool" = none
 n_enumerate:mg "enumerate" = none
 n_int:mg "int" = none
 n_isinstance:mg "isinstance" = none
 n_len:mg "len" = none
 n_list:mg "list" = none
 n_max:mg "max" = none
 n_min:mg "min" = none
 n_range:mg "range" = none
 n_tuple:mg "tuple" = none
 n_zip:mg "zip" = none
 isi_bool:IsiOk K ⟨t.c,K⟩ (.type "bool") UW
 isi_int:IsiOk K ⟨t.c,K⟩ (.type "int") UX
end K41
namespace K41
open PySem PySem.W L2 HT
def kP:Params->Frag:=λP=>
 (nat_lit 2,dO .none [] 0) ::
 (nat_lit 3,dO (.type "dict") [de P "__name__" 165 (.str "law_grooveway_k41_look" 243),de P "__doc__" 166 .none,de P "__package__" 167 .none,de P "__loader__" 168 (.builtin "__main__.__loader__#opaque"),de P "__spec__" 169 .none,de P "__annotations__" 170 (.ref 6),de P "__builtins__" 171 (.ref 4),de P "__file__" 173 (.str "/claim/cut.py" 172),de P "__cached__" 174 .none,de P "all_followers" 199 (.ref 21),de P "longest" 205 (.ref 26),de P "ways_by_block" 213 (.ref 31),de P "first_pairs" 226 (.ref 38),de P "places_by_block" 236 (.ref 45),de P "look_of" 242 (.ref 50),de P "_law_cell_at" 252 (.ref 57),de P "_law_folded" 258 (.ref 62),de P "_law_marks" 264 (.ref 67),de P "_law_last_ways" 276 (.ref 74),de P "_law_gap_ways" 287 (.ref 81),de P "_law_ground" 297 (.ref 88),de P "_law_blocks" 313 (.ref 95),de P "_law_choices" 319 (.ref 100),de P "_law_leads" 332 (.ref 107),de P "_law_delayed" 356 (.ref 114),de P "_law_late" 362 (.ref 119),de P "_law_any" 368 (.ref 124),de P "_law_on" 382 (.ref 131),de P "_law_due" 394 (.ref 138),de P "law" 407 (.ref 145)] 30) ::
 (nat_lit 20,c3 "all_followers" "all_followers" 189 2 2 3 15 16 (.ref 17) (.ref 18) 19 197 198) ::
 (nat_lit 21,f3 "all_followers" "all_followers" Qb "grooveway.least" 187 20) ::
 (nat_lit 25,c3 "longest" "longest" 200 11 2 3 22 23 .none .none 24 203 204) ::
 (nat_lit 26,f3 "longest" "longest" V8 "grooveway.least" 187 25) ::
 (nat_lit 30,c3 "ways_by_block" "ways_by_block" 208 34 2 3 27 28 .none .none 29 211 212) ::
 (nat_lit 31,f3 "ways_by_block" "ways_by_block" V9 "grooveway.table" 206 30) ::
 (nat_lit 37,c3 "first_pairs" "first_pairs" 214 41 2 3 32 33 (.ref 34) (.ref 35) 36 224 225) ::
 (nat_lit 38,f3 "first_pairs" "first_pairs" Qc "grooveway.table" 206 37) ::
 (nat_lit 44,c3 "places_by_block" "places_by_block" 227 49 1 3 39 40 (.ref 41) (.ref 42) 43 234 235) ::
 (nat_lit 45,f3 "places_by_block" "places_by_block" Qd "grooveway.table" 206 44) ::
 (nat_lit 49,c3 "look_of" "look_of" 237 54 2 3 46 47 .none .none 48 240 241) ::
 (nat_lit 50,f3 "look_of" "look_of" Y8 "grooveway.table" 206 49) ::
 (nat_lit 56,c3 "_law_cell_at" "_law_cell_at" 245 66 2 3 51 52 (.ref 53) (.ref 54) 55 250 251) ::
 (nat_lit 57,f3 "_law_cell_at" "_law_cell_at" Qe "law_grooveway_k41_look" 243 56) ::
 (nat_lit 61,c3 "_law_folded" "_law_folded" 253 70 3 3 58 59 .none .none 60 256 257) ::
 (nat_lit 62,f3 "_law_folded" "_law_folded" Ua "law_grooveway_k41_look" 243 61) ::
 (nat_lit 66,c3 "_law_marks" "_law_marks" 259 76 2 3 63 64 .none .none 65 262 263) ::
 (nat_lit 67,f3 "_law_marks" "_law_marks" Ub "law_grooveway_k41_look" 243 66) ::
 (nat_lit 73,c3 "_law_last_ways" "_law_last_ways" 265 79 2 3 68 69 (.ref 70) (.ref 71) 72 274 275) ::
 (nat_lit 74,f3 "_law_last_ways" "_law_last_ways" Qf "law_grooveway_k41_look" 243 73) ::
 (nat_lit 80,c3 "_law_gap_ways" "_law_gap_ways" 277 90 2 3 75 76 (.ref 77) (.ref 78) 79 285 286) ::
 (nat_lit 81,f3 "_law_gap_ways" "_law_gap_ways" Qg "law_grooveway_k41_look" 243 80) ::
 (nat_lit 87,c3 "_law_ground" "_law_ground" 288 100 2 3 82 83 (.ref 84) (.ref 85) 86 295 296) ::
 (nat_lit 88,f3 "_law_ground" "_law_ground" Qh "law_grooveway_k41_look" 243 87) ::
 (nat_lit 94,c3 "_law_blocks" "_law_blocks" 298 106 4 3 89 90 (.ref 91) (.ref 92) 93 311 312) ::
 (nat_lit 95,f3 "_law_blocks" "_law_blocks" Qi "law_grooveway_k41_look" 243 94) ::
 (nat_lit 99,c3 "_law_choices" "_law_choices" 314 116 3 3 96 97 .none .none 98 317 318) ::
 (nat_lit 100,f3 "_law_choices" "_law_choices" Vu "law_grooveway_k41_look" 243 99) ::
 (nat_lit 113,c3 "_law_delayed" "_law_delayed" 333 141 5 3 108 109 (.ref 110) (.ref 111) 112 354 355) ::
 (nat_lit 114,f3 "_law_delayed" "_law_delayed" Qj "law_grooveway_k41_look" 243 113) ::
 (nat_lit 118,c3 "_law_late" "_law_late" 357 162 2 3 115 116 .none .none 117 360 361) ::
 (nat_lit 119,f3 "_law_late" "_law_late" Uc "law_grooveway_k41_look" 243 118) ::
 (nat_lit 123,c3 "_law_any" "_law_any" 363 178 2 3 120 121 .none .none 122 366 367) ::
 (nat_lit 124,f3 "_law_any" "_law_any" Ud "law_grooveway_k41_look" 243 123) ::
 (nat_lit 130,c3 "_law_on" "_law_on" 369 192 3 3 125 126 (.ref 127) (.ref 128) 129 380 381) ::
 (nat_lit 131,f3 "_law_on" "_law_on" Qk "law_grooveway_k41_look" 243 130) ::
 (nat_lit 137,c3 "_law_due" "_law_due" 383 200 2 3 132 133 (.ref 134) (.ref 135) 136 392 393) ::
 (nat_lit 138,f3 "_law_due" "_law_due" Qm "law_grooveway_k41_look" 243 137) ::
 (nat_lit 144,c3 "law" "law" 395 214 1 3 139 140 (.ref 141) (.ref 142) 143 405 406) ::
 (nat_lit 145,f3 "law" "law" Qn "law_grooveway_k41_look" 243 144) ::
 (nat_lit 4,⟨(.type "module"),some 0,.plain,#[]⟩) ::
 (nat_lit 3,⟨(.str "look_of.<locals>.followers" 0),some 47,.plain,#[]⟩)::[]
abbrev kA:Params->Frag:=λP=>(kP P).dropLast++[(47,tabObj #[])]
set_option maxHeartbeats 0 in
theorem ZlA:met PySem.Challenge.pw_grooveway_k41_look=true:=by k_qdec
set_option maxHeartbeats 0 in
theorem ZlB:met kP=true:=by k_qdec
set_option maxHeartbeats 0 in
theorem left:LeftO PySem.Challenge.pw_grooveway_k41_look (view PySem.Challenge.pw_grooveway_k41_look [1,2,4,5,6,7,9,10,11,12,13,14,15,16,17,18,19,20,21,22,23]) [] (λs=>xlAt (view PySem.Challenge.pw_grooveway_k41_look [1,2,4,5,6,7,9,10,11,12,13,14,15,16,17,18,19,20,21,22,23]) [] s&&recOk PySem.Challenge.rw_grooveway_k41_look.row.toRowW.records s) (λs=>([2,3,20,21,25,26,30,31,37,38,44,45,49,50,56,57,61,62,66,67,73,74,80,81,87,88,94,95,99,100,113,114,118,119,123,124,130,131,137,138,144,145,4,47]:List Addr).map s.heap.get?) (λw=>((kP w.params).dropLast++[(47,tabObj #[])]:Frag).map λp=>some p.2) 1502:=
 HT.left_of rfl rfl (λ_=>rfl) λw=>by
  have _:=ZlA;have _:=ZlB;rewrite [PySem.W.Fast.te13426664980645382506,PySem.W.Fast.te17097164016577399940,PySem.W.Fast.te5923862056798008813,PySem.W.Fast.te4187177175401517315,PySem.W.Fast.te6613529449190102663,PySem.W.Fast.te10156331382660048174,PySem.W.Fast.te11892475500146522536,PySem.W.Fast.te14364793385576792824]
  kernel_rfl
theorem kA_as:∀P,([2,3,20,21,25,26,30,31,37,38,44,45,49,50,56,57,61,62,66,67,73,74,80,81,87,88,94,95,99,100,113,114,118,119,123,124,130,131,137,138,144,145,4,47]:List Addr)=(kA P).map (·.1):=λ_=>by kernel_rfl
theorem kP_tabs:∀P,Xo (kP P)=[(47,("look_of.<locals>.followers" : Str))]:=λ_=>by kernel_rfl
end K41
namespace K41
open PySem PySem.Spec PyProof.Rows L2 DL
theorem VSm{φ:EN->Option Out}(h:VS G ow ow1 owB owC t φ):VS G ow ow1 owB owC t φ:=h
theorem nq0:List.Nodup (["homes", "ways", "by_block", "followers"]:List Str):=by decide +kernel
theorem nq1:List.Nodup (["own"]:List Str):=by decide +kernel
set_option hygiene false
seal L2.PE L2.PS L2.PSs L2.PA L2.PG L2.PGs L2.PI L2.PT L2.PC L2.PW L2.PTs
local macro_rules | `(tactic| and_intros) => `(tactic| repeat' first | refine Zfs (fun NF hF => QH PassesOwn.never (by rfl) (Zen ?_ ⟨rfl,rfl,rfl,rfl⟩ hF) ?_ ?_) | refine Zc0 (fun NF hF => QH PassesOwn.never (by rfl) (Zfj ?_ ⟨rfl,rfl,rfl,rfl⟩ hF) ?_ ?_) | refine Zc0 (fun NF hF => Q8 (qz (by kernel_rfl)) (by rfl) (by rfl) (by rfl) (CompSc.mk' (tn:=["one"]) (cn:=["left"]) (js:=[4]) (osc:=defScope V8) (oN:=["begins", "followers", "$by_block", "found", "left", "ahead", "one", "behind", "other", "last", "length", "gone", "earlier"]) (by rfl) (by rfl) (by rfl) (by decide +kernel)) (Zhn ?_ hF) (fun C s₂ H₂ fp => ?_) (fun C s₂ H₂ fp => ?_) (fun C s₂ H₂ fp => ?_)) | exact pv _ | refine Xc ?_ ?_ | exact X5 | exact Zi0 | refine ZbB ?_ ?_ | refine ZcB ?_ | refine ZfK (qz (by kernel_rfl)) (by rfl) (by first | exact Or.inl rfl | exact Or.inr rfl) ?_ | exact ZcC (qz (by kernel_rfl)) (by rfl) (by first | exact Or.inl rfl | exact Or.inr rfl) | refine ZkM (Zm5 (K:=K)) ?_ ?_ (fun _ _ => rfl) | refine pa_conC ?_ ?_ | refine QH PassesOwn.never (by rfl) ?_ ?_ ?_ | refine Zji ?_ | refine ZfJ ?_ | refine X1 ZgO ?_ ?_ | refine X6 (ZkS (K:=K)) (by rfl) T.n_len boot_len ?_ | refine X1 (ZjM (K:=K)) ?_ ?_ | refine Zex ?_ ?_ | refine ZkI ?_ ?_ ?_ | exact ZgK | refine ZdE (by rfl) T.n_range ?_ | refine ZgL ?_ | refine Zjh ?_ | refine Us (K:=K) yO PySem.F.slot_list_append PySem.F.type_list_append ZdM ?_ ?_ | exact Zjm _ (by decide +kernel) | refine X1 ZeN ?_ ?_ | refine ZmD (K:=K) ?_ | exact ZgM | refine ZkT (K:=K) ?_ | refine X3 (ZfZ (cA:=⟨t.c,K⟩) (hr.units)) ?_ ?_ (X2 _) | refine Z8 ((ZlJ T).mono (by decide)) hr (by rfl) T.p_QG.g T.p_QG.k T.p_QG.b .nil Z2 ?_ | refine QK (ZgU (K:=K)) (by rfl) T.n_tuple boot_tuple ?_ | refine X1 (ZjN (K:=K)) ?_ ?_ | refine X3 ZkL ?_ ?_ (X2 _) | exact ZkG | exact ZcI | refine Zjf ?_ ?_ | exact Zi1 | refine X6 (ZdI (by rfl)) (by rfl) T.n_min boot_min ?_ | refine NK.ps_putN hr.units ?_ ?_ ?_ (by rfl) | refine QK (Zcv (by rfl)) (by rfl) T.n_list boot_list ?_ | exact ZeH | refine ZgX (VY hr.units) ?_ ?_ (fun _ _ => rfl) | refine pa_conL ?_ ?_ | refine ZgY (VY hr.units) ?_ ?_ ?_ (by rfl) | refine Zey PassesOwn.never ?_ ?_ | refine X3 Zim ?_ ?_ (X2 _) | refine X3 ZkK ?_ ?_ (X2 _) | refine Zje ?_ ?_ Zez | exact NK.pe_dnewN | refine ZhT (K:=K) ?_ | refine ZeI (VY hr.units) ?_ ?_ ?_ ⟨rfl,rfl,rfl,rfl⟩ | refine X6 (ZdH (by rfl)) (by rfl) T.n_max boot_max ?_ | refine Zfi (VY hr.units) ?_ ?_ ?_ ⟨rfl,rfl,rfl,rfl⟩ | refine ZgT ?_ | refine X1 op_add ?_ ?_ | refine X1 Zjg ?_ ?_ | exact Zfv | refine Zi7 ?_ | refine ZkH ?_ ?_ | refine Z8 ((ZlL T).mono (by decide)) hr (by rfl) T.p_QN.g T.p_QN.k T.p_QN.b .nil Z2 ?_ | refine X6 (ZjP (K:=K)) (by rfl) T.n_min boot_min ?_ | refine ZgJ ?_ | refine Zi8 ?_ ?_ | refine Us (K:=K) yO PySem.F.slot_list_index PySem.F.type_list_index (ZdZ (K:=K)) ?_ ?_ | refine Z8 ((ZlU T).mono (by decide)) hr (by rfl) T.p_QT.g T.p_QT.k T.p_QT.b .nil Z2 ?_ | refine Zi3 ?_ | refine X6 (ZjL (K:=K)) (by rfl) T.n_isinstance boot_isinstance ?_ | refine Zjb ?_ ?_ | refine QK (Zci (K:=K)) (by rfl) T.n_list boot_list ?_ | refine Zk5 (K:=K) yO PySem.F.slot_list_pop PySem.F.type_list_pop Zjl ?_ | refine ZdS (VY hr.units) ?_ ?_ | refine Ze4 G_QA hr hf hd hoc (Binds.all fun us hl => match us,hl with | [_] ,_ => rfl) (by rfl) (by first | exact Or.inl rfl | exact Or.inr (Or.inl rfl)) ?_ | refine Us (K:=K) yO PySem.F.slot_list_extend PySem.F.type_list_extend ZhC ?_ ?_ | refine Z8 G_QD hr (by rfl) T.p_QD.g T.p_QD.k T.p_QD.b .nil Z2 ?_ | refine X6 (ZjV (K:=K)) (by rfl) T.n_len boot_len ?_ | refine Zew ?_ ?_ ?_ | refine Zhk (K:=K) (by rfl) T.n_zip ?_ ?_ | refine Ze2 (K:=K) (by rfl) T.n_enumerate ?_ | refine ZhQ (NF:=fun _ => True) ?_ ⟨rfl,rfl,rfl,rfl⟩ (fun _ _ => trivial) | refine Vb (by rfl) (CompSc.mk' (tn:=["ends"]) (cn:=[]) (js:=[]) (osc:=defScope V9) (oN:=["homes", "ways", "found", "home", "own", "sign", "way", "ends"]) (by rfl) (by rfl) (by rfl) (by decide +kernel)) ?_ (fun C s₂ H₂ fp => ?_) (fun C s₂ H₂ fp => ?_) (fun C s₂ H₂ fp => ?_) | refine Z8 ((ZlF T).mono (by decide)) hr (by rfl) T.p_QF.g T.p_QF.k T.p_QF.b .nil Z2 ?_ | exact ZeG | refine Zj8 (K:=K) ?_ | refine Zft ?_ ?_ ?_ ⟨rfl,rfl,rfl,rfl⟩ | refine Q8 (qz (by kernel_rfl)) (by rfl) (by rfl) (by rfl) (CompSc.mk' (tn:=["k"]) (cn:=[]) (js:=[]) (osc:=defScope Ua) (oN:=["script", "behind", "many", "found", "k", "at"]) (by rfl) (by rfl) (by rfl) (by decide +kernel)) ?_ (fun C s₂ H₂ fp => ?_) (fun C s₂ H₂ fp => ?_) (fun C s₂ H₂ fp => ?_) | refine ZdF (by rfl) T.n_range ?_ | refine Vb (by rfl) (CompSc.mk' (tn:=["k"]) (cn:=["some", "cell"]) (js:=[2,0]) (osc:=defScope Ub) (oN:=["cell", "many", "some"]) (by rfl) (by rfl) (by rfl) (by decide +kernel)) ?_ (fun C s₂ H₂ fp => ?_) (fun C s₂ H₂ fp => ?_) (fun C s₂ H₂ fp => ?_) | refine Us (K:=K) PySem.F.plainAttrs_str PySem.F.slot_str_join PySem.F.type_str_join (Zhb (K:=K)) ?_ ?_ | refine Z8 ((ZlM T).mono (by decide)) hr (by rfl) T.p_QC.g T.p_QC.k T.p_QC.b .nil Z2 ?_ | refine Z8 ((ZlN T).mono (by decide)) hr (by rfl) T.p_QE.g T.p_QE.k T.p_QE.b .nil Z2 ?_ | refine ZgI ?_ | refine Z8 ((ZlP T).mono (by decide)) hr (by rfl) T.p_QM.g T.p_QM.k T.p_QM.b .nil Z2 ?_ | refine X3 (ZkR (K:=K)) ?_ ?_ (by rfl) | refine Vb (by rfl) (CompSc.mk' (tn:=["pair"]) (cn:=["base"]) (js:=[1]) (osc:=defScope Vu) (oN:=["ground", "base", "cell", "best", "step", "found", "room", "blocks", "fewest"]) (by rfl) (by rfl) (by rfl) (by decide +kernel)) ?_ (fun C s₂ H₂ fp => ?_) (fun C s₂ H₂ fp => ?_) (fun C s₂ H₂ fp => ?_) | refine Vb (by rfl) (CompSc.mk' (tn:=["blocks"]) (cn:=[]) (js:=[]) (osc:=defScope Vu) (oN:=["ground", "base", "cell", "best", "step", "found", "room", "blocks", "fewest"]) (by rfl) (by rfl) (by rfl) (by decide +kernel)) ?_ (fun C s₂ H₂ fp => ?_) (fun C s₂ H₂ fp => ?_) (fun C s₂ H₂ fp => ?_) | refine Z8 ((ZlO T).mono (by decide)) hr (by rfl) T.p_QK.g T.p_QK.k T.p_QK.b .nil Z2 ?_ | refine Zcm (by rfl) (by rfl) T.n_list (by rfl) T.n_range ?_ | refine Z8 ((ZlQ T).mono (by decide)) hr (by rfl) T.p_QH.g T.p_QH.k T.p_QH.b .nil Z2 ?_ | refine Vb (by rfl) (CompSc.mk' (tn:=["row"]) (cn:=[]) (js:=[]) (osc:=defScope Uc) (oN:=["script", "cells", "ground", "base", "choices", "n", "depth", "homes", "ways"]) (by rfl) (by rfl) (by rfl) (by decide +kernel)) ?_ (fun C s₂ H₂ fp => ?_) (fun C s₂ H₂ fp => ?_) (fun C s₂ H₂ fp => ?_) | refine Z8 ((ZlR T).mono (by decide)) hr (by rfl) T.p_QI.g T.p_QI.k T.p_QI.b .nil Z2 ?_ | refine Q8 (qz (by kernel_rfl)) (by rfl) (by rfl) (by rfl) (CompSc.mk' (tn:=["place"]) (cn:=["cells"]) (js:=[0]) (osc:=defScope Ud) (oN:=["cells", "script", "many", "n", "some", "blocks", "homes", "ways", "place", "row", "sign", "cell"]) (by rfl) (by rfl) (by rfl) (by decide +kernel)) ?_ (fun C s₂ H₂ fp => ?_) (fun C s₂ H₂ fp => ?_) (fun C s₂ H₂ fp => ?_) | refine X3 (Zjv (cA:=⟨t.c,K⟩) (hr.units)) ?_ ?_ (X2 _) | refine Zi9 ?_ | refine Z8 ((ZlK T).mono (by decide)) hr (by rfl) T.p_QJ.g T.p_QJ.k T.p_QJ.b .nil Z2 ?_ | refine Z8 ((ZlS T).mono (by decide)) hr (by rfl) T.p_QO.g T.p_QO.k T.p_QO.b .nil Z2 ?_ | refine Z8 ((ZlT T).mono (by decide)) hr (by rfl) T.p_QQ.g T.p_QQ.k T.p_QQ.b .nil Z2 ?_ | refine Z8 ((ZlV T).mono (by decide)) hr (by rfl) T.p_QP.g T.p_QP.k T.p_QP.b .nil Z2 ?_ | refine Z8 ((ZlI T).mono (by decide)) hr (by rfl) T.g_QS T.k_QS T.b_QS .nil Z2 ?_ | exact ZcA (v:=.ty "int") (by rfl) T.n_int boot_int rfl | exact ZcA (v:=.ty "bool") (by rfl) T.n_bool boot_bool rfl | refine Zjc ?_ | refine ZgP (ZfZ (cA:=⟨t.c,K⟩) (hr.units)) ?_ ?_ (X2 _) | refine Zja ?_ | refine Zi4 ?_ | refine Zi5 ?_ | refine Zi6 ?_ | refine PW.pt ?_)
theorem VEc{q r:Ql}{ε:EN->Option D}(h:VE G ow te q ε)(e:q=r):VE G ow te r ε:=e▸h
theorem exS{α β:Type}{p:α->Prop}{q:α->β->Prop}{a:α}{b:β}(h:q a b)(g:p a):∃a,p a/\∃b,q a b:=⟨a,g,b,h⟩
theorem Zne{α:Type}{p q:α->Prop}{a:α}(h:q a)(g:p a):∃a,p a/\q a:=⟨a,g,h⟩
theorem vkN{q:Ql}{ε:EN->Option D}(h:VE G ow te q ε)(e:q = .cl\/q = .tp):VF G ow (tCB rLstN (Zy te tNil)) (Y6 ε):=Zfr e h
seal L2.OpR L2.IxR L2.CallR PySem.compareOp PySem.binaryOp Yv XI Jd Q5 VE VF VA VT VI VG VGs Za eC eOp Zb eNil Zo ZD eCB Zn ZV XH Xi Xh Vh Xj eBM eLM Vl Y6 xB YB xOr XG ZF Zr Zj ZY Zz gsNil addX subD mulX fdivW modW eqD neD ZJ inD ixD lenD minD maxD joinD ZM minQD lindexD Vm
local macro_rules | `(tactic| ac_rfl) => `(tactic| repeat' first | refine' VEc (VN _) ?_ | refine' UC ?_ ?_ | refine' VEc (ZmG rfl rfl) ?_ | exact UB | refine' VEc (YY Zk0 ?_ ?_) ?_ | exact ZcP _ (by rfl) (by rfl) | refine' VEc (Q1 [] (by rfl) ?_) ?_ | refine' VEc (YY Zhd ?_ ?_) ?_ | refine' Zm8 ?_ | refine' ZjF ?_ | refine' VEc (YY Zhi ?_ ?_) ?_ | refine' VEc (UD ZjH ?_) ?_ | refine' Zg8 ?_ ZmH | refine' VEc (YY ZeO ?_ ?_) ?_ | refine' ZeM _ (by rfl) (by rfl) ?_ | refine' VEc (ZjG ?_) ?_ | refine' VEc (YY ZkX ?_ ?_) ?_ | refine' VEc (YY Zjz ?_ ?_) ?_ | refine' Zf2 ?_ | refine' VEc (ZeL ?_) ?_ | refine' VEc (YY Zhj ?_ ?_) ?_ | refine' VEc (Zju _ (by rfl)) ?_ | exact Zg7 | refine' ZjK (K:=K) ?_ | refine' ZcQ (by rfl) ?_ ?_ ?_ ?_ | exact Zf1 | refine' vt_b ?_ | refine' VEc (UD ZjI ?_) ?_ | exact Zfw | refine' Zk1 ?_ ?_ | refine' VEc (UD Zhm ?_) ?_ | refine' ZjB ?_ ?_ | refine' VEc (Zk6 (K:=K) ZeT ?_ ?_) ?_ | refine' ZeR [] (by rfl) ?_ | refine' VEc (ZjE ?_) ?_ | refine' VEc (ZjC ?_ ?_) ?_ | exact Ze3 | refine' ZeP (Or.inl rfl) ?_ | refine' VEc (Zck ?_ ?_) ?_ | refine' VEc (ZeY (Or.inr rfl) ?_ ?_) ?_ | refine' VEc (UD ZjJ ?_) ?_ | refine' Zg9 ?_ Zm9 | refine' VEc (YY Zjy ?_ ?_) ?_ | refine' VEc (Zk2 (K:=K) Zhc ?_ ?_) ?_ | refine' VEc (Zg4 ?_) ?_ | refine' VEc (YY ZkZ ?_ ?_) ?_ | refine' Zcn ?_ | refine' ZjQ ?_ ?_ | refine' VEc (YY ZkY ?_ ?_) ?_ | refine' ZjA ?_ | refine' VEc (Zf3 (c:=.ty _) (fun _ h => h) T.isi_int ?_) ?_ | refine' VEc (Zf3 (c:=.ty _) (fun _ h => h) T.isi_bool ?_) ?_ | refine' VEc (ZjD ?_) ?_ | refine' vkN ?_ ?_ | refine' VEc (VF.cl ?_) ?_ | rfl | exact Or.inl rfl | exact Or.inr rfl)
theorem vc(d:D)(hs:Zu d=true:=by rfl):VE G ow (tC (val d)) .cl (eC d):=ZmG hs rfl
section
variable{P:Program}{w:World}{K:Frag}{mg:Str->Option Value}{base:Heap}{t:Adr}
theorem ZlC (T:Txt K mg t) {fo:Obj} {cl:List (Str×Addr)} {v1:V} (hf:base.get? p=some fo) (hd:fo.data = .func (PySem.W.fnX "followers" "look_of.<locals>.followers" (defArgs YD) (defBody YD) (defScope YD) cl .none .none doc pm none (.ref c) ct)) (C:Caps base cl ["by_block"] [v1]):FnOk P w K mg base CX0 1 p (PySem.W.fnX "followers" "look_of.<locals>.followers" (defArgs YD) (defBody YD) (defScope YD) cl .none .none doc pm none (.ref c) ct) ["pair"] (spC ⟨t.c,K⟩ c "look_of.<locals>.followers" [v1] 1 V1):=by
 refine Fw.fn_F hf hd Zab C (by rfl) (by show 7<=7;decide) (λA outer s H hr => ?_)
 and_intros
theorem ZlD (T:Txt K mg t) {fo:Obj} {cl:List (Str×Addr)} {v1:V} (hf:base.get? p=some fo) (hd:fo.data = .func (PySem.W.fnX "followers" "look_of.<locals>.followers" (defArgs YD) (defBody YD) (defScope YD) cl .none .none doc pm none (.ref c) ct)) (C:Caps base cl ["by_block"] [v1]):FnOk P w K mg base CX0 2 t.a_QD t.d_QD ["begins", "followers"] (spF ⟨t.c,K⟩ p c "look_of.<locals>.followers" [v1] 1 1 UY):=by
 have G_QA:=(ZlC (P:=P) (w:=w) T hf hd C).mono (show 1<=1 by decide);refine fn_F (j:=1) (n:=1) (l:=[none,some (.ref p),some v1]) (φ:=V2) T.p_QD.f Zlg (by conv=>lhs;whnf) (by conv=>lhs;whnf) rfl 'b' rfl (by show 3<=6;decide) (λi y h1 h2 h3 => ?_) (λcdv A outer s H E oc hoc hr => ?_) rfl
 . have h2:i<3:=h2
   have:i=2:=by omega
   rcases this with rfl<;>(cases h3;intro z;rcases z with z|z|z<;>exact absurd z (by decide +kernel))
 refine' exS (b:=[]) ((Zk (VSm (ow1:=[3]) (ZeX 3 ?_ (by rfl) (by rfl) (by rfl) (by rfl))) (Zk (VSm (ow1:=[3,4]) (Yl 4 ?_)) (Zk (ZbK (ow:=[3,4]) ?_ (Zk (VSm (ow1:=[3,4]) (ZjO 5 4 (by rfl) (by rfl) (by rfl) (by rfl) (by rfl))) (ZX ?_ (Zk (ZeZ 3 (by rfl) (Zfa (i:=1) (by rfl) (Ze8 (j:=2) (by rfl) (by rfl) Zhq) ?_) ?_) (ZhD 4 (by rfl) ?_)) Yb))) (VS.frz (ow1:=[3]) 4 (VS.frz (ow1:=[]) 3 (ZU ?_))))))) ?_
 ac_rfl
 and_intros
theorem ZlE (T:Txt K mg t) {fo:Obj} {cl:List (Str×Addr)} {v1:V} (hf:base.get? p=some fo) (hd:fo.data = .func (PySem.W.fnX "followers" "look_of.<locals>.followers" (defArgs YD) (defBody YD) (defScope YD) cl .none .none doc pm none (.ref c) ct)) (C:Caps base cl ["by_block"] [v1]):FnOk P w K mg base CX0 3 t.a_QR t.d_QR ["begins", "followers"] (spF ⟨t.c,K⟩ p c "look_of.<locals>.followers" [v1] 1 1 V3):=by
 have G_QD:=(ZlD (P:=P) (w:=w) T hf hd C).mono (show 2<=2 by decide);refine Lg.fn_L (vc:=[v1]) (b:=3) T.p_QR.f Zlh (by conv=>lhs;whnf) (by conv=>lhs;whnf) rfl (by show 13<=13;decide) (λi y h1 h2 h3 => ?_) (λcdv A outer s H E oc hoc hr => ?_)
 . have h2:i<3:=h2
   have:i=2:=by omega
   rcases this with rfl<;>(cases h3;intro z;rcases z with z|z|z<;>exact absurd z (by decide +kernel))
 refine⟨E0,?_⟩
 and_intros
theorem ZlF(T:Txt K mg t):FnOk P w K mg base CX0 1 t.a_QF t.d_QF ["homes", "ways"] (spD ⟨t.c,K⟩ 2 UZ):=by
 refine Wb.fn_W T.p_QF.f Zli (by conv=>lhs;whnf) (by conv=>lhs;whnf) (by rfl) (by show 8<=8;decide) (λcdv A outer s H E hr => ?_)
 and_intros
theorem ZlG(T:Txt K mg t):FnOk P w K mg base CX0 2 t.a_QL t.d_QL ["homes", "ways"] (spD ⟨t.c,K⟩ 2 U0):=by
 refine Yw (φ:=Jv) T.p_QL.f Zlj (by conv=>lhs;whnf) (by conv=>lhs;whnf) (λcdv A outer s H E hr => ?_) rfl rfl;refine' exS (b:=[]) ((Zk (VSm (ow1:=[2]) (ZbR 2 ?_ (by rfl) (by rfl) (by rfl) (by rfl))) (Zk (ZQ ?_ ?_ (ZQ ?_ ?_ (ZQ ?_ ?_ (ZX ?_ (ZcZ 2 (by rfl) ?_ ?_) Yb)))) (VS.frz (ow1:=[]) 2 (ZU ?_))))) ?_
 ac_rfl
 and_intros
theorem ZlH(T:Txt K mg t):FnOk P w K mg base CX0 1 t.a_QB t.d_QB ["own"] (spD ⟨t.c,K⟩ 1 V4):=by
 refine Pb.fn_P T.p_QB.f Zlk (by conv=>lhs;whnf) (by conv=>lhs;whnf) (by rfl) (by show 4<=4;decide) (λcdv A outer s H E hr => ?_)
 and_intros
theorem ZlI(T:Txt K mg t):FnOk P w K mg base CX0 4 t.a_QS t.d_QS ["homes", "ways"] (spD ⟨t.c,K⟩ 2 XU):=by
 have G_QL:=(ZlG (P:=P) (w:=w) (base:=base) T).mono (k:=3) 'b';have G_QB:=(ZlH (P:=P) (w:=w) (base:=base) T).mono (k:=3) 'b';obtain⟨c0,hc0,NK⟩:=T.nk_look_of_followers;refine Zj0 (φ:=f_QS) T.f_QS Zll (by conv=>lhs;whnf) (by conv=>lhs;whnf) (λcdv A outer s H E hcdv hr => ?_) rfl rfl;refine⟨_,(ZbB (ZfK (i:=2) nq0 (by rfl) (by first|exact Or.inl rfl|exact Or.inr rfl) (Vb (by rfl) (CompSc.mk' (tn:=["own"]) (cn:=[]) (js:=[]) (osc:=defScope Y8) (oN:=["homes", "ways", "by_block", "followers"]) (by rfl) (by rfl) (by rfl) (by decide +kernel)) (ZmD (K:=K) (pv 1)) (λC s₂ H₂ fp=>ZcC (i:=0) nq1) (λC s₂ H₂ fp=>ZcI) (λC s₂ H₂ fp=>(Z8 (G_QB) hr (by rfl) T.p_QB.g T.p_QB.k T.p_QB.b .nil Z2 (Xc (pv 0) X5)))))
 (Ze7 (i:=3) (λp fo c oc hfo=>(ZcB (ZfJ (Ze5 (sp:=λvc=>spF ⟨t.c,K⟩ p c "look_of.<locals>.followers" vc 1 1 V3) (k:=3) (fr:=["by_block"]) (js:=[2]) (cl:=[("by_block",s.heap.objs.size+1)]) (λbase vc hf C=>by obtain⟨v1,rfl⟩:=Lg.cap1 C;obtain⟨doc,pm,ct,hfo⟩:=hfo;exact FnOk.mono (k:=3) (ZlE T hf (congrArg Obj.data hfo) C) 'b') hr (j2 _ jj) (j2 _ jj) (λ_=>rfl) Lg.inj1 (List.forall_mem_cons.mpr ⟨rfl,(λ_ z=>nomatch z)⟩) (λi y h=>match i,h with|0,h=>by cases h;exact⟨_,_,rfl,rfl,.inl rfl,.inr 's',rfl⟩|_+1,h=>by cases h) rfl (by rfl) T.p_QR.g T.p_QR.k T.p_QR.b (Xc (Z8 (G_QL) hr (by rfl) T.p_QL.g T.p_QL.k T.p_QL.b .nil Z2 (Xc (pv 0) (Xc (pv 1) X5))) (Xc (pv 3) X5)))))) NK T.tb_look_of_followers (hcdv.trans hc0) rfl nq0 (by rfl) (by rfl) (by rfl))),[],?_⟩
 unfold f_QS;exact(Zk (show VS _ _ [] _ _ _ _ from(Zw 2 (VF.cl (ZcQ (by rfl) (Zf2 (VN 1)) (ZcP 0) Zf1 (Q1 [] (by rfl) (UC (VN 0) UB))))))
 (Zht (ow:=[]) (i:=3) (by rfl) (λp fo c oc hfo=>(show VS _ [] [] [] [] _ _ from(ZU (Zfb (Zeb (j:=2) (by rfl) Ze9) (Zhs (Q1 [] (by rfl) (UC (VN 0) (UC (VN 1) UB))) (Zhr (i:=3) (by rfl) UB))))))))
theorem ZlJ(T:Txt K mg t):FnOk P w K mg base CX0 1 t.a_QG t.d_QG ["script", "k"] (spD ⟨t.c,K⟩ 2 ZS):=by
 refine Yw (φ:=ZmT) T.p_QG.f Zlm (by conv=>lhs;whnf) (by conv=>lhs;whnf) (λcdv A outer s H E hr => ?_) rfl rfl;refine' exS (b:=[]) ((Zk (ZX ?_ (ZU ?_) Yb) (ZU ?_))) ?_
 ac_rfl
 and_intros
theorem ZlK(T:Txt K mg t):FnOk P w K mg base CX0 1 t.a_QJ t.d_QJ ["script", "behind", "many"] (spD ⟨t.c,K⟩ 3 U1):=by
 refine Yw (φ:=Jw) T.p_QJ.f Zln (by conv=>lhs;whnf) (by conv=>lhs;whnf) (λcdv A outer s H E hr => ?_) rfl rfl;refine' exS (b:=[]) ((Zk (VSm (ow1:=[3]) (Yl 3 ?_)) (Zk (ZQ ?_ ?_ (Zk (VSm (ow1:=[3]) (Zw 5 ?_)) (Ja 3 (by rfl) ?_ ?_))) (VS.frz (ow1:=[]) 3 (ZU ?_))))) ?_
 ac_rfl
 and_intros
theorem ZlL(T:Txt K mg t):FnOk P w K mg base CX0 1 t.a_QN t.d_QN ["cell", "many"] (spD ⟨t.c,K⟩ 2 Vt):=by
 refine Yw (φ:=Jx) T.p_QN.f Zlo (by conv=>lhs;whnf) (by conv=>lhs;whnf) (λcdv A outer s H E hr => ?_) rfl rfl;refine' exS (b:=[]) ((Zk (VSm (ow1:=[]) (Zw 2 ?_)) (ZU ?_))) ?_
 ac_rfl
 and_intros
theorem ZlM(T:Txt K mg t):FnOk P w K mg base CX0 1 t.a_QC t.d_QC ["cell", "many"] (spD ⟨t.c,K⟩ 2 U2):=by
 refine Yw (φ:=Jy) T.p_QC.f Zlp (by conv=>lhs;whnf) (by conv=>lhs;whnf) (λcdv A outer s H E hr => ?_) rfl rfl;refine' exS (b:=[]) ((Zk (VSm (ow1:=[2]) (Yl 2 ?_)) (Zk (ZQ ?_ ?_ (Zk (VSm (ow1:=[2,4]) (Yl 4 ?_)) (Zk (ZQ ?_ ?_ (ZX ?_ (YH 4 (by rfl) ?_) (YH 4 (by rfl) ?_))) (VS.frz (ow1:=[2]) 4 (YH 2 (by rfl) ?_))))) (VS.frz (ow1:=[]) 2 (ZU ?_))))) ?_
 ac_rfl
 and_intros
theorem ZlN(T:Txt K mg t):FnOk P w K mg base CX0 1 t.a_QE t.d_QE ["fewest", "most"] (spD ⟨t.c,K⟩ 2 U3):=by
 refine Yw (φ:=Jz) T.p_QE.f Zlq (by conv=>lhs;whnf) (by conv=>lhs;whnf) (λcdv A outer s H E hr => ?_) rfl rfl;refine' exS (b:=[]) ((Zk (VSm (ow1:=[2]) (Yl 2 ?_)) (Zk (ZQ ?_ ?_ (Zk (VSm (ow1:=[2,4]) (Yl 4 ?_)) (Zk (ZX ?_ (Ja 4 (by rfl) ?_ ?_) Yb) (Zk (ZX ?_ (Ja 4 (by rfl) ?_ ?_) Yb) (VS.frz (ow1:=[2]) 4 (YH 2 (by rfl) ?_)))))) (VS.frz (ow1:=[]) 2 (ZU ?_))))) ?_
 ac_rfl
 and_intros
theorem ZlO(T:Txt K mg t):FnOk P w K mg base CX0 2 t.a_QK t.d_QK ["cell", "other"] (spD ⟨t.c,K⟩ 2 U4):=by
 refine Yw (φ:=JA) T.p_QK.f Zlr (by conv=>lhs;whnf) (by conv=>lhs;whnf) (λcdv A outer s H E hr => ?_) rfl rfl;refine' exS (b:=[]) ((Zk (ZX ?_ (Zk (VSm (ow1:=[]) (Zw 2 ?_)) (ZU ?_)) Yb) (Zk (VSm (ow1:=[]) (Zw 3 ?_)) (ZU ?_)))) ?_
 ac_rfl
 and_intros
theorem ZlP(T:Txt K mg t):FnOk P w K mg base CX0 1 t.a_QM t.d_QM ["marks", "ways", "room", "q"] (spD ⟨t.c,K⟩ 4 U5):=by
 refine Yw (φ:=JB) T.p_QM.f Zls (by conv=>lhs;whnf) (by conv=>lhs;whnf) (λcdv A outer s H E hr => ?_) rfl rfl;refine' exS (b:=[]) ((Zk (VSm (ow1:=[]) (Zw 4 ?_)) (Zk (ZQ ?_ ?_ (Zk (VSm (ow1:=[6]) (Yl 6 ?_)) (Zk (ZQ ?_ ?_ (ZQ ?_ ?_ (ZX ?_ (YH 6 (by rfl) ?_) Yb))) (VS.frz (ow1:=[]) 6 (VSm (ow1:=[]) (Zw 4 ?_)))))) (ZU ?_)))) ?_
 ac_rfl
 and_intros
theorem ZlQ(T:Txt K mg t):FnOk P w K mg base CX0 2 t.a_QH t.d_QH ["ground", "base", "cell"] (spD ⟨t.c,K⟩ 3 U7):=by
 refine Yw (φ:=JC) T.p_QH.f Zlt (by conv=>lhs;whnf) (by conv=>lhs;whnf) (λcdv A outer s H E hr => ?_) rfl rfl;refine' exS (b:=[]) ((Zk (VSm (ow1:=[]) (Zw 3 ?_)) (Zk (ZQ ?_ ?_ (Zk (VSm (ow1:=[5]) (Yl 5 ?_)) (Zk (ZQ ?_ ?_ (Zk (VSm (ow1:=[5]) (Zw 7 ?_)) (YH 5 (by rfl) ?_))) (VS.frz (ow1:=[]) 5 (Zk (VSm (ow1:=[]) (Zw 8 ?_)) (Zk (ZX ?_ (ZU ?_) Yb) (ZX ?_ (VSm (ow1:=[]) (Zw 3 ?_)) Yb))))))) (ZU ?_)))) ?_
 ac_rfl
 and_intros
theorem ZlR(T:Txt K mg t):FnOk P w K mg base CX0 1 t.a_QI t.d_QI ["base", "choices", "n", "depth", "cells"] (spD ⟨t.c,K⟩ 5 U8):=by
 refine Yw (φ:=JD) T.p_QI.f Zlu (by conv=>lhs;whnf) (by conv=>lhs;whnf) (λcdv A outer s H E hr => ?_) rfl rfl;refine' exS (b:=[]) ((Zk (VSm (ow1:=[]) (Zw 5 ?_)) (Zk (ZQ ?_ ?_ (VSm (ow1:=[]) (Zw 5 ?_))) (Zk (VSm (ow1:=[7]) (Yl 7 ?_)) (Zk (VSm (ow1:=[7,8]) (Yl 8 ?_)) (Zk (ZQ ?_ ?_ (ZQ ?_ ?_ (Zk (VSm (ow1:=[7,8,11]) (Yl 11 ?_)) (Zk (ZQ ?_ ?_ (Zk (VSm (ow1:=[7,8,11]) (Zw 13 ?_)) (Zk (VSm (ow1:=[7,8,11]) (Zw 14 ?_)) (Zk (VSm (ow1:=[7,8,11]) (Zw 15 ?_)) (Zk (ZX ?_ (Zk (VSm (ow1:=[7,8,11]) (Zw 14 ?_)) (VSm (ow1:=[7,8,11]) (Zw 15 ?_))) Yb) (Zk (Ji ?_ ?_) (YH 11 (by rfl) ?_))))))) (VS.frz (ow1:=[7,8]) 11 (Zk (YH 7 (by rfl) ?_) (YH 8 (by rfl) ?_))))))) (VS.frz (ow1:=[7]) 8 (VS.frz (ow1:=[]) 7 (ZU ?_))))))))) ?_
 ac_rfl
 and_intros
theorem ZlS(T:Txt K mg t):FnOk P w K mg base CX0 3 t.a_QO t.d_QO ["script", "cells"] (spD ⟨t.c,K⟩ 2 U9):=by
 refine Yw (φ:=JE) T.p_QO.f Zlv (by conv=>lhs;whnf) (by conv=>lhs;whnf) (λcdv A outer s H E hr => ?_) rfl rfl;refine' exS (b:=[]) ((Zk (VSm (ow1:=[]) (Zw 2 ?_)) (Zk (VSm (ow1:=[]) (Zw 3 ?_)) (Zk (ZX ?_ (VSm (ow1:=[]) (Zw 3 ?_)) Yb) (Zk (VSm (ow1:=[]) (Zw 4 ?_)) (Zk (VSm (ow1:=[]) (Zw 5 ?_)) (Zk (VSm (ow1:=[]) (Zw 6 ?_)) (Zk (ZX ?_ (VSm (ow1:=[]) (Zw 6 ?_)) Yb) (Zk (ZX ?_ (VSm (ow1:=[]) (Zw 6 ?_)) Yb) (Zk (ZX ?_ (VSm (ow1:=[]) (Zw 6 ?_)) Yb) (Zk (Ji ?_ ?_) (ZU ?_)))))))))))) ?_
 ac_rfl
 and_intros
theorem ZlT(T:Txt K mg t):FnOk P w K mg base CX0 2 t.a_QQ t.d_QQ ["cells", "script"] (spD ⟨t.c,K⟩ 2 V5):=by
 refine Yw (φ:=JF) T.p_QQ.f Zlw (by conv=>lhs;whnf) (by conv=>lhs;whnf) (λcdv A outer s H E hr => ?_) rfl rfl;refine' exS (b:=[]) ((Zk (VSm (ow1:=[]) (Zw 2 ?_)) (Zk (VSm (ow1:=[]) (Zw 3 ?_)) (Zk (VSm (ow1:=[]) (Zw 4 ?_)) (Zk (VSm (ow1:=[]) (Zw 5 ?_)) (Zk (VSm (ow1:=[]) (Zw 6 ?_)) (Zk (VSm (ow1:=[7]) (Yl 7 ?_)) (Zk (ZQ ?_ ?_ (Zk (VSm (ow1:=[7,9]) (Yl 9 ?_)) (Zk (ZQ ?_ ?_ (Zk (VSm (ow1:=[7,9]) (Zw 11 ?_)) (YH 9 (by rfl) ?_))) (VS.frz (ow1:=[7]) 9 (YH 7 (by rfl) ?_))))) (VS.frz (ow1:=[]) 7 (ZU ?_)))))))))) ?_
 ac_rfl
 and_intros
theorem ZlU(T:Txt K mg t):FnOk P w K mg base CX0 1 t.a_QT t.d_QT ["ways", "pairs", "unlike"] (spL ⟨t.c,K⟩ 3 V6):=by
 refine Zk4 (φ:=JG) T.p_QT.f Zlx (by conv=>lhs;whnf) (by conv=>lhs;whnf) (λcdv A outer s H E hr => ?_) rfl rfl;refine' Zne ((ZcU (VSm (ow1:=[3]) (ZbR 3 ?_ (by rfl) (by rfl) (by rfl) (by rfl))) (ZcU (ZQ ?_ ?_ (ZQ ?_ ?_ (ZQ ?_ ?_ (ZX ?_ (ZcZ 3 (by rfl) ?_ ?_) Yb)))) (ZeQ ?_)))) ?_
 ac_rfl
 and_intros
theorem ZlV(T:Txt K mg t):FnOk P w K mg base CX0 2 t.a_QP t.d_QP ["homes", "ways"] (spD ⟨t.c,K⟩ 2 V7):=by
 refine Yw (φ:=JH) T.p_QP.f Zly (by conv=>lhs;whnf) (by conv=>lhs;whnf) (λcdv A outer s H E hr => ?_) rfl rfl;refine' exS (b:=[]) ((Zk (VSm (ow1:=[2]) (Yl 2 ?_)) (Zk (ZQ ?_ ?_ (ZQ ?_ ?_ (ZX ?_ (YH 2 (by rfl) ?_) Yb))) (VS.frz (ow1:=[]) 2 (Zk (VSm (ow1:=[2]) (Yl 2 ?_)) (VS.frz (ow1:=[]) 2 (Zk (VSm (ow1:=[]) (Zw 5 ?_)) (Zk (ZbK (ow:=[]) ?_ (VS.frzN 2 (Zk (VSm (ow1:=[]) (Zw 5 ?_)) (Zk (ZX ?_ (ZU ?_) Yb) (VSm (ow1:=[2]) (Yl 2 ?_)))) (by rfl) (by rfl) (by rfl) (by rfl))) (ZU ?_))))))))) ?_
 ac_rfl
 and_intros
theorem ZlW(T:Txt K mg t):FnOk P w K mg base CX0 5 t.a_QU t.d_QU ["script"] (spD ⟨t.c,K⟩ 1 Qa):=by
 refine Yw (φ:=JI) T.p_QU.f Zlz (by conv=>lhs;whnf) (by conv=>lhs;whnf) (λcdv A outer s H E hr => ?_) rfl rfl;refine' exS (b:=[]) ((Zk (VSm (ow1:=[]) (Zw 1 ?_)) (Zk (ZX ?_ (Zk (VSm (ow1:=[]) (Zw 2 ?_)) (Zk (VSm (ow1:=[]) (Zw 3 ?_)) (Zk (VSm (ow1:=[]) (Zw 4 ?_)) (VSm (ow1:=[]) (Zw 5 ?_))))) (Zk (Ji ?_ ?_) (VSm (ow1:=[]) (Zw 5 ?_)))) (Zk (VSm (ow1:=[]) (Zw 6 ?_)) (Zk (ZX ?_ (ZU ?_) Yb) (ZU ?_)))))) ?_
 ac_rfl
 and_intros
end
end K41
namespace K41
open DL L2
theorem Zdd(ns:List Int)(k:Nat):ZS [.lst (ns.map D.int),.int k]=some (.int (ns.getD k 0)):=by
 have t:xB (eOp (ZJ λi j=>decide (i<j)) (Za 1) (eCB lenD 'n')) [some (.lst (ns.map D.int)),some (.int k)]=some (decide ((k:Int)<(ns.length:Nat))):=ZH ((Zg (x:=.int k) (y:=.int (ns.length:Nat)) rfl ((ZA (Zf (x:=.lst (ns.map D.int)) rfl nil_of)).trans (len_lst.trans (by rw [ja])))).trans rfl);refine Yi (δ:=[some (.lst (ns.map D.int)),some (.int k)]) rfl ?_
 by_cases h:k<ns.length
 . exact XS ((ZZ (by rw [t,jN 'a'])).trans (ZR ((Zg (x:=.lst (ns.map D.int)) (y:=.int k) rfl rfl).trans (Vr h))))
 . have hz:ns.getD k 0=0:=by rw [jv,yq 'a'];rfl
   rw [hz];exact(Zh ((Z0 (by rw [t,jF 'a'])).trans rfl)).trans (ZR rfl)
abbrev nD(a:Nat):D := .int (a:Int)
abbrev AD(l:List Nat):D := .lst (l.map nD)
abbrev IL(w:List Int):D := .lst (w.map D.int)
theorem Y9{ε:EN->Option D}{δ:EN}{xs:List D}(h:ε δ=some (.lst xs)):ZF ε δ=some xs:=by
 unfold ZF;rw [h]
theorem Zfx{ε:EN->Option D}{δ:EN}{xs:List D}(h:ε δ=some (.tup xs)):ZF ε δ=some xs:=by
 unfold ZF;rw [h]
theorem ZP{i j:Int}(h0:0<j):modW (.int i) (.int j)=some (.int (i.fmod j)):=ZhM 'a'
theorem Yz{i j:Int}(h0:0<j)(h1:j<=1000000):fdivW (.int i) (.int j)=some (.int (i.fdiv j)):=Zfo 'a' (Zlc (by
 have:j.natAbs<=1000000:=by omega
 exact jL this (by decide +kernel)))
theorem Zj9(i j:Int):subD (.int i) (.int j)=some (.int (i-j)):=rfl
theorem Zka(n:Nat):Ym 0 1 n=(List.range n).map nD:=by
 unfold Ym;refine qV λk _=>congrArg D.int ?_
 omega
theorem Yo{α:EN->Option (List D)}{δ:EN}{m:Nat}(h:α δ=some [.int (m:Int)])(hm:m<=100000):Zr α δ=some ((List.range m).map nD):=by
 rw [<-Zka];exact(Zj3 (j:=(m:Int)) h 'a' 'a').trans (by rw [j0])
theorem Z4(i:Int){m:Nat}(h:0<m):∃a:Nat,i.fmod (m:Int)=(a:Int)/\a<m:=by
 obtain⟨b0,b1⟩:=ZhN (a:=i) (b:=(m:Int)) 'a';obtain⟨a,ha⟩:=Zge b0;exact⟨a,ha,by omega⟩
theorem JJ{i:Nat}{κ ε:EN->Option D}{δ:EN}{xs:List D}{k:Nat}{x:D}(hk:k<xs.length)(hv:Za i δ=some (.lst xs))(h1:κ δ=some (nD k))(h2:ε δ=some x):YQ i κ ε δ=some (.nx (δ.set i (some (.lst (xs.set k x))))):=by
 unfold YQ;rw [h2,hv,h1];dsimp only;rw [ZhP hk]
theorem XV{α:Type}{γ:D->EN->Option EN}{ε:EN->Option D}{δ0:EN}(g f:α->D):∀(xs:List α),(∀x∈xs,∃δ1,γ (g x) δ0=some δ1/\ε δ1=some (f x))->Yh γ (λ_=>some true) ε δ0 (xs.map g)=some (xs.map f)
 | [],_=>rfl
 |x::xs,h=>by
  obtain⟨δ1,h1,h2⟩:=h x jj;rw [jp,jp];unfold Yh;rw [h1];dsimp only;rw [h2,XV g f xs λy hy=>h y (jq _ hy)]
theorem Zbf{α:Type}{γ:D->EN->Option EN}{τ:EN->Option Bool}{ε:EN->Option D}{δ0:EN}(g f:α->D)(p:α->Bool):∀(xs:List α),(∀x∈xs,∃δ1,γ (g x) δ0=some δ1/\τ δ1=some (p x)/\ε δ1=some (f x))->Yh γ τ ε δ0 (xs.map g)=some ((xs.filter p).map f)
 | [],_=>rfl
 |x::xs,h=>by
  obtain⟨δ1,h1,h2,h3⟩:=h x jj;have ih:=Zbf g f p xs λy hy=>h y (jq _ hy)
  rw [jp];unfold Yh;rw [h1];dsimp only;rw [h2];cases hp:p x with
  |false=>
   rw [List.filter_cons_of_neg (by rw [hp];exact jy)];exact ih
  |true=>
   rw [List.filter_cons_of_pos hp,jp];dsimp only;rw [h3,ih]
noncomputable def fo1:EN->Option D:=(eOp addX (eOp mulX (Za 0) (Za 0)) (Za 0))
noncomputable def fo2:EN->Option Out:=(Ze 5 (eOp modW (eOp subD (Za 4) (Za 1)) (Za 2)))
noncomputable def fo3:EN->Option D:=(eOp modW (eOp addX (eOp mulX (eOp ixD (Za 3) (Za 5)) (eC (.int 31))) (eOp ixD (Za 0) (Za 4))) (eC (.int 1000000000039)))
theorem Zeq:Jw=Zd (Ze 3 (ZV (Zr 'r') (Zj 0) (λ_=>some true) fo1 1 [])) (Zd (Zq (Zr (Zb (Za 1) (Zb (eCB lenD 'n') eNil))) (Zj 4) (Zd fo2 (YQ 3 (Za 5) fo3))) (Zt (Za 3))):=rfl
abbrev FE(ns:List Int)(v3 v4 v5:Option D):EN:=[some (IL ns),some (.int 4),some (.int 20),v3,v4,v5]
theorem Zkb(ns:List Int)(hl:ns.length<=63):∃cs:List Int,cs.length=20/\U1 [IL ns,.int 4,.int 20]=some (IL cs):=by
 have hc:Yh (Zj 0) (λ_=>some true) fo1 [none] ((List.range 20).map nD)=some ((List.range 20).map λk:Nat=>D.int ((k:Int)*k+k)):=XV nD _ _ λk hk=>⟨[some (nD k)],rfl,(Zg (y:=nD k) ((Zg (x:=nD k) (y:=nD k) rfl rfl).trans (Xm 'a' (by have:=jX.mp hk;omega))) rfl).trans (add_int _ _)⟩
 have t1:Ze 3 (ZV (Zr 'r') (Zj 0) (λ_=>some true) fo1 1 []) (FE ns none none none)=some (.nx (FE ns (some (IL ((List.range 20).map λk:Nat=>(k:Int)*k+k))) none none)):=by
  refine Zp ((XT (Yo (m:=20) rfl 'b') rfl hc (by rw [ja,jC];decide)).trans ?_);rw [IL,jZ];rfl
 obtain⟨δ',g,cs,v4,v5,e,hcs⟩:=Zbc (γ:=Zj 4) (φ:=Zd fo2 (YQ 3 (Za 5) fo3)) (λδ=>∃cs v4 v5,δ=FE ns (some (IL cs)) v4 v5/\cs.length=20) (Ym 4 1 ((ns.length:Int)-4).toNat) (FE ns (some (IL ((List.range 20).map λk:Nat=>(k:Int)*k+k))) none none) ⟨_,_,_,rfl,by simp⟩ (by
  rintro x hx δ ⟨cs,v4,v5,rfl,hcs⟩
  obtain⟨k,hk,rfl⟩:=ZhL hx;have hk3:4+k<ns.length:=by omega
  rw [show D.int (4+(k:Int)*1)=nD (4+k)from congrArg D.int 'a'];obtain⟨a,ha,hal⟩:=Z4 (((4+k:Nat):Int)-4) (m:=20) 'b';have tA:fo2 (FE ns (some (IL cs)) (some (nD (4+k))) v5)=some (.nx (FE ns (some (IL cs)) (some (nD (4+k))) (some (nD a)))):=Zp ((Zg (y:=.int 20) ((Zg (x:=nD (4+k)) (y:=.int 4) rfl rfl).trans (Zj9 _ _)) rfl).trans ((ZP 'b').trans (congrArg (λz=>some (D.int z)) (show(((4+k:Nat):Int)-4).fmod 20=(a:Int)from ha))))
  have eV:fo3 (FE ns (some (IL cs)) (some (nD (4+k))) (some (nD a)))=some (.int ((cs.getD a 0*31+ns.getD (4+k) 0).fmod 1000000000039)):=(Zg (y:=.int 1000000000039) ((Zg ((Zg (y:=.int 31) ((Zg (x:=IL cs) (y:=nD a) rfl rfl).trans (Vr 'a')) rfl).trans (Xm 'a' 'a')) ((Zg (x:=IL ns) (y:=nD (4+k)) rfl rfl).trans (Vr hk3))).trans (add_int _ _)) rfl).trans (ZP 'b')
  generalize (cs.getD a 0*31+ns.getD (4+k) 0).fmod 1000000000039=y at eV;refine⟨FE ns (some (IL cs)) (some (nD (4+k))) v5,rfl,FE ns (some (IL (cs.set a y))) (some (nD (4+k))) (some (nD a)),?_,_,_,_,rfl,by rw [jU];exact hcs⟩;rw [Zh tA];refine(JJ (xs:=cs.map D.int) (k:=a) (by rw [ja];omega) rfl rfl eV).trans ?_;have:(cs.map D.int).set a (D.int y)=(cs.set a y).map D.int:=by rw [List.map_set]
  rw [this];rfl)
 subst e;refine⟨cs,hcs,Yi (δ:=FE ns none none none) rfl ?_⟩;have hi:Zr (Zb (Za 1) (Zb (eCB lenD 'n') eNil)) (FE ns (some (IL ((List.range 20).map λk:Nat=>(k:Int)*k+k))) none none)=some (Ym 4 1 ((ns.length:Int)-4).toNat):=Zj4 (i:=4) (j:=(ns.length:Int)) (Zf (x:=.int 4) rfl (Zf ((ZA (Zf (x:=IL ns) rfl nil_of)).trans (len_lst.trans (by rw [ja]))) nil_of)) 'a' 'a' 'a' 'a'
 rw [Zeq,Zh t1,Zh (ZO hi g)];exact ZR rfl
def SG:List Nat:=[97,98,99,100,101,102,103,104,105,106,107,108,109,110,111,112,113,114,115,116,117,118,119,120,121,122,48,49,50,51,52,53,54,55,56,57]
def mk1(c:Int)(k:Nat):Nat:=SG.getD ((c+5*k).fmod 36).toNat 0
def mks(c:Int)(m:Nat):List Nat:=(List.range m).map (mk1 c)
noncomputable def mkE:EN->Option D:=(eOp ixD (Za 1) (eOp modW (eOp addX (Za 2) (eOp mulX (eC (.int 5)) (Za 0))) (eCB lenD (Zb (Za 1) eNil))))
theorem Zfy:Jx=Zd (Ze 2 (eC (.str SG))) (Zt (eBM joinD (eC (.str [])) (Zb (ZV (Zr (Zb (Za 1) eNil)) (Zj 0) (λ_=>some true) mkE 1 [2,0]) eNil))):=rfl
theorem ZlX:∀a,a<36->SG[a]? = some (SG.getD a 0):=by decide
theorem Zkc:∀a,a<36->∀b,b<36->SG.getD a 0=SG.getD b 0->a=b:=by decide
theorem ZhU:∀a,a<36->SG.getD a 0<1114112:=by decide
theorem ZbX(c:Int)(m:Nat)(hm:m<=3):Vt [.int c,nD m]=some (.str (mks c m)):=by
 have hc:Yh (Zj 0) (λ_=>some true) mkE [none,some (.str SG),some (.int c)] ((List.range m).map nD)=some ((List.range m).map λk=>D.str [mk1 c k]):=XV nD _ _ λk hk=>⟨[some (nD k),some (.str SG),some (.int c)],rfl,by
  obtain⟨a,ha,hal⟩:=Z4 (c+5*k) (m:=36) 'b';have ha':(c+5*(k:Int)).fmod 36=(a:Int):=ha;have e1:eOp modW (eOp addX (Za 2) (eOp mulX (eC (.int 5)) (Za 0))) (eCB lenD (Zb (Za 1) eNil)) [some (nD k),some (.str SG),some (.int c)]=some (nD a):=(Zg (x:=.int (c+5*(k:Int))) (y:=.int 36) ((Zg (x:=.int c) rfl ((Zg (x:=.int 5) (y:=nD k) rfl rfl).trans (Xm 'a' (by have:=jX.mp hk;omega)))).trans (add_int _ _)) ((ZA (Zf (x:=.str SG) rfl nil_of)).trans ((len_str 'b').trans rfl))).trans ((ZP 'b').trans (by rw [ha']))
  refine(Zg (x:=.str SG) rfl e1).trans ((ix_str (ZlX a hal) 'b').trans ?_);unfold mk1;rw [ha',j0]⟩
 refine Yi (δ:=[some (.int c),some (nD m),none]) rfl ?_;have t1:Ze 2 (eC (.str SG)) [some (.int c),some (nD m),none]=some (.nx [some (.int c),some (nD m),some (.str SG)]):=rfl;rw [Zfy,Zh t1];refine ZR ((Zld (s:=[]) rfl (Zf (XT (Yo (m:=m) rfl 'a') rfl hc (by rw [ja,jC];omega)) nil_of)).trans ?_);exact Zej (mk1 c) (List.range m) (by rw [jC,qE];omega)
theorem Zde(c:Int)(m:Nat):(mks c m).length=m:=by unfold mks;simp
theorem JK(c:Int)(k:Nat):∃a:Nat,a<36/\((c+5*k).fmod 36)=(a:Int)/\mk1 c k=SG.getD a 0:=by
 obtain⟨a,ha,hal⟩:=Z4 (c+5*k) (m:=36) 'b';have ha':(c+5*(k:Int)).fmod 36=(a:Int):=ha;exact⟨a,hal,ha',by unfold mk1;rw [ha',j0]⟩
theorem Zgm(c:Int){m:Nat}(hm:m<=3):(mks c m).Nodup:=by
 unfold mks;refine List.pairwise_map.mpr (List.pairwise_lt_range.imp_of_mem λ{a b} ha hb hab e => ?_);have:=jX.mp hb;obtain⟨x,hx,ex,e1⟩:=JK c a;obtain⟨y,hy,ey,e2⟩:=JK c b;rw [e1,e2]at e;have:=Zkc x hx y hy e;subst this;rw [<-ey]at ex;rw [qG _ 'b',qG _ 'b']at ex;omega
theorem ZbY(c:Int)(m:Nat):V0 (mks c m):=λx hx=>by
 unfold mks at hx;obtain⟨k,_,rfl⟩:=jE.mp hx;obtain⟨a,hal,_,e⟩:=JK c k;rw [e];exact ZhU a hal
theorem Zgn{a b:EN->Option Bool}{δ:EN}{x y:Bool}(h1:a δ=some x)(h2:b δ=some y):xOr a b δ=some (x||y):=by
 cases x with
 |true=>exact ZhJ h1
 |false=>exact Zj2 h1 h2
theorem Zdf{a b:EN->Option Bool}{δ:EN}{x y:Bool}(h1:a δ=some x)(h2:b δ=some y):YB a b δ=some (x&&y):=by
 cases x with
 |true=>exact Zfn h1 h2
 |false=>exact ZhK h1
abbrev Gw:=List (List (Option Nat))
def gat(gw:Gw)(r k:Nat):Option Nat:=(gw.getD r []).getD k none
def wyD:Option Nat->D
 |none => .non
 |some t=>nD t
def grD(row:List (Option Nat)):D := .tup (row.map wyD)
def gwD(gw:Gw):D := .tup (gw.map grD)
abbrev gD(mk:List Nat)(gw:Gw)(x:Int):D := .tup [.str mk,gwD gw,.int x]
structure GOk(mk:List Nat)(gw:Gw):Prop where
 nd:mk.Nodup
 m1:1<=mk.length
 m3:mk.length<=3
 cd:V0 mk
 r1:1<=gw.length
 r4:gw.length<=4
 row:∀r∈gw,r.length=mk.length
 lt:∀r k t,gat gw r k=some t->t<gw.length
 cyc:∀r,r<gw.length->∃k,k<mk.length/\gat gw r k=some ((r+1) % gw.length)
theorem Zdg{R M:Nat}(f:Nat->Nat->Option Nat){r k:Nat}:gat ((List.range R).map λr=>(List.range M).map (f r)) r k=if r<R/\k<M then f r k else none:=by
 unfold gat
 by_cases hr:r<R
 . have e : (((List.range R).map fun r => (List.range M).map (f r)).getD r []) = (List.range M).map (f r) := by
    rw [jv,ji,j1 hr];rfl
   rw [e,jv,ji]
   by_cases hk:k<M
   . rw [j1 hk,je ⟨hr,hk⟩];rfl
   . rw [yq (by simpa using hk),jg λz=>hk z.2];rfl
 . have e : (((List.range R).map fun r => (List.range M).map (f r)).getD r []) = [] := by
    rw [jv,yq (by simpa using hr)];rfl
   rw [e,jg λz=>hr z.1];rfl
def lwP(c:Int)(m r k:Nat):Bool:=decide (0<(c.fdiv (3*r+k+1)).fmod 3)||decide ((k:Int)=((r+1:Nat):Int).fmod m)
def lwF(c:Int)(m r k:Nat):Option Nat:=if lwP c m r k=true then some k else none
def Z5(c:Int)(m r j:Nat):List (Option Nat):=(List.range j).map (lwF c m r)
def Z6(c:Int)(m i:Nat):Gw:=(List.range i).map λr=>Z5 c m r m
noncomputable def lwT:EN->Option Bool:=(xOr (xB (eOp (ZJ λi j=>decide (j<i)) (eOp modW (eOp fdivW (Za 0) (eOp addX (eOp addX (eOp mulX 't' (Za 3)) (Za 5)) 'd')) 't') 'm')) (xB (eOp eqD (Za 5) (eOp modW (eOp addX (Za 3) 'd') (Za 1)))))
noncomputable def lwI:EN->Option Out:=(sIf lwT (ZE 4 (Za 5)) (ZE 4 (eC .non)))
noncomputable def lwB:EN->Option Out:=(Zd (Ze 4 (Zo eNil)) (Zd (Zq (Zr (Zb (Za 1) eNil)) (Zj 5) lwI) (ZE 2 (eCB ZM (Zb (Za 4) eNil)))))
theorem ZhV:Jy=Zd (Ze 2 (Zo eNil)) (Zd (Zq (Zr (Zb (Za 1) eNil)) (Zj 3) lwB) (Zt (eCB ZM 'r'))):=rfl
abbrev WE(c:Int)(m:Nat)(v2 v3 v4 v5:Option D):EN:=[some (.int c),some (nD m),v2,v3,v4,v5]
theorem ZhW(c:Int){m r:Nat}(hm:m<=3)(h1:1<=m)(hr:r<m)(v2 v5:Option D):∃w5,Zq (Zr (Zb (Za 1) eNil)) (Zj 5) lwI (WE c m v2 (some (nD r)) (some 'p') v5)=some (.nx (WE c m v2 (some (nD r)) (some (.lst ((Z5 c m r m).map wyD))) w5)):=by
 obtain⟨δ',g,w5,e⟩:=YT (γ:=Zj 5) (φ:=lwI) (λk δ=>∃w5,δ=WE c m v2 (some (nD r)) (some (.lst ((Z5 c m r k).map wyD))) w5) ((List.range m).map nD) 0 (WE c m v2 (some (nD r)) (some 'p') v5) ⟨v5,rfl⟩ (by
  rintro k x δ hx ⟨w5,rfl⟩
  have hk:k<m:=by
   have:=(jt.mp hx).1
   rwa [ja,jC]at this
  rw [ji,j1 hk]at hx;cases hx;rw [jW];have e1:eOp addX (eOp addX (eOp mulX 't' (Za 3)) (Za 5)) 'd' (WE c m v2 (some (nD r)) (some (.lst ((Z5 c m r k).map wyD))) 'i')=some (.int (3*r+k+1)):=(Zg (y:=.int 1) ((Zg (y:=nD k) ((Zg (x:=.int 3) (y:=nD r) rfl rfl).trans (Xm 'a' 'a')) rfl).trans (add_int _ _)) rfl).trans (add_int _ _)
  have et:lwT (WE c m v2 (some (nD r)) (some (.lst ((Z5 c m r k).map wyD))) 'i')=some (lwP c m r k):=Zgn (ZH ((Zg (y:=.int 0) ((Zg (y:=.int 3) ((Zg (x:=.int c) rfl e1).trans (Yz 'a' 'a')) rfl).trans (ZP 'b')) rfl).trans rfl)) (ZH ((Zg (x:=nD k) (y:=.int (((r+1:Nat):Int).fmod m)) rfl ((Zg (y:=nD m) ((Zg (x:=nD r) (y:=.int 1) rfl rfl).trans (add_int _ _)) rfl).trans ((ZP 'a').trans (by rw [uh];rfl)))).trans (YS _ _)))
  have es:(Z5 c m r (k+1)).map wyD=(Z5 c m r k).map wyD++[wyD (lwF c m r k)]:=by
   unfold Z5;rw [qB,jm,jm];rfl
  have hl:((Z5 c m r k).map wyD).length<=1000000:=by unfold Z5;simp;omega
  refine⟨WE c m v2 (some (nD r)) (some (.lst ((Z5 c m r k).map wyD))) 'i',rfl,WE c m v2 (some (nD r)) (some (.lst ((Z5 c m r (k+1)).map wyD))) 'i',?_,_,rfl⟩;rw [es];unfold lwI lwF;cases hp:lwP c m r k with
  |true=>
   rw [hp]at et;exact(ZZ et).trans ((YM (xs:=(Z5 c m r k).map wyD) rfl rfl hl).trans rfl)
  |false=>
   rw [hp]at et;exact(Z0 et).trans ((YM (xs:=(Z5 c m r k).map wyD) rfl rfl hl).trans rfl))
 subst e;rw [ja,jC,jW]at g;exact⟨w5,ZO (Yo (m:=m) rfl 'a') g⟩
theorem last_ok(c:Int){m:Nat}(hm:m<=3)(h1:1<=m):U2 [.int c,nD m]=some (gwD (Z6 c m m)):=by
 obtain⟨δ',g,w3,w4,w5,e⟩:=YT (γ:=Zj 3) (φ:=lwB) (λr δ=>∃w3 w4 w5,δ=WE c m (some (.lst ((Z6 c m r).map grD))) w3 w4 w5) ((List.range m).map nD) 0 (WE c m (some 'p') none none none) ⟨none,none,none,rfl⟩ (by
  rintro r x δ hx ⟨w3,w4,w5,rfl⟩
  have hr:r<m:=by
   have:=(jt.mp hx).1
   rwa [ja,jC]at this
  rw [ji,j1 hr]at hx;cases hx;rw [jW];obtain⟨y5,hf⟩:=ZhW c hm h1 hr (some (.lst ((Z6 c m r).map grD))) w5;have t1:Ze 4 (Zo eNil) (WE c m (some (.lst ((Z6 c m r).map grD))) (some (nD r)) w4 w5)=some (.nx (WE c m (some (.lst ((Z6 c m r).map grD))) (some (nD r)) (some 'p') w5)):=Zp (Yc nil_of (by show 0<=1000;decide))
  have es:(Z6 c m (r+1)).map grD=(Z6 c m r).map grD++[grD (Z5 c m r m)]:=by
   unfold Z6;rw [qB,jm,jm];rfl
  refine⟨WE c m (some (.lst ((Z6 c m r).map grD))) (some (nD r)) w4 w5,rfl,WE c m (some (.lst ((Z6 c m (r+1)).map grD))) (some (nD r)) (some (.lst ((Z5 c m r m).map wyD))) y5,?_,_,_,_,rfl⟩;unfold lwB;rw [Zh t1,Zh hf,es];exact(YM (xs:=(Z6 c m r).map grD) (d:=grD (Z5 c m r m)) rfl ((ZA (Zf (x:=.lst ((Z5 c m r m).map wyD)) rfl nil_of)).trans rfl) (by unfold Z6;simp;omega)).trans rfl)
 subst e;rw [ja,jC,jW]at g;refine Yi (δ:=WE c m none none none none) rfl ?_;have t1:Ze 2 (Zo eNil) (WE c m none none none none)=some (.nx (WE c m (some 'p') none none none)):=Zp (Yc nil_of (by show 0<=1000;decide));rw [ZhV,Zh t1,Zh (ZO (Yo (m:=m) rfl 'a') g)];exact ZR ((ZA (Zf (x:=.lst ((Z6 c m m).map grD)) rfl nil_of)).trans rfl)
theorem Zkd(c d:Int){m:Nat}(hm:m<=3)(h1:1<=m):GOk (mks d m) (Z6 c m m):=by
 have hR:(Z6 c m m).length=m:=by unfold Z6;simp
 have ga:∀r k,gat (Z6 c m m) r k=if r<m/\k<m then lwF c m r k else none:=λr k=>Zdg (lwF c m)
 have hM:=Zde d m;refine⟨Zgm d hm,by omega,by omega,ZbY d m,by omega,by omega,λr hr => ?_,λr k t e => ?_,λr hr => ?_⟩
 . obtain⟨k,_,rfl⟩:=jE.mp hr
   unfold Z5;simp [hM]
 . rw [ga]at e
   split at e
   . rename_i h
     unfold lwF at e
     split at e
     . cases e;omega
     . cases e
   . cases e
 . rw [hR]at hr ⊢
   have hk:(r+1) % m<m:=Nat.mod_lt _ 'a';refine⟨(r+1) % m,by omega,?_⟩;rw [ga,je ⟨hr,hk⟩];unfold lwF;rw [je];unfold lwP;rw [Bool.or_eq_true];right;refine jN ?_;rw [qG _ 'a'];omega
def gpF(f s r k:Nat):Option Nat:=if k=0 then(if r=s then none else some (r+1))else if r<f then none else some 0
def Yp(f s i:Nat):Gw:=(List.range i).map λr=>(List.range 2).map (gpF f s r)
noncomputable def gp1:EN->Option Out:=(Ze 4 (Zo (Zb (eOp addX (Za 3) 'd') (Zb 'm' eNil))))
noncomputable def gp2:EN->Option Out:=(sIf (xB (eOp eqD (Za 3) (Za 1))) (YQ 4 'm' (eC .non)) sNext)
noncomputable def gp3:EN->Option Out:=(sIf (xB (eOp (ZJ λi j=>decide (i<j)) (Za 3) (Za 0))) (YQ 4 'd' (eC .non)) sNext)
noncomputable def gp4:EN->Option Out:=(ZE 2 (eCB ZM (Zb (Za 4) eNil)))
theorem Zke:Jz=Zd (Ze 2 (Zo eNil)) (Zd (Zq (Zr (Zb (eOp addX (Za 1) 'd') eNil)) (Zj 3) (Zd gp1 (Zd gp2 (Zd gp3 gp4)))) (Zt (eCB ZM 'r'))):=rfl
abbrev PE5(f s:Nat)(v2 v3 v4:Option D):EN:=[some (nD f),some (nD s),v2,v3,v4]
theorem Zkf{f s:Nat}(hs:s<=3):U3 [nD f,nD s]=some (gwD (Yp f s (s+1))):=by
 obtain⟨δ',g,w3,w4,e⟩:=YT (γ:=Zj 3) (φ:=Zd gp1 (Zd gp2 (Zd gp3 gp4))) (λr δ=>∃w3 w4,δ=PE5 f s (some (.lst ((Yp f s r).map grD))) w3 w4) ((List.range (s+1)).map nD) 0 (PE5 f s (some 'p') none none) ⟨none,none,rfl⟩ (by
  rintro r x δ hx ⟨w3,w4,rfl⟩
  have hr:r<s+1:=by
   have:=(jt.mp hx).1
   rwa [ja,jC]at this
  rw [ji,j1 hr]at hx;cases hx;rw [jW];generalize hX:(some (D.lst ((Yp f s r).map grD)):Option D)=X;have t1:gp1 (PE5 f s X (some (nD r)) w4)=some (.nx (PE5 f s X (some (nD r)) (some (.lst [nD (r+1),.int 0])))):=Zp (Yc (Zf ((Zg (x:=nD r) (y:=.int 1) rfl rfl).trans (add_int _ _)) (Zf (x:=.int 0) rfl nil_of)) (by show 2<=1000;decide))
  have t2:gp2 (PE5 f s X (some (nD r)) (some (.lst [nD (r+1),.int 0])))=some (.nx (PE5 f s X (some (nD r)) (some (.lst [wyD (gpF f s r 0),.int 0])))):=by
   have et:xB (eOp eqD (Za 3) (Za 1)) (PE5 f s X (some (nD r)) (some (.lst [nD (r+1),.int 0])))=some (decide ((r:Int)=s)):=ZH ((Zg (x:=nD r) (y:=nD s) rfl rfl).trans (YS _ _))
   by_cases h:r=s
   . rw [jN 'a']at et
     refine(ZZ et).trans ((JJ (xs:=[nD (r+1),.int 0]) (k:=0) (by show 0<2;decide) rfl rfl rfl).trans ?_);unfold gpF;rw [je rfl,je h];rfl
   . rw [jF 'a']at et
     refine(Z0 et).trans ?_;unfold gpF;rw [je rfl,jg h];rfl
  have t3:gp3 (PE5 f s X (some (nD r)) (some (.lst [wyD (gpF f s r 0),.int 0])))=some (.nx (PE5 f s X (some (nD r)) (some (.lst [wyD (gpF f s r 0),wyD (gpF f s r 1)])))):=by
   have et:xB (eOp (ZJ λi j=>decide (i<j)) (Za 3) (Za 0)) (PE5 f s X (some (nD r)) (some (.lst [wyD (gpF f s r 0),.int 0])))=some (decide ((r:Int)<f)):=ZH ((Zg (x:=nD r) (y:=nD f) rfl rfl).trans rfl)
   by_cases h:r<f
   . rw [jN 'a']at et
     refine(ZZ et).trans ((JJ (xs:=[wyD (gpF f s r 0),.int 0]) (k:=1) (by show 1<2;decide) rfl rfl rfl).trans ?_);have:gpF f s r 1=none:=by unfold gpF;rw [jg 'b',je h]
     rw [this];rfl
   . rw [jF 'a']at et
     refine(Z0 et).trans ?_;have:gpF f s r 1=some 0:=by unfold gpF;rw [jg 'b',jg h]
     rw [this];rfl
  have es:(Yp f s (r+1)).map grD=(Yp f s r).map grD++[grD ((List.range 2).map (gpF f s r))]:=by
   unfold Yp;rw [qB (n:=r),jm,jm];rfl
  refine⟨PE5 f s X (some (nD r)) w4,rfl,PE5 f s (some (.lst ((Yp f s (r+1)).map grD))) (some (nD r)) (some (.lst [wyD (gpF f s r 0),wyD (gpF f s r 1)])),?_,_,_,rfl⟩;rw [Zh t1,Zh t2,Zh t3,es];subst hX;exact(YM (xs:=(Yp f s r).map grD) (d:=grD ((List.range 2).map (gpF f s r))) rfl ((ZA (Zf (x:=.lst [wyD (gpF f s r 0),wyD (gpF f s r 1)]) rfl nil_of)).trans rfl) (by unfold Yp;simp;omega)).trans rfl)
 subst e;rw [ja,jC,jW]at g;refine Yi (δ:=PE5 f s none none none) rfl ?_;have t1:Ze 2 (Zo eNil) (PE5 f s none none none)=some (.nx (PE5 f s (some 'p') none none)):=Zp (Yc nil_of (by show 0<=1000;decide));have hi:Zr (Zb (eOp addX (Za 1) 'd') eNil) (PE5 f s (some 'p') none none)=some ((List.range (s+1)).map nD):=Yo (Zf ((Zg (x:=nD s) (y:=.int 1) rfl rfl).trans (add_int _ _)) nil_of) 'a'
 rw [Zke,Zh t1,Zh (ZO hi g)];exact ZR ((ZA (Zf (x:=.lst ((Yp f s (s+1)).map grD)) rfl nil_of)).trans rfl)
theorem ZlY(d:Int){f s:Nat}(hf:f<=s)(hs:s<=3):GOk (mks d 2) (Yp f s (s+1)):=by
 have hR:(Yp f s (s+1)).length=s+1:=by unfold Yp;simp
 have ga:∀r k,gat (Yp f s (s+1)) r k=if r<s+1/\k<2 then gpF f s r k else none:=λr k=>Zdg (gpF f s)
 have hM:=Zde d 2;refine⟨Zgm d 'b',by omega,by omega,ZbY d 2,by omega,by omega,λr hr => ?_,λr k t e => ?_,λr hr => ?_⟩
 . obtain⟨k,_,rfl⟩:=jE.mp hr
   simp [hM]
 . rw [ga]at e
   split at e
   . rename_i h
     unfold gpF at e
     split at e
     . split at e
       . cases e
       . cases e;omega
     . split at e
       . cases e
       . cases e;omega
   . cases e
 . rw [hR]at hr ⊢
   by_cases h:r=s
   . refine⟨1,by omega,?_⟩
     rw [ga,je ⟨hr,by decide⟩];unfold gpF;rw [jg 'b',jg 'a',h,Nat.mod_self]
   . refine⟨0,by omega,?_⟩
     rw [ga,je ⟨hr,by decide⟩];unfold gpF;rw [je rfl,jg h,Nat.mod_eq_of_lt 'a']
noncomputable def gr1:EN->Option Out:=(Ze 2 (eOp addX 'o' (eOp modW (eOp fdivW (Za 0) 'o') 'o')))
noncomputable def gr2:EN->Option D:=(ZD (Zb (Zn 2 Vt [] (Zb (Za 1) 'r')) (Zb (Zn 2 U2 [] (Zb (eOp fdivW (Za 0) (eC (.int 4))) 'r')) (Zb 'd' eNil))))
noncomputable def gr3:EN->Option Out:=(Ze 3 (eOp modW (eOp fdivW (Za 0) 'o') (eC (.int 4))))
noncomputable def gr4:EN->Option D:=(ZD (Zb (Zn 2 Vt [] (Zb (Za 1) (Zb 'o' eNil))) (Zb (Zn 2 U3 [] (Zb (eOp modW (eOp fdivW (Za 0) (eC (.int 8))) (eOp addX (Za 3) 'd')) (Zb (Za 3) eNil))) (Zb (Za 3) eNil))))
noncomputable def grT:EN->Option Bool:=(xB (eOp eqD (eOp modW (Za 0) 'o') 'm'))
theorem Zbg:JA=Zd (sIf grT (Zd gr1 (Zt gr2)) sNext) (Zd gr3 (Zt gr4)):=rfl
theorem Zer(c d:Int):∃mk gw x,GOk mk gw/\U4 [.int c,.int d]=some (gD mk gw x):=by
 have et:grT [some (.int c),some (.int d),none,none]=some (decide (c.fmod 2=0)):=ZH ((Zg (y:=.int 0) ((Zg (x:=.int c) (y:=.int 2) rfl rfl).trans (ZP 'b')) rfl).trans (YS _ _))
 by_cases hz:c.fmod 2=0
 . obtain⟨a,ha,hal⟩:=Z4 (c.fdiv 2) (m:=2) 'b'
   have ha':(c.fdiv 2).fmod 2=(a:Int):=ha;refine⟨mks d (2+a),Z6 (c.fdiv 4) (2+a) (2+a),1,Zkd _ _ 'a' 'a',Yi (δ:=[some (.int c),some (.int d),none,none]) rfl ?_⟩;rw [jN hz]at et;have t1:gr1 [some (.int c),some (.int d),none,none]=some (.nx [some (.int c),some (.int d),some (nD (2+a)),none]):=Zp ((Zg (x:=.int 2) (y:=.int ((c.fdiv 2).fmod 2)) rfl ((Zg (y:=.int 2) ((Zg (x:=.int c) (y:=.int 2) rfl rfl).trans (Yz 'b' 'b')) rfl).trans (ZP 'b'))).trans ((add_int _ _).trans (by rw [ha',nD,uh];rfl)))
   have e2:gr2 [some (.int c),some (.int d),some (nD (2+a)),none]=some (gD (mks d (2+a)) (Z6 (c.fdiv 4) (2+a) (2+a)) 1):=YL (Zf ((Z3 (n:=2) (Zf (x:=.int d) rfl (Zf (x:=nD (2+a)) rfl nil_of)) rfl).trans (ZbX d (2+a) 'a')) (Zf ((Z3 (n:=2) (Zf ((Zg (x:=.int c) (y:=.int 4) rfl rfl).trans (Yz 'b' 'b')) (Zf (x:=nD (2+a)) rfl nil_of)) rfl).trans (last_ok _ 'a' 'a')) (Zf (x:=.int 1) rfl nil_of))) (by show 3<=1000;decide)
   rw [Zbg];refine XS ((ZZ et).trans ?_);rw [Zh t1];exact ZR e2
 . obtain⟨s,hs,hsl⟩:=Z4 (c.fdiv 2) (m:=4) 'b'
   have hs':(c.fdiv 2).fmod 4=(s:Int):=hs;obtain⟨f,hf,hfl⟩:=Z4 (c.fdiv 8) (m:=s+1) 'a';refine⟨mks d 2,Yp f s (s+1),s,ZlY d 'a' 'a',Yi (δ:=[some (.int c),some (.int d),none,none]) rfl ?_⟩;rw [jF hz]at et;have t3:gr3 [some (.int c),some (.int d),none,none]=some (.nx [some (.int c),some (.int d),none,some (nD s)]):=Zp ((Zg (y:=.int 4) ((Zg (x:=.int c) (y:=.int 2) rfl rfl).trans (Yz 'b' 'b')) rfl).trans ((ZP 'b').trans (by rw [hs'])))
   have ef:eOp modW (eOp fdivW (Za 0) (eC (.int 8))) (eOp addX (Za 3) 'd') [some (.int c),some (.int d),none,some (nD s)]=some (nD f):=(Zg (x:=.int (c.fdiv 8)) (y:=.int ((s+1:Nat):Int)) ((Zg (x:=.int c) (y:=.int 8) rfl rfl).trans (Yz 'b' 'b')) ((Zg (x:=nD s) (y:=.int 1) rfl rfl).trans (add_int _ _))).trans ((ZP 'a').trans (by rw [hf]));have e4:gr4 [some (.int c),some (.int d),none,some (nD s)]=some (gD (mks d 2) (Yp f s (s+1)) s):=YL (Zf ((Z3 (n:=2) (Zf (x:=.int d) rfl (Zf (x:=nD 2) rfl nil_of)) rfl).trans (ZbX d 2 'b')) (Zf ((Z3 (n:=2) (Zf ef (Zf (x:=nD s) rfl nil_of)) rfl).trans (Zkf 'a')) (Zf (x:=nD s) rfl nil_of))) (by show 3<=1000;decide)
   rw [Zbg,Zh ((Z0 et).trans rfl),Zh t3];exact ZR e4
def mi(mk:List Nat)(c:Nat):Nat:=mk.findIdx (λx=>decide (x=c))
theorem JL{mk:List Nat}(h:mk.Nodup){k:Nat}(hk:k<mk.length):mi mk (mk.getD k 0)=k:=by
 have e:mk.getD k 0=mk[k]:=by rw [jv,jd hk];rfl
 rw [e];unfold mi;rw [List.findIdx_eq hk];refine⟨jN rfl,λj hj=>jF λz => ?_⟩;have:=(ut.mp h) j k 'a' hk hj;exact this z
abbrev Pr:=List Nat×Nat
def prD(p:Pr):D := .tup [.str p.1,nD p.2]
def nxt(mk:List Nat)(gw:Gw)(p:Pr)(k:Nat):Option Pr:=(gat gw p.2 k).map λt=>(p.1++[mk.getD k 0],t)
def stp(mk:List Nat)(gw:Gw)(p:Pr):List Pr:=(List.range mk.length).filterMap (nxt mk gw p)
def blk(mk:List Nat)(gw:Gw)(r:Nat):Nat->List Pr
 |0=>[([],r)]
 |q+1=>(blk mk gw r q).flatMap (stp mk gw)
structure BOk(mk:List Nat)(gw:Gw)(r q:Nat)(p:Pr):Prop where
 ln:p.1.length=q
 lt:p.2<gw.length
 cd:∀c∈p.1,c∈mk
section
variable{mk:List Nat}{gw:Gw}
theorem Ue{p p':Pr}{k:Nat}(h:nxt mk gw p k=some p'):∃t,gat gw p.2 k=some t/\p'=(p.1++[mk.getD k 0],t):=by
 unfold nxt at h;cases e:gat gw p.2 k with
 |none=>rw [e]at h;cases h
 |some t=>rw [e]at h;exact⟨t,rfl,(jo h).symm⟩
theorem ZlZ{k:Nat}(hk:k<mk.length):mk.getD k 0∈mk:=by
 rw [jv,jd hk];exact q5 hk
theorem Vv(g:GOk mk gw){r:Nat}(hr:r<gw.length):∀q,∀p∈blk mk gw r q,BOk mk gw r q p
 |0,p,hp=>by
  rw [ju.mp hp];exact⟨rfl,hr,λc hc=>by cases hc⟩
 |q+1,p,hp=>by
  obtain⟨p0,h0,h1⟩:=qL.mp hp;have ih:=Vv g hr q p0 h0;obtain⟨k,hk,e⟩:=yn.mp h1;have hk:=jX.mp hk;obtain⟨t,et,rfl⟩:=Ue e;refine⟨by show(p0.1++_).length=_;rw [jc,ih.ln];rfl,g.lt _ _ _ et,λc hc => ?_⟩;rcases jK.mp hc with z|z
  . exact ih.cd c z
  . rw [ju.mp z];exact ZlZ hk
theorem Zgo(g:GOk mk gw){r:Nat}(hr:r<gw.length):∀q,((blk mk gw r q).map (·.1)).Nodup
 |0=>by simp [blk]
 |q+1=>by
  have ih:=Zgo g hr q;unfold blk;rw [List.map_flatMap];refine List.pairwise_flatMap.mpr ⟨λp hp => ?_,?_⟩
  . unfold stp
    rw [List.map_filterMap];refine List.pairwise_filterMap.mpr (List.pairwise_lt_range.imp_of_mem λ{a b} ha hb hab x hx y hy e => ?_);have ha:=jX.mp ha;have hb:=jX.mp hb;obtain⟨p1,e1,rfl⟩:=qf.mp hx;obtain⟨p2,e2,rfl⟩:=qf.mp hy;obtain⟨t1,_,rfl⟩:=Ue e1;obtain⟨t2,_,rfl⟩:=Ue e2
    have:mk.getD a 0=mk.getD b 0:=by
     have:=List.append_cancel_left e;exact(List.cons.inj this).1
    have h1:=JL g.nd ha;rw [this,JL g.nd hb]at h1;omega
  . have ih':=List.pairwise_map.mp ih
    refine ih'.imp_of_mem λ{p p'} hp hp' hne x hx y hy e => ?_
    obtain⟨p1,h1,rfl⟩:=jE.mp hx;obtain⟨p2,h2,rfl⟩:=jE.mp hy;obtain⟨a,_,e1⟩:=yn.mp h1;obtain⟨b,_,e2⟩:=yn.mp h2;obtain⟨t1,_,rfl⟩:=Ue e1;obtain⟨t2,_,rfl⟩:=Ue e2;have l1:=(Vv g hr q p hp).ln;have l2:=(Vv g hr q p' hp').ln;exact hne (List.append_inj_left e (by rw [l1,l2]))
theorem Zdh(p:Pr):(stp mk gw p).length<=mk.length:=by
 unfold stp;exact jL (List.length_filterMap_le _ _) (by rw [jC];exact jk _)
theorem ZbZ(m:Nat)(f:Pr->List Pr)(h:∀p,(f p).length<=m):∀l:List Pr,(l.flatMap f).length<=l.length*m
 | []=>by simp
 |p::l=>by
  rw [yu,jc,jx,yl];have:=h p;have:=ZbZ m f h l;omega
theorem blk_len(g:GOk mk gw)(r:Nat):∀q,(blk mk gw r q).length<=3 ^ q
 |0=>by simp [blk]
 |q+1=>by
  have ih:=blk_len g r q;have:=ZbZ 3 (stp mk gw) (λp=>jL (Zdh p) g.m3) (blk mk gw r q);unfold blk;rw [uj];omega
theorem Zdi(g:GOk mk gw){r:Nat}(hr:r<gw.length):∀q,∃b,(b,(r+q) % gw.length)∈blk mk gw r q
 |0=>⟨[],by rw [uD,Nat.mod_eq_of_lt hr];exact ju.mpr rfl⟩
 |q+1=>by
  obtain⟨b,hb⟩:=Zdi g hr q;obtain⟨k,hk,e⟩:=g.cyc ((r+q) % gw.length) (Nat.mod_lt _ (by have:=g.r1;omega));refine⟨b++[mk.getD k 0],qL.mpr ⟨_,hb,yn.mpr ⟨k,jX.mpr hk,?_⟩⟩⟩;unfold nxt;rw [e];show some (b++[mk.getD k 0],((r+q) % gw.length+1) % gw.length)=some (b++[mk.getD k 0],(r+(q+1)) % gw.length);rw [Nat.mod_add_mod];rfl
noncomputable def bW:EN->Option D:=(eOp ixD (eOp ixD (Za 1) (Za 8)) (Za 9))
noncomputable def bA:EN->Option D:=(ZD (Zb (eOp addX (Za 7) (eOp ixD (Za 0) (Za 9))) (Zb bW eNil)))
noncomputable def bI:EN->Option Out:=(sIf (xB (Xi bW)) (ZE 6 bA) sNext)
noncomputable def bK:EN->Option Out:=(Zq (Zr (Zb (eCB lenD 'n') eNil)) (Zj 9) bI)
noncomputable def bL:EN->Option Out:=(Zq (ZF (Za 4)) (ZY 2 (Zz 7 (Zz 8 gsNil))) bK)
noncomputable def bB:EN->Option Out:=(Zd (Ze 6 (Zo eNil)) (Zd bL (Ze 4 (Za 6))))
theorem Zes:JB=Zd (Ze 4 (Zo (Zb (ZD (Zb (eC (.str [])) 'r')) eNil))) (Zd (Zq (Zr (Zb (Za 3) eNil)) (Zj 5) bB) (Zt (Za 4))):=rfl
abbrev B10(mk:List Nat)(gw:Gw)(r q:Nat)(v4 v5 v6 v7 v8 v9:Option D):EN:=[some (.str mk),some (gwD gw),some (nD r),some (nD q),v4,v5,v6,v7,v8,v9]
theorem Zgp(g:GOk mk gw){r:Nat}(hr:r<gw.length):ixD (gwD gw) (nD r)=some (grD (gw.getD r []))/\(gw.getD r []).length=mk.length:=by
 have e:gw[r]? = some (gw.getD r []):=by rw [jv,jd hr];rfl
 exact⟨ix_tup (by rw [ji,e];rfl),g.row _ (jI e)⟩
theorem Zkg(g:GOk mk gw){r k:Nat}(hr:r<gw.length)(hk:k<mk.length):ixD (grD (gw.getD r [])) (nD k)=some (wyD (gat gw r k)):=by
 have hl:=(Zgp g hr).2;refine ix_tup ?_;unfold gat;generalize gw.getD r []=l at hl;rw [ji,jv,jd 'a'];rfl
theorem Zl0(g:GOk mk gw){k:Nat}(hk:k<mk.length):ixD (.str mk) (nD k)=some (.str [mk.getD k 0]):=ix_str (by rw [jv,jd hk];rfl) (by have:=g.m3;omega)
theorem Zl1(g:GOk mk gw){r q:Nat}{p:Pr}(hp:p.2<gw.length)(hpl:p.1.length<=10)(acc:List Pr)(ha:acc.length<=10000)(v4 v5 v9:Option D):∃w9,bK (B10 mk gw r q v4 v5 (some (.lst (acc.map prD))) (some (.str p.1)) (some (nD p.2)) v9)=some (.nx (B10 mk gw r q v4 v5 (some (.lst ((acc++stp mk gw p).map prD))) (some (.str p.1)) (some (nD p.2)) w9)):=by
 have m3:=g.m3
 obtain⟨δ',f,w9,e⟩:=YT (γ:=Zj 9) (φ:=bI) (λk δ=>∃w9,δ=B10 mk gw r q v4 v5 (some (.lst ((acc++(List.range k).filterMap (nxt mk gw p)).map prD))) (some (.str p.1)) (some (nD p.2)) w9) ((List.range mk.length).map nD) 0 (B10 mk gw r q v4 v5 (some (.lst (acc.map prD))) (some (.str p.1)) (some (nD p.2)) v9) ⟨v9,by simp⟩ (by
  rintro k x δ hx ⟨w9,rfl⟩
  have hk:k<mk.length:=by
   have:=(jt.mp hx).1
   rwa [ja,jC]at this
  rw [ji,j1 hk]at hx;cases hx;rw [jW];have hl:((List.range k).filterMap (nxt mk gw p)).length<=k:=jL (List.length_filterMap_le _ _) (by rw [jC];exact jk _);generalize hA:acc++(List.range k).filterMap (nxt mk gw p)=A;have hAl:A.length<=10010:=by rw [<-hA,jc];omega
  have eW:bW (B10 mk gw r q v4 v5 (some (.lst (A.map prD))) (some (.str p.1)) (some (nD p.2)) 'i')=some (wyD (gat gw p.2 k)):=(Zg (y:=nD k) ((Zg (x:=gwD gw) (y:=nD p.2) rfl rfl).trans (Zgp g hp).1) rfl).trans (Zkg g hp hk)
  have es:acc++(List.range (k+1)).filterMap (nxt mk gw p)=A++(nxt mk gw p k).toList:=by
   rw [<-hA,qB,List.filterMap_append,qr]
   have:List.filterMap (nxt mk gw p) [k]=(nxt mk gw p k).toList:=by
    cases h:nxt mk gw p k<;>simp [List.filterMap,h]
   rw [this]
  refine⟨B10 mk gw r q v4 v5 (some (.lst (A.map prD))) (some (.str p.1)) (some (nD p.2)) 'i',rfl,B10 mk gw r q v4 v5 (some (.lst ((acc++(List.range (k+1)).filterMap (nxt mk gw p)).map prD))) (some (.str p.1)) (some (nD p.2)) 'i',?_,_,rfl⟩;rw [es];unfold nxt;cases hg:gat gw p.2 k with
  |none=>
   rw [hg]at eW
   have et:xB (Xi bW) (B10 mk gw r q v4 v5 (some (.lst (A.map prD))) (some (.str p.1)) (some (nD p.2)) 'i')=some false:=by
    unfold xB Xi;rw [eW];rfl
   refine(Z0 et).trans ?_;show some (Out.nx _)=some (Out.nx _);simp
  |some t=>
   rw [hg]at eW
   have et:xB (Xi bW) (B10 mk gw r q v4 v5 (some (.lst (A.map prD))) (some (.str p.1)) (some (nD p.2)) 'i')=some true:=by
    unfold xB Xi;rw [eW];rfl
   have eA:bA (B10 mk gw r q v4 v5 (some (.lst (A.map prD))) (some (.str p.1)) (some (nD p.2)) 'i')=some (prD (p.1++[mk.getD k 0],t)):=YL (Zf ((Zg (x:=.str p.1) rfl ((Zg (x:=.str mk) (y:=nD k) rfl rfl).trans (Zl0 g hk))).trans (add_str (by show p.1.length+1<=100000;omega))) (Zf eW nil_of)) (by show 2<=1000;decide);refine(ZZ et).trans ((YM (xs:=A.map prD) rfl eA (by rw [ja];omega)).trans ?_)
   show some (Out.nx _)=some (Out.nx _);simp)
 subst e;rw [ja,jC,jW]at f;exact⟨w9,ZO (Yo (m:=mk.length) (Zf ((ZA (Zf (x:=.str mk) rfl nil_of)).trans (len_str 'a')) nil_of) 'a') f⟩
theorem ZiK(g:GOk mk gw){r q:Nat}(v5 v4:Option D):∀(ps:List Pr)(acc:List Pr)(v7 v8 v9:Option D),(∀p∈ps,p.2<gw.length/\p.1.length<=10)->acc.length+3*ps.length<=10000->∃w7 w8 w9,ZK (ZY 2 (Zz 7 (Zz 8 gsNil))) bK (ps.map prD) (B10 mk gw r q v4 v5 (some (.lst (acc.map prD))) v7 v8 v9)=some (.nx (B10 mk gw r q v4 v5 (some (.lst ((acc++ps.flatMap (stp mk gw)).map prD))) w7 w8 w9))
 | [],acc,v7,v8,v9,_,_=>⟨v7,v8,v9,by simp [ZK]⟩
 |p::ps,acc,v7,v8,v9,h,hl=>by
  have hp:=h p jj;rw [jx]at hl;obtain⟨w9,e⟩:=Zl1 g (r:=r) (q:=q) hp.1 hp.2 acc 'a' v4 v5 v9;have h3:(stp mk gw p).length<=3:=jL (Zdh p) g.m3;obtain⟨y7,y8,y9,ih⟩:=ZiK g (r:=r) (q:=q) v5 v4 ps (acc++stp mk gw p) (some (.str p.1)) (some (nD p.2)) w9 (λx hx=>h x (jq _ hx)) (by rw [jc];omega)
  refine⟨y7,y8,y9,?_⟩;rw [yu,<-qr];rw [jp];unfold ZK;have eg:ZY 2 (Zz 7 (Zz 8 gsNil)) (prD p) (B10 mk gw r q v4 v5 (some (.lst (acc.map prD))) v7 v8 v9)=some (B10 mk gw r q v4 v5 (some (.lst (acc.map prD))) (some (.str p.1)) (some (nD p.2)) v9):=rfl;rw [eg];dsimp only;rw [e];exact ih
theorem JM{q:Nat}(hq:q<=4):3 ^ q<=81:=by
 have:q=0\/q=1\/q=2\/q=3\/q=4:=by omega
 rcases this with rfl|rfl|rfl|rfl|rfl<;>decide
theorem Zet(g:GOk mk gw){r q:Nat}(hr:r<gw.length)(hq:q<=4):U5 [.str mk,gwD gw,nD r,nD q]=some (.lst ((blk mk gw r q).map prD)):=by
 obtain⟨δ',f,w5,w6,w7,w8,w9,e⟩:=YT (γ:=Zj 5) (φ:=bB) (λi δ=>∃w5 w6 w7 w8 w9,δ=B10 mk gw r q (some (.lst ((blk mk gw r i).map prD))) w5 w6 w7 w8 w9) ((List.range q).map nD) 0 (B10 mk gw r q (some (.lst ((blk mk gw r 0).map prD))) none none none none none) ⟨_,_,_,_,_,rfl⟩ (by
  rintro i x δ hx ⟨w5,w6,w7,w8,w9,rfl⟩
  have hi:i<q:=by
   have:=(jt.mp hx).1
   rwa [ja,jC]at this
  rw [ji,j1 hi]at hx;cases hx;rw [jW];have hlen:=blk_len g r i;have hpow:=JM (q:=i) 'a';have t1:Ze 6 (Zo eNil) (B10 mk gw r q (some (.lst ((blk mk gw r i).map prD))) (some (nD i)) w6 w7 w8 w9)=some (.nx (B10 mk gw r q (some (.lst ((blk mk gw r i).map prD))) (some (nD i)) (some (.lst (([]:List Pr).map prD))) w7 w8 w9)):=Zp (Yc nil_of (by show 0<=1000;decide))
  obtain⟨y7,y8,y9,hl⟩:=ZiK g (r:=r) (q:=q) (some (nD i)) (some (.lst ((blk mk gw r i).map prD))) (blk mk gw r i) [] w7 w8 w9 (λp hp=>by
   have:=Vv g hr i p hp;exact⟨this.lt,by rw [this.ln];omega⟩) (by show 0+_<=_;omega)
  have t2:bL (B10 mk gw r q (some (.lst ((blk mk gw r i).map prD))) (some (nD i)) (some (.lst (([]:List Pr).map prD))) w7 w8 w9)=some (.nx (B10 mk gw r q (some (.lst ((blk mk gw r i).map prD))) (some (nD i)) (some (.lst ((blk mk gw r (i+1)).map prD))) y7 y8 y9)):=ZO (Y9 rfl) hl;refine⟨B10 mk gw r q (some (.lst ((blk mk gw r i).map prD))) (some (nD i)) w6 w7 w8 w9,rfl,B10 mk gw r q (some (.lst ((blk mk gw r (i+1)).map prD))) (some (nD i)) (some (.lst ((blk mk gw r (i+1)).map prD))) y7 y8 y9,?_,_,_,_,_,_,rfl⟩
  unfold bB;rw [Zh t1,Zh t2];rfl)
 subst e;rw [ja,jC,jW]at f;refine Yi (δ:=B10 mk gw r q none none none none none none) rfl ?_;have t1:Ze 4 (Zo (Zb (ZD (Zb (eC (.str [])) 'r')) eNil)) (B10 mk gw r q none none none none none none)=some (.nx (B10 mk gw r q (some (.lst ((blk mk gw r 0).map prD))) none none none none none)):=Zp (Yc (Zf (YL (Zf (x:=.str []) rfl (Zf (x:=nD r) rfl nil_of)) (by show 2<=1000;decide)) nil_of) (by show 1<=1000;decide))
 rw [Zes,Zh t1,Zh (ZO (Yo (m:=q) rfl 'a') f)];exact ZR rfl
end
structure Sh(k:Nat)(d:D):Prop where
 can:PySem.PyData.canLay0 (toP d)=true
 dep:PySem.PyData.depth (toP d)<=k
theorem JN{k:Nat}:∀{xs:List D},(∀x∈xs,Sh k x)->PySem.PyData.canLayAll0 (YZ xs)=true/\PySem.PyData.depthAll (YZ xs)<=k
 | [],_=>⟨rfl,jR _⟩
 |x::xs,h=>by
  obtain⟨h1,h2⟩:=JN (xs:=xs) λy hy=>h y (jq _ hy)
  have hx:=h x jj;rw [YZ,PySem.PyData.canLayAll0,PySem.PyData.depthAll,hx.can,h1];exact⟨rfl,Nat.max_le.mpr ⟨hx.dep,h2⟩⟩
theorem Zkh{k:Nat}{xs:List D}(h:∀x∈xs,Sh k x):Sh (k+1) (.tup xs):=by
 obtain⟨h1,h2⟩:=JN h;exact⟨by rw [toP,PySem.PyData.canLay0];exact h1,by rw [toP,PySem.PyData.depth];omega⟩
theorem Qo{k:Nat}{xs:List D}(h:∀x∈xs,Sh k x):Sh (k+1) (.lst xs):=by
 obtain⟨h1,h2⟩:=JN h;exact⟨by rw [toP,PySem.PyData.canLay0];exact h1,by rw [toP,PySem.PyData.depth];omega⟩
theorem Zki(k:Nat)(i:Int):Sh k (.int i):=⟨rfl,jR _⟩
theorem JO{k:Nat}(h:Sh k d)(hk:k<=64):PySem.SeqAt.shaped (toP d)=true:=by
 unfold PySem.SeqAt.shaped;rw [h.can,jN (jL h.dep hk)];rfl
theorem Zkj(k:Nat)(h:V0 w):Sh k (.str w):=⟨Zfp h,jR _⟩
theorem ZiL(t:Nat):∀P:List Nat,inV (.int (t:Int)) ((P.map nD).map val)=decide (t∈P)
 | []=>by simp [inV]
 |p::P=>by
  have ih:=ZiL t P;unfold inV at ih ⊢;rw [jp,jp,yH,ih];show(((p:Int) == (t:Int))||decide (t∈P))=_
  by_cases e:p=t
  . subst e
    simp
  . have e2:¬t=p:=λz=>e z.symm
    have e3:((p:Int) == (t:Int))=false:=by simp;omega
    rw [e3];simp [e2]
theorem ZmU(P:List Nat):(P.map nD).all Zu=true:=by
 rw [yC];exact jT.mpr λx _=>rfl
theorem Znf(t:Nat)(P:List Nat):inD false (nD t) (AD P)=some (.bl (decide (t∈P))):=by
 show(if(Zu (.int (t:Int))&&(P.map nD).all Zu)=true then some (D.bl (if false=true then !(inV (.int (t:Int)) ((P.map nD).map val))else inV (.int (t:Int)) ((P.map nD).map val)))else none)=_;rw [ZmU,je (show(Zu (.int (t:Int))&&true)=true from rfl),jg jy,ZiL]
theorem Zkk{xs:List D}(h:PySem.SeqAt.shaped (toP (.lst xs))=true):eqD (.lst xs) 'p'=some (.bl (decide (xs=[]))):=by
 unfold eqD;have e2:PySem.SeqAt.shaped (toP 'p')=true:=JO (k:=1) (Qo (xs:=[]) λ_ z=>nomatch z) 'b';rw [jg (by simp [Zu]),h,e2,je (by rfl)];cases xs with
 |nil=>rfl
 |cons w ws=>rfl
theorem intsD_map:∀ns:List Int,YI (ns.map D.int)=some ns
 | []=>rfl
 |n::ns=>by
  rw [jp,YI,intsD_map ns]
theorem Zdj{ns:List Int}(h:0<ns.length):minQD [.lst (ns.map D.int)]=some (.int (YC ns)):=by
 show minLD [.lst (ns.map D.int)]=_;unfold minLD;dsimp only;rw [intsD_map];exact je h
def lrD(row:List Pr):D := .lst (row.map prD)
def chR(mk:List Nat)(gw:Gw)(base:List Nat)(q:Nat):List 'f':=base.map λr=>(blk mk gw r q).filter λp=>decide (p.2∈base)
def fw(rows:List 'f'):Int:=YC (rows.map λr=>(r.length:Int))
structure Base(gw:Gw)(base:List Nat):Prop where
 ne:0<base.length
 lt:∀r∈base,r<gw.length
 nd:base.Nodup
 l4:base.length<=4
section
variable{mk:List Nat}{gw:Gw}{base:List Nat}
theorem XW(q:Nat):(chR mk gw base q).length=base.length:=by unfold chR;rw [ja]
theorem Zl2(hb:Base gw base){q:Nat}{row:List Pr}(h:row∈chR mk gw base q):fw (chR mk gw base q)<=row.length:=by
 have hl:0<((chR mk gw base q).map λr=>(r.length:Int)).length:=by rw [ja,XW];exact hb.ne
 exact(UI hl).2 _ (jE.mpr ⟨row,h,rfl⟩)
theorem Zkl(g:GOk mk gw)(hb:Base gw base):1<=fw (chR mk gw base gw.length):=by
 have hl:0<((chR mk gw base gw.length).map λr=>(r.length:Int)).length:=by rw [ja,XW];exact hb.ne
 obtain⟨row,hr,e⟩:=jE.mp (UI hl).1;unfold fw;rw [<-e];unfold chR at hr;obtain⟨r,hr',rfl⟩:=jE.mp hr;obtain⟨b,hb'⟩:=Zdi g (hb.lt r hr') gw.length;rw [Nat.add_mod_right,Nat.mod_eq_of_lt (hb.lt r hr')]at hb';have:(b,r)∈(blk mk gw r gw.length).filter λp=>decide (p.2∈base):=qh.mpr ⟨hb',jN hr'⟩
 have:=qW this;omega
structure Ch(mk:List Nat)(gw:Gw)(base:List Nat)(q:Nat)(rows:List (List Pr)):Prop where
 q1:1<=q
 q4:q<=4
 ln:rows.length=base.length
 ok:∀(i:Nat)(row:List Pr)(r:Nat),rows[i]? = some row->base[i]? = some r->(∀p∈row,BOk mk gw r q p/\p.2∈base)/\(row.map (·.1)).Nodup/\1<=row.length/\row.length<=81
theorem ZiM(g:GOk mk gw)(hb:Base gw base){q:Nat}(q1:1<=q)(q4:q<=4)(hf:1<=fw (chR mk gw base q)):Ch mk gw base q (chR mk gw base q):=by
 refine⟨q1,q4,XW q,λi row r e1 e2 => ?_⟩;have hm:=jI e1;unfold chR at e1;rw [ji,e2]at e1;cases e1;have hr:=hb.lt r (jI e2);refine⟨λp hp => ?_,?_,?_,?_⟩
 . obtain⟨h1,h2⟩:=qh.mp hp
   exact⟨Vv g hr q p h1,qz h2⟩
 . exact(Zgo g hr q).sublist ((List.filter_sublist).map _)
 . have:=Zl2 hb hm
   omega
 . have h1:((blk mk gw r q).filter λp=>decide (p.2∈base)).length<=(blk mk gw r q).length:=qK _ _
   have h2:=blk_len g r q;exact jL h1 (jL h2 (JM (q:=q) q4))
noncomputable def c7:EN->Option Out:=(Ze 7 (Zn 4 U5 [] (Zb (eOp ixD (Za 0) 'm') (Zb (eOp ixD (Za 0) 'd') (Zb (Za 6) (Zb (eOp addX 'd' (eOp modW (eOp addX (Za 2) (Za 4)) (eC (.int 4)))) eNil))))))
noncomputable def c5:EN->Option Out:=(ZE 5 (ZV (ZF (Za 7)) (Zj 0) (xB (eOp (inD false) (eOp ixD (Za 0) 'd') (Za 1))) (Za 0) 1 [1]))
noncomputable def c8:EN->Option Out:=(Ze 8 (eCB minQD (Zb (ZV (ZF (Za 5)) (Zj 0) (λ_=>some true) (eCB lenD 'n') 1 []) eNil)))
noncomputable def cR:EN->Option Out:=(sIf (xB (eOp (ZJ λi j=>decide (j<i)) (Za 8) 'd')) (Zt (Za 5)) sNext)
noncomputable def cS:EN->Option Out:=(sIf (YB (xB (eOp eqD (Za 8) 'd')) (xB (eOp eqD (Za 3) (Zo eNil)))) (Ze 3 (Za 5)) sNext)
noncomputable def cL:EN->Option Out:=(Zq (ZF (Za 1)) (Zj 6) (Zd c7 c5))
noncomputable def cB:EN->Option Out:=(Zd (Ze 5 (Zo eNil)) (Zd cL (Zd c8 (Zd cR cS))))
theorem ZaH:JC=Zd (Ze 3 (Zo eNil)) (Zd (Zq (Zr (Zb (eC (.int 4)) eNil)) (Zj 4) cB) (Zt (Za 3))):=rfl
abbrev C9(mk:List Nat)(gw:Gw)(x:Int)(base:List Nat)(c:Int)(v3 v4 v5 v6 v7 v8:Option D):EN:=[some (gD mk gw x),some (AD base),some (.int c),v3,v4,v5,v6,v7,v8]
theorem Zl3{gw:Gw}{x:Int}{κ:EN->Option D}{δ:EN}(h:κ δ=some (gD mk gw x)):eOp ixD κ 'm' δ=some (.str mk):=(Zg (y:=.int 0) h rfl).trans rfl
theorem ZiN{gw:Gw}{x:Int}{κ:EN->Option D}{δ:EN}(h:κ δ=some (gD mk gw x)):eOp ixD κ 'd' δ=some (gwD gw):=(Zg (y:=.int 1) h rfl).trans rfl
theorem Zl4(g:GOk mk gw)(hb:Base gw base)(x c:Int){i q:Nat}(hq:1+(c+(i:Int)).fmod 4=(q:Int))(hq4:q<=4)(v3 v6 v7 v8:Option D):∃w6 w7,cL (C9 mk gw x base c v3 (some (nD i)) (some 'p') v6 v7 v8)=some (.nx (C9 mk gw x base c v3 (some (nD i)) (some (.lst ((chR mk gw base q).map lrD))) w6 w7 v8)):=by
 have hb4:=hb.l4
 obtain⟨δ',f,w6,w7,e⟩:=YT (γ:=Zj 6) (φ:=Zd c7 c5) (λj δ=>∃w6 w7,δ=C9 mk gw x base c v3 (some (nD i)) (some (.lst (((chR mk gw base q).take j).map lrD))) w6 w7 v8) (base.map nD) 0 (C9 mk gw x base c v3 (some (nD i)) (some 'p') v6 v7 v8) ⟨v6,v7,rfl⟩ (by
  rintro j y δ hx ⟨w6,w7,rfl⟩
  have hj:j<base.length:=by
   have:=(jt.mp hx).1
   rwa [ja]at this
  rw [ji,jd hj]at hx;cases hx;rw [jW];have hr:=hb.lt base[j] (q5 hj);generalize hX:(some (D.lst (((chR mk gw base q).take j).map lrD)):Option D)=X;have t7:c7 (C9 mk gw x base c v3 (some (nD i)) X (some (nD base[j])) w7 v8)=some (.nx (C9 mk gw x base c v3 (some (nD i)) X (some (nD base[j])) (some (.lst ((blk mk gw base[j] q).map prD))) v8)):=Zp ((Z3 (n:=4) (Zf (Zl3 rfl) (Zf (ZiN rfl) (Zf (x:=nD base[j]) rfl (Zf (x:=nD q) ((Zg (x:=.int 1) (y:=.int ((c+(i:Int)).fmod 4)) rfl ((Zg (y:=.int 4) ((Zg (x:=.int c) (y:=nD i) rfl rfl).trans (add_int _ _)) rfl).trans (ZP 'b'))).trans ((add_int _ _).trans (by rw [hq]))) nil_of)))) rfl).trans (Zet g hr hq4))
  have hlen:=blk_len g base[j] q;have hpow:=JM (q:=q) hq4;have hc:Yh (Zj 0) (xB (eOp (inD false) (eOp ixD (Za 0) 'd') (Za 1))) (Za 0) [none,some (AD base)] ((blk mk gw base[j] q).map prD)=some (((blk mk gw base[j] q).filter λp=>decide (p.2∈base)).map prD):=Zbf prD prD _ _ λp _=>⟨[some (prD p),some (AD base)],rfl,ZH ((Zg (x:=nD p.2) (y:=AD base) ((Zg (x:=prD p) (y:=.int 1) rfl rfl).trans rfl) rfl).trans (Znf _ _)),rfl⟩
  have hfl:(((blk mk gw base[j] q).filter λp=>decide (p.2∈base)).map prD).length<=1000:=by
   rw [ja];have h1:((blk mk gw base[j] q).filter λp=>decide (p.2∈base)).length<=(blk mk gw base[j] q).length:=qK _ _;omega
  have eC:ZV (ZF (Za 7)) (Zj 0) (xB (eOp (inD false) (eOp ixD (Za 0) 'd') (Za 1))) (Za 0) 1 [1] (C9 mk gw x base c v3 (some (nD i)) X (some (nD base[j])) (some (.lst ((blk mk gw base[j] q).map prD))) v8)=some (lrD ((blk mk gw base[j] q).filter λp=>decide (p.2∈base))):=XT (Y9 rfl) rfl hc 'a'
  have hget:(chR mk gw base q)[j]? = some ((blk mk gw base[j] q).filter λp=>decide (p.2∈base)):=by
   unfold chR;rw [ji,jd hj];rfl
  have es:((chR mk gw base q).take (j+1)).map lrD=((chR mk gw base q).take j).map lrD++[lrD ((blk mk gw base[j] q).filter λp=>decide (p.2∈base))]:=by
   rw [List.take_add_one,hget,jm];rfl
  refine⟨C9 mk gw x base c v3 (some (nD i)) X (some (nD base[j])) w7 v8,rfl,C9 mk gw x base c v3 (some (nD i)) (some (.lst (((chR mk gw base q).take (j+1)).map lrD))) (some (nD base[j])) (some (.lst ((blk mk gw base[j] q).map prD))) v8,?_,_,_,rfl⟩;rw [Zh t7,es];subst hX;exact(YM (xs:=((chR mk gw base q).take j).map lrD) rfl eC (by rw [ja,jY,XW];omega)).trans rfl)
 subst e;rw [ja,jW,List.take_of_length_le (by rw [XW];exact jk _)]at f;exact⟨w6,w7,ZO (Y9 rfl) f⟩
theorem ZhX(g:GOk mk gw)(hb:Base gw base)(q:Nat):Sh 3 (.lst ((chR mk gw base q).map lrD)):=by
 refine Qo λy hy => ?_
 obtain⟨row,hr,rfl⟩:=jE.mp hy;unfold chR at hr;obtain⟨r,hr',rfl⟩:=jE.mp hr;refine Qo λz hz => ?_
 obtain⟨p,hp,rfl⟩:=jE.mp hz;have ok:=Vv g (hb.lt r hr') q p (qh.mp hp).1;refine Zkh λu hu => ?_
 rcases jA.mp hu with rfl|hu
 . exact Zkj _ λc hc=>g.cd c (ok.cd c hc)
 . rcases jA.mp hu with rfl|hu
   . exact Zki _ _
   . cases hu
theorem Zcw(g:GOk mk gw)(hb:Base gw base)(x c:Int):∃q rows,Ch mk gw base q rows/\U7 [gD mk gw x,AD base,.int c]=some (.lst (rows.map lrD)):=by
 have hb4:=hb.l4;have hbn:=hb.ne
 have qs:∀i:Nat,∃q:Nat,1+(c+(i:Int)).fmod 4=(q:Int)/\1<=q/\q<=4:=λi=>by
  obtain⟨a,ha,hal⟩:=Z4 (c+(i:Int)) (m:=4) 'b';have ha':(c+(i:Int)).fmod 4=(a:Int):=ha;exact⟨1+a,by rw [ha',uh];rfl,by omega,by omega⟩
 have key:=Zc6 (γ:=Zj 4) (φ:=cB) (λi δ=>∃w3 w4 w5 w6 w7 w8,δ=C9 mk gw x base c (some (.lst w3)) w4 w5 w6 w7 w8/\((w3=[]/\∀j,j<i->∀q:Nat,1+(c+(j:Int)).fmod 4=(q:Int)->fw (chR mk gw base q)<1)\/∃q,1<=q/\q<=4/\1<=fw (chR mk gw base q)/\w3=(chR mk gw base q).map lrD)) (λd=>∃q,1<=q/\q<=4/\1<=fw (chR mk gw base q)/\d = .lst ((chR mk gw base q).map lrD)) ((List.range 4).map nD) 0 (C9 mk gw x base c (some 'p') none none none none none) ⟨_,_,_,_,_,_,rfl,.inl ⟨rfl,λj hj=>absurd hj 'a'⟩⟩ (by
  rintro i y δ hx ⟨w3,w4,w5,w6,w7,w8,rfl,hw⟩
  have hi:i<4:=by
   have:=(jt.mp hx).1
   rwa [ja,jC]at this
  rw [ji,j1 hi]at hx;cases hx;rw [jW]at hw ⊢;obtain⟨q,hq,q1,q4⟩:=qs i;have t5:Ze 5 (Zo eNil) (C9 mk gw x base c (some (.lst w3)) (some (nD i)) w5 w6 w7 w8)=some (.nx (C9 mk gw x base c (some (.lst w3)) (some (nD i)) (some 'p') w6 w7 w8)):=Zp (Yc nil_of (by show 0<=1000;decide));obtain⟨y6,y7,tL⟩:=Zl4 g hb x c hq q4 (some (.lst w3)) w6 w7 w8
  have hcl:0<((chR mk gw base q).map λr=>(r.length:Int)).length:=by rw [ja,XW];exact hbn
  have hc8:Yh (Zj 0) (λ_=>some true) (eCB lenD 'n') [none] ((chR mk gw base q).map lrD)=some ((chR mk gw base q).map λr=>D.int (r.length:Int)):=XV lrD _ _ λrow _=>⟨[some (lrD row)],rfl,(ZA (Zf (x:=lrD row) rfl nil_of)).trans (len_lst.trans (by rw [ja]))⟩
  have t8:c8 (C9 mk gw x base c (some (.lst w3)) (some (nD i)) (some (.lst ((chR mk gw base q).map lrD))) y6 y7 w8)=some (.nx (C9 mk gw x base c (some (.lst w3)) (some (nD i)) (some (.lst ((chR mk gw base q).map lrD))) y6 y7 (some (.int (fw (chR mk gw base q)))))):=by
   refine Zp ((ZA (Zf (XT (Y9 rfl) rfl hc8 (by rw [ja,XW];omega)) nil_of)).trans ?_);have:(chR mk gw base q).map (λr=>D.int (r.length:Int))=((chR mk gw base q).map λr=>(r.length:Int)).map D.int:=by rw [jZ];rfl
   rw [this];exact Zdj hcl
  generalize hF:fw (chR mk gw base q)=F at t8;have eR:xB (eOp (ZJ λi j=>decide (j<i)) (Za 8) 'd') (C9 mk gw x base c (some (.lst w3)) (some (nD i)) (some (.lst ((chR mk gw base q).map lrD))) y6 y7 (some (.int F)))=some (decide (1<F)):=ZH ((Zg (x:=.int F) (y:=.int 1) rfl rfl).trans rfl)
  have hsh:PySem.SeqAt.shaped (toP (.lst w3))=true:=by
   rcases hw with⟨rfl,_⟩|⟨q',_,_,_,rfl⟩
   . exact JO (k:=1) (Qo (xs:=[]) λ_ z=>nomatch z) 'b'
   . exact JO (ZhX g hb q') 'b'
  have eS:YB (xB (eOp eqD (Za 8) 'd')) (xB (eOp eqD (Za 3) (Zo eNil))) (C9 mk gw x base c (some (.lst w3)) (some (nD i)) (some (.lst ((chR mk gw base q).map lrD))) y6 y7 (some (.int F)))=some (decide (F=1)&&decide (w3=[])):=Zdf (ZH ((Zg (x:=.int F) (y:=.int 1) rfl rfl).trans (YS _ _))) (ZH ((Zg (x:=.lst w3) (y:=.lst []) rfl (Yc nil_of (by show 0<=1000;decide))).trans (Zkk hsh)))
  refine⟨C9 mk gw x base c (some (.lst w3)) (some (nD i)) w5 w6 w7 w8,rfl,?_⟩
  by_cases h1:1<F
  . rw [jN h1]at eR
    refine .inr ⟨_,?_,q,q1,q4,by omega,rfl⟩;unfold cB;rw [Zh t5,Zh tL,Zh t8];exact XS ((ZZ eR).trans (ZR rfl))
  . rw [jF h1]at eR
    have tR:cR (C9 mk gw x base c (some (.lst w3)) (some (nD i)) (some (.lst ((chR mk gw base q).map lrD))) y6 y7 (some (.int F)))=some (.nx (C9 mk gw x base c (some (.lst w3)) (some (nD i)) (some (.lst ((chR mk gw base q).map lrD))) y6 y7 (some (.int F)))):=(Z0 eR).trans rfl
    by_cases h2:F=1/\w3=[]
    . rw [jN h2.1,jN h2.2]at eS
      refine .inl ⟨C9 mk gw x base c (some (.lst ((chR mk gw base q).map lrD))) (some (nD i)) (some (.lst ((chR mk gw base q).map lrD))) y6 y7 (some (.int F)),?_,_,_,_,_,_,_,rfl,.inr ⟨q,q1,q4,by omega,rfl⟩⟩;unfold cB;rw [Zh t5,Zh tL,Zh t8,Zh tR];exact(ZZ eS).trans rfl
    . have : (decide (F = 1) && decide (w3 = [])) = false := by
       rw [Bool.and_eq_false_iff]
       by_cases z:F=1
       . exact .inr (jF λy=>h2 ⟨z,y⟩)
       . exact .inl (jF z)
      rw [this]at eS;refine .inl ⟨C9 mk gw x base c (some (.lst w3)) (some (nD i)) (some (.lst ((chR mk gw base q).map lrD))) y6 y7 (some (.int F)),?_,_,_,_,_,_,_,rfl,?_⟩
      . unfold cB
        rw [Zh t5,Zh tL,Zh t8,Zh tR];exact(Z0 eS).trans rfl
      . rcases hw with⟨hw1,hw2⟩|hw
        . refine .inl ⟨hw1,λj hj q' hq' => ?_⟩
          by_cases hji:j=i
          . subst hji
            have:q'=q:=by omega
            subst this;have:¬F=1:=λz=>h2 ⟨z,hw1⟩
            omega
          . exact hw2 j 'a' q' hq'
        . exact .inr hw)
 have t3:Ze 3 (Zo eNil) (C9 mk gw x base c none none none none none none)=some (.nx (C9 mk gw x base c (some 'p') none none none none none)):=Zp (Yc nil_of (by show 0<=1000;decide));have hi:Zr (Zb (eC (.int 4)) eNil) (C9 mk gw x base c (some 'p') none none none none none)=some ((List.range 4).map nD):=Yo (m:=4) rfl 'b';rcases key with⟨δ',f,w3,w4,w5,w6,w7,w8,rfl,hw⟩|⟨d,f,q,q1,q4,hf,rfl⟩
 . have hq : ∃ q, 1 <= q /\ q <= 4 /\ 1 <= fw (chR mk gw base q) /\ w3 = (chR mk gw base q).map lrD := by
    rcases hw with⟨_,hw⟩|hw
    . have r1:=g.r1
      have r4:=g.r4;have hc:=Zkl g hb;obtain⟨a,ha,hal⟩:=Z4 ((gw.length:Int)-1-c) (m:=4) 'b';have ha':((gw.length:Int)-1-c).fmod 4=(a:Int):=ha
      have:=hw a (by show a<0+4;omega) gw.length (by
       rw [qG _ 'b']at ha' ⊢;omega)
      omega
    . exact hw
   obtain⟨q,q1,q4,hf,rfl⟩:=hq;refine⟨q,_,ZiM g hb q1 q4 hf,Yi (δ:=C9 mk gw x base c none none none none none none) rfl ?_⟩;rw [ZaH,Zh t3,Zh (ZO hi f)];exact ZR rfl
 . refine⟨q,_,ZiM g hb q1 q4 hf,Yi (δ:=C9 mk gw x base c none none none none none none) rfl ?_⟩
   rw [ZaH,Zh t3];exact XS (ZO hi f)
end
theorem JP{i j:Nat}{ε:EN->Option D}{δ:EN}{x y:D}(h:ε δ=some (.tup [x,y])):Y2 (ZY 2 (Zz i (Zz j gsNil))) ε δ=some (.nx ((δ.set i (some x)).set j (some y))):=by
 unfold Y2;rw [h];rfl
theorem ZmV(t:Nat):∀P:List Nat,t∈P->((P.map nD).map val).findIdx? (λz=>eqV z (val (nD t)))=some (mi P t)
 |p::P,h=>by
  rw [jp,jp,List.findIdx?_cons];unfold mi;rw [List.findIdx_cons];show(if((p:Int) == (t:Int))=true then some 0 else _)=_
  by_cases e:p=t
  . subst e;simp
  . have e3:((p:Int) == (t:Int))=false:=by simp;omega
    have hm:t∈P:=by
     rcases jA.mp h with z|z
     . exact absurd z.symm e
     . exact z
    rw [e3,jg jy,ZmV t P hm,jF e];rfl
theorem ZiO{a b:EN->Option D}{δ:EN}{P:List Nat}{t:Nat}(h1:a δ=some (AD P))(h2:b δ=some (nD t))(h:t∈P):eLM lindexD a b δ=some (nD (mi P t)):=by
 unfold eLM;rw [h1,h2];dsimp only;rw [ZmU,je (by rfl)];unfold lindexD;rw [ZmV t P h]
theorem Zkm{P:List Nat}{t:Nat}(h:t∈P):mi P t<P.length/\P.getD (mi P t) 0=t:=by
 have hl:mi P t<P.length:=List.findIdx_lt_length_of_exists ⟨t,h,jN rfl⟩;refine⟨hl,?_⟩;rw [jv,jd hl];have:decide (P[mi P t]=t)=true:=List.findIdx_getElem (p:=λx=>decide (x=t)) (w:=hl);exact qz this
theorem XX{α:Type}(f:Nat->Nat->α)(sp:Nat):∀nb,((List.range nb).flatMap λi=>(List.range sp).map (f i)).length=nb*sp
 |0=>by simp
 |nb+1=>by
  rw [qB,qe,jc,XX f sp nb];simp [yl]
theorem Uf{α:Type}(f:Nat->Nat->α)(sp:Nat):∀nb i k,i<nb->k<sp->((List.range nb).flatMap λi=>(List.range sp).map (f i))[i*sp+k]? = some (f i k)
 |0,i,k,hi,_=>absurd hi 'a'
 |nb+1,i,k,hi,hk=>by
  rw [qB,qe]
  by_cases h:i<nb
  . have hlt : i * sp + k < nb * sp := by
     have:(i+1)*sp<=nb*sp:=yy sp h;rw [yl]at this;omega
    rw [jD (by rw [XX];exact hlt)];exact Uf f sp nb i k h hk
  . have:i=nb:=by omega
    subst this;rw [jG (by rw [XX];omega),XX,Nat.add_sub_cancel_left];simp [hk]
def nw(cs:List Int)(n L s:Nat):Nat:=(((s:Int)+(cs.getD ((L:Int).fmod 8).toNat 0).fdiv 3).fmod n).toNat
def pk(cs:List Int)(n dp sp L k s:Nat):Nat:=if 0<dp then k / (sp / n)else nw cs n L s
def lat(cs:List Int)(n dp sp L k s:Nat):Nat:=if 0<dp then k % (sp / n)*n+nw cs n L s else 0
def chp(rows:List 'f')(i p:Nat):Pr:=(rows.getD i []).getD p ([],0)
def Z7(base:List Nat)(rows:List 'f')(cs:List Int)(n dp sp i k s:Nat):Pr:=((chp rows i (pk cs n dp sp (i*sp+k) k s)).1,mi base (chp rows i (pk cs n dp sp (i*sp+k) k s)).2*sp+lat cs n dp sp (i*sp+k) k s)
def ZW(base:List Nat)(rows:List 'f')(cs:List Int)(n dp sp i k:Nat):List Pr:=(List.range n).map (Z7 base rows cs n dp sp i k)
def rwD(r:List Pr):D := .tup (r.map prD)
theorem YU(cs:List Int){n:Nat}(hn:0<n)(L s:Nat):((s:Int)+(cs.getD ((L:Int).fmod 8).toNat 0).fdiv 3).fmod n=(nw cs n L s:Int)/\nw cs n L s<n:=by
 obtain⟨a,ha,hal⟩:=Z4 ((s:Int)+(cs.getD ((L:Int).fmod 8).toNat 0).fdiv 3) hn;unfold nw;rw [ha,j0];exact⟨rfl,hal⟩
theorem Zgq(cs:List Int){n:Nat}(L:Nat){s s':Nat}(h1:s<n)(h2:s'<n)(e:nw cs n L s=nw cs n L s'):s=s':=by
 have a1:=(YU cs (n:=n) 'a' L s).1;have a2:=(YU cs (n:=n) 'a' L s').1;rw [<-e]at a2;generalize (cs.getD ((L:Int).fmod 8).toNat 0).fdiv 3=x at a1 a2;rw [qG _ 'a']at a1 a2;rw [<-a2]at a1;have h1':(((s:Int)+x)-((s':Int)+x)) % n=0:=Int.emod_eq_emod_iff_emod_sub_eq_zero.mp a1;have h2':(((s':Int)+x)-((s:Int)+x)) % n=0:=Int.emod_eq_emod_iff_emod_sub_eq_zero.mp a1.symm
 by_cases c:s'<=s
 . rw [Int.emod_eq_of_lt 'a' 'a']at h1'
   omega
 . rw [Int.emod_eq_of_lt 'a' 'a']at h2'
   omega
structure Dl(rows:List (List Pr))(n dp sp:Nat):Prop where
 n1:1<=n
 n3:n<=3
 d3:dp<=3
 s:sp=n ^ dp
 s8:sp<=8
 cn:∀row∈rows,n<=row.length
theorem Dl.s1{rows:List 'f'}{n dp sp:Nat}(h:Dl rows n dp sp):1<=sp:=by
 rw [h.s];exact Nat.pow_pos h.n1
theorem Dl.half{rows:List 'f'}{n dp sp:Nat}(h:Dl rows n dp sp)(hd:0<dp):sp / n=n ^ (dp-1)/\1<=sp / n/\sp=n*(sp / n):=by
 have e:sp=n*n ^ (dp-1):=by
  rw [h.s];obtain⟨d,rfl⟩:∃d,dp=d+1:=⟨dp-1,by omega⟩
  rw [uj,qN,Nat.add_sub_cancel]
 have e2:sp / n=n ^ (dp-1):=by
  rw [e];exact Nat.mul_div_cancel_left _ h.n1
 exact⟨e2,by rw [e2];exact Nat.pow_pos h.n1,by rw [e2];exact e⟩
theorem Vw{rows:List 'f'}{n dp sp:Nat}(h:Dl rows n dp sp)(cs:List Int){L k s:Nat}(hk:k<sp):pk cs n dp sp L k s<n:=by
 unfold pk
 by_cases hd:0<dp
 . rw [je hd]
   obtain⟨_,h1,e⟩:=h.half hd;rw [uM h1,<-e];exact hk
 . rw [jg hd]
   exact(YU cs h.n1 L s).2
theorem Zkn{rows:List 'f'}{n dp sp:Nat}(h:Dl rows n dp sp)(cs:List Int){L k s:Nat}:lat cs n dp sp L k s<sp:=by
 unfold lat
 by_cases hd:0<dp
 . rw [je hd]
   obtain⟨_,h1,e⟩:=h.half hd;have h2:=(YU cs h.n1 L s).2;have h3:=Nat.mod_lt k h1;have h4:(k % (sp / n)+1)*n<=(sp / n)*n:=yy n h3;rw [yl,qN (sp / n) n,<-e]at h4;omega
 . rw [jg hd]
   exact h.s1
section
variable{mk:List Nat}{gw:Gw}{base:List Nat}{rows:List 'f'}{n dp sp q:Nat}{cs:List Int}
noncomputable def d13:EN->Option Out:=(Ze 13 (eOp modW (eOp addX (Za 12) (eOp fdivW (eOp ixD (Za 4) (eOp modW (eCB lenD (Zb (Za 7) eNil)) (eC (.int 8)))) 't')) (Za 2)))
noncomputable def d14:EN->Option Out:=(Ze 14 (Za 13))
noncomputable def d15:EN->Option Out:=(Ze 15 'm')
noncomputable def dT:EN->Option Bool:=(xB (eOp (ZJ λi j=>decide (j<i)) (Za 3) 'm'))
noncomputable def dH:EN->Option D:=(eOp fdivW (Za 5) (Za 2))
noncomputable def dP:EN->Option Out:=(Ze 14 (eOp fdivW (Za 10) dH))
noncomputable def dL:EN->Option Out:=(Ze 15 (eOp addX (eOp mulX (eOp modW (Za 10) dH) (Za 2)) (Za 13)))
noncomputable def dI:EN->Option Out:=(sIf dT (Zd dP dL) sNext)
noncomputable def dG:EN->Option Out:=(Y2 (ZY 2 (Zz 16 (Zz 17 gsNil))) (eOp ixD (eOp ixD (Za 1) (eLM lindexD (Za 0) (Za 9))) (Za 14)))
noncomputable def dA:EN->Option Out:=(ZE 11 (ZD (Zb (Za 16) (Zb (eOp addX (eOp mulX (eLM lindexD (Za 0) (Za 17)) (Za 5)) (Za 15)) eNil))))
noncomputable def dS:EN->Option Out:=Zd d13 (Zd d14 (Zd d15 (Zd dI (Zd dG dA))))
noncomputable def dR:EN->Option Out:=Zq (Zr 'r') (Zj 12) dS
noncomputable def dK:EN->Option Out:=Zd (Ze 11 (Zo eNil)) (Zd dR (Zd (ZE 7 (Za 9)) (ZE 8 (eCB ZM (Zb (Za 11) eNil)))))
noncomputable def dB:EN->Option Out:=Zq (Zr (Zb (Za 5) eNil)) (Zj 10) dK
noncomputable def dM:EN->Option Out:=(Zq (Zr (Zb (Za 3) eNil)) (Zj 6) (Ze 5 (eOp mulX (Za 5) (Za 2))))
theorem Zcx:JD=Zd (Ze 5 'd') (Zd dM (Zd (Ze 7 (Zo eNil)) (Zd (Ze 8 (Zo eNil)) (Zd (Zq (ZF (Za 0)) (Zj 9) dB) (Zt (ZD (Zb (eCB ZM (Zb (Za 7) eNil)) (Zb (eCB ZM (Zb (Za 8) eNil)) eNil)))))))):=rfl
abbrev E18(base:List Nat)(rows:List 'f')(n dp:Nat)(cs:List Int)(sp:Nat)(v6 v7 v8 v9 v10 v11 v12 v13 v14 v15 v16 v17:Option D):EN:=[some (AD base),some (.lst (rows.map lrD)),some (nD n),some (nD dp),some (IL cs),some (nD sp),v6,v7,v8,v9,v10,v11,v12,v13,v14,v15,v16,v17]
theorem Zl5(h:Dl rows n dp sp){L k s:Nat}(v6 v7 v8 v9 v11 v12 v16 v17:Option D):dI (E18 base rows n dp cs sp v6 v7 v8 v9 'i' v11 v12 (some (nD (nw cs n L s))) (some (nD (nw cs n L s))) (some (nD 0)) v16 v17)=some (.nx (E18 base rows n dp cs sp v6 v7 v8 v9 'i' v11 v12 (some (nD (nw cs n L s))) (some (nD (pk cs n dp sp L k s))) (some (nD (lat cs n dp sp L k s))) v16 v17)):=by
 have n1:=h.n1;have n3:=h.n3;have s8:=h.s8;have et:dT (E18 base rows n dp cs sp v6 v7 v8 v9 'i' v11 v12 (some (nD (nw cs n L s))) (some (nD (nw cs n L s))) (some (nD 0)) v16 v17)=some (decide ((0:Int)<(dp:Int))):=ZH ((Zg (x:=nD dp) (y:=.int 0) rfl rfl).trans rfl);unfold pk lat
 by_cases hd:0<dp
 . rw [je hd,je hd]
   rw [jN 'a']at et;obtain⟨_,h1,_⟩:=h.half hd;have hle:sp / n<=sp:=Nat.div_le_self _ _;have eH:∀v14 v15,dH (E18 base rows n dp cs sp v6 v7 v8 v9 'i' v11 v12 (some (nD (nw cs n L s))) v14 v15 v16 v17)=some (nD (sp / n)):=λv14 v15=>(Zg (x:=nD sp) (y:=nD n) rfl rfl).trans ((Yz 'a' 'a').trans (by rw [<-Int.ofNat_fdiv]))
   have tP:dP (E18 base rows n dp cs sp v6 v7 v8 v9 'i' v11 v12 (some (nD (nw cs n L s))) (some (nD (nw cs n L s))) (some (nD 0)) v16 v17)=some (.nx (E18 base rows n dp cs sp v6 v7 v8 v9 'i' v11 v12 (some (nD (nw cs n L s))) (some (nD (k / (sp / n)))) (some (nD 0)) v16 v17)):=Zp ((Zg (x:=nD k) rfl (eH _ _)).trans ((Yz 'a' 'a').trans (by rw [<-Int.ofNat_fdiv])))
   have tL:dL (E18 base rows n dp cs sp v6 v7 v8 v9 'i' v11 v12 (some (nD (nw cs n L s))) (some (nD (k / (sp / n)))) (some (nD 0)) v16 v17)=some (.nx (E18 base rows n dp cs sp v6 v7 v8 v9 'i' v11 v12 (some (nD (nw cs n L s))) (some (nD (k / (sp / n)))) (some (nD (k % (sp / n)*n+nw cs n L s))) v16 v17)):=Zp ((Zg (y:=nD (nw cs n L s)) ((Zg (y:=nD n) ((Zg (x:=nD k) rfl (eH _ _)).trans ((ZP 'a').trans (by rw [<-Int.ofNat_fmod]))) rfl).trans (Xm 'a' 'a')) rfl).trans ((add_int _ _).trans (by rw [nD,uh,ug])))
   refine(ZZ et).trans ?_;rw [Zh tP];exact tL
 . rw [jg hd,jg hd]
   rw [jF 'a']at et;exact(Z0 et).trans rfl
theorem Qp(hb:Base gw base)(hc:Ch mk gw base q rows)(h:Dl rows n dp sp){i p:Nat}(hi:i<base.length)(hp:p<n):rows[i]? = some (rows.getD i [])/\(rows.getD i [])[p]? = some (chp rows i p)/\BOk mk gw (base.getD i 0) q (chp rows i p)/\(chp rows i p).2∈base:=by
 have hl:i<rows.length:=by rw [hc.ln];exact hi
 have e1:rows[i]? = some (rows.getD i []):=by rw [jv,jd hl];rfl
 have hn:=h.cn _ (jI e1)
 have e2:(rows.getD i [])[p]? = some (chp rows i p):=by
  unfold chp;rw [jv (l:=rows.getD i []),jd 'a'];rfl
 have e3:base[i]? = some (base.getD i 0):=by rw [jv,jd hi];rfl
 obtain⟨o1,_,_⟩:=hc.ok i _ _ e1 e3;obtain⟨o2,o3⟩:=o1 _ (jI e2);exact⟨e1,e2,o2,o3⟩
theorem Zl6(hb:Base gw base)(hc:Ch mk gw base q rows)(h:Dl rows n dp sp)(hcs:cs.length=20){i k s:Nat}(hi:i<base.length)(hk:k<sp)(hs:s<n){hm:List Nat}(hl:hm.length=i*sp+k)(acc:List Pr)(ha:acc.length<=100)(v6 v8 v13 v14 v15 v16 v17:Option D):∃w13 w14 w15 w16 w17,dS (E18 base rows n dp cs sp v6 (some (AD hm)) v8 'j' 'i' (some (.lst (acc.map prD))) (some (nD s)) v13 v14 v15 v16 v17)=some (.nx (E18 base rows n dp cs sp v6 (some (AD hm)) v8 'j' 'i' (some (.lst ((acc++[Z7 base rows cs n dp sp i k s]).map prD))) (some (nD s)) w13 w14 w15 w16 w17)):=by
 have n1:=h.n1;have n3:=h.n3;have s8:=h.s8;obtain⟨a8,e8,l8⟩:=Z4 ((i*sp+k:Nat):Int) (m:=8) 'b';have e8':((i*sp+k:Nat):Int).fmod 8=(a8:Int):=e8;obtain⟨ew,lw⟩:=YU cs (n:=n) n1 (i*sp+k) s;rw [e8',j0]at ew
 have t13:d13 (E18 base rows n dp cs sp v6 (some (AD hm)) v8 'j' 'i' (some (.lst (acc.map prD))) (some (nD s)) v13 v14 v15 v16 v17)=some (.nx (E18 base rows n dp cs sp v6 (some (AD hm)) v8 'j' 'i' (some (.lst (acc.map prD))) (some (nD s)) (some (nD (nw cs n (i*sp+k) s))) v14 v15 v16 v17)):=by
  have eL:eOp modW (eCB lenD (Zb (Za 7) eNil)) (eC (.int 8)) (E18 base rows n dp cs sp v6 (some (AD hm)) v8 'j' 'i' (some (.lst (acc.map prD))) (some (nD s)) v13 v14 v15 v16 v17)=some (nD a8):=(Zg (x:=nD (i*sp+k)) (y:=.int 8) ((ZA (Zf (x:=AD hm) rfl nil_of)).trans (len_lst.trans (by rw [ja,hl]))) rfl).trans ((ZP 'b').trans (by rw [e8']))
  exact Zp ((Zg (y:=nD n) ((Zg (x:=nD s) rfl ((Zg (y:=.int 3) ((Zg (x:=IL cs) rfl eL).trans (Vr 'a')) rfl).trans (Yz 'b' 'b'))).trans (add_int _ _)) rfl).trans ((ZP 'a').trans (by rw [ew])))
 have t14:d14 (E18 base rows n dp cs sp v6 (some (AD hm)) v8 'j' 'i' (some (.lst (acc.map prD))) (some (nD s)) (some (nD (nw cs n (i*sp+k) s))) v14 v15 v16 v17)=some (.nx (E18 base rows n dp cs sp v6 (some (AD hm)) v8 'j' 'i' (some (.lst (acc.map prD))) (some (nD s)) (some (nD (nw cs n (i*sp+k) s))) (some (nD (nw cs n (i*sp+k) s))) v15 v16 v17)):=Zp rfl
 have t15:d15 (E18 base rows n dp cs sp v6 (some (AD hm)) v8 'j' 'i' (some (.lst (acc.map prD))) (some (nD s)) (some (nD (nw cs n (i*sp+k) s))) (some (nD (nw cs n (i*sp+k) s))) v15 v16 v17)=some (.nx (E18 base rows n dp cs sp v6 (some (AD hm)) v8 'j' 'i' (some (.lst (acc.map prD))) (some (nD s)) (some (nD (nw cs n (i*sp+k) s))) (some (nD (nw cs n (i*sp+k) s))) (some (nD 0)) v16 v17)):=Zp rfl
 have tI:=Zl5 (base:=base) (cs:=cs) h (L:=i*sp+k) (k:=k) (s:=s) v6 (some (AD hm)) v8 'j' (some (.lst (acc.map prD))) (some (nD s)) v16 v17;have lp:=Vw h cs (L:=i*sp+k) (s:=s) hk;have hres:Z7 base rows cs n dp sp i k s=((chp rows i (pk cs n dp sp (i*sp+k) k s)).1,mi base (chp rows i (pk cs n dp sp (i*sp+k) k s)).2*sp+lat cs n dp sp (i*sp+k) k s):=rfl
 rw [hres];unfold dS;rw [Zh t13,Zh t14,Zh t15,Zh tI];clear t13 t14 t15 tI hres;generalize nw cs n (i*sp+k) s=w;generalize pk cs n dp sp (i*sp+k) k s=p at lp ⊢;generalize lat cs n dp sp (i*sp+k) k s=lt;obtain⟨c1,c2,c3,c4⟩:=Qp hb hc h hi lp;generalize chp rows i p=pr at c2 c3 c4 ⊢
 have hbm:base.getD i 0∈base:=by
  rw [jv,jd hi];exact q5 hi
 have tG:dG (E18 base rows n dp cs sp v6 (some (AD hm)) v8 'j' 'i' (some (.lst (acc.map prD))) (some (nD s)) (some (nD w)) (some (nD p)) (some (nD lt)) v16 v17)=some (.nx (E18 base rows n dp cs sp v6 (some (AD hm)) v8 'j' 'i' (some (.lst (acc.map prD))) (some (nD s)) (some (nD w)) (some (nD p)) (some (nD lt)) (some (.str pr.1)) (some (nD pr.2)))):=by
  refine JP ((Zg (x:=lrD (rows.getD i [])) (y:=nD p) ((Zg (x:=.lst (rows.map lrD)) (y:=nD i) rfl ((ZiO (P:=base) (t:=base.getD i 0) rfl rfl hbm).trans (by rw [JL hb.nd hi]))).trans (Vq (by rw [ji,c1];rfl))) rfl).trans ?_);exact Vq (x:=prD pr) (by rw [ji,c2];rfl)
 have eT:ZD (Zb (Za 16) (Zb (eOp addX (eOp mulX (eLM lindexD (Za 0) (Za 17)) (Za 5)) (Za 15)) eNil)) (E18 base rows n dp cs sp v6 (some (AD hm)) v8 'j' 'i' (some (.lst (acc.map prD))) (some (nD s)) (some (nD w)) (some (nD p)) (some (nD lt)) (some (.str pr.1)) (some (nD pr.2)))=some (prD (pr.1,mi base pr.2*sp+lt)):=YL (Zf (x:=.str pr.1) rfl (Zf (x:=nD (mi base pr.2*sp+lt)) ((Zg (y:=nD lt) ((Zg (y:=nD sp) (ZiO (P:=base) (t:=pr.2) rfl rfl c4) rfl).trans (Xm 'a' 'a')) rfl).trans ((add_int _ _).trans (by rw [nD,uh,ug]))) nil_of)) (by show 2<=1000;decide)
 refine⟨some (nD w),some (nD p),some (nD lt),some (.str pr.1),some (nD pr.2),?_⟩;rw [Zh tG];refine(YM (xs:=acc.map prD) rfl eT (by rw [ja];omega)).trans ?_;rw [jm];rfl
theorem Zl7(hb:Base gw base)(hc:Ch mk gw base q rows)(h:Dl rows n dp sp)(hcs:cs.length=20){i k:Nat}(hi:i<base.length)(hk:k<sp){hm:List Nat}(hl:hm.length=i*sp+k)(v6 v8 v12 v13 v14 v15 v16 v17:Option D):∃w12 w13 w14 w15 w16 w17,dR (E18 base rows n dp cs sp v6 (some (AD hm)) v8 'j' 'i' (some 'p') v12 v13 v14 v15 v16 v17)=some (.nx (E18 base rows n dp cs sp v6 (some (AD hm)) v8 'j' 'i' (some (.lst ((ZW base rows cs n dp sp i k).map prD))) w12 w13 w14 w15 w16 w17)):=by
 have n3:=h.n3
 obtain⟨δ',f,w12,w13,w14,w15,w16,w17,e⟩:=YT (γ:=Zj 12) (φ:=dS) (λs δ=>∃w12 w13 w14 w15 w16 w17,δ=E18 base rows n dp cs sp v6 (some (AD hm)) v8 'j' 'i' (some (.lst (((List.range s).map (Z7 base rows cs n dp sp i k)).map prD))) w12 w13 w14 w15 w16 w17) ((List.range n).map nD) 0 (E18 base rows n dp cs sp v6 (some (AD hm)) v8 'j' 'i' (some 'p') v12 v13 v14 v15 v16 v17) ⟨_,_,_,_,_,_,rfl⟩ (by
  rintro s x δ hx ⟨w12,w13,w14,w15,w16,w17,rfl⟩
  have hs:s<n:=by
   have:=(jt.mp hx).1
   rwa [ja,jC]at this
  rw [ji,j1 hs]at hx;cases hx;rw [jW];obtain⟨y13,y14,y15,y16,y17,hS⟩:=Zl6 hb hc h hcs hi hk hs hl ((List.range s).map (Z7 base rows cs n dp sp i k)) (by rw [ja,jC];omega) v6 v8 w13 w14 w15 w16 w17;refine⟨_,rfl,_,hS,some (nD s),y13,y14,y15,y16,y17,?_⟩;rw [show(List.range (s+1)).map (Z7 base rows cs n dp sp i k)=(List.range s).map (Z7 base rows cs n dp sp i k)++[Z7 base rows cs n dp sp i k s] by rw [qB,jm];rfl])
 subst e;rw [ja,jC,jW]at f;exact⟨w12,w13,w14,w15,w16,w17,ZO (Yo (m:=n) rfl 'a') f⟩
theorem Zl8(hb:Base gw base)(hc:Ch mk gw base q rows)(h:Dl rows n dp sp)(hcs:cs.length=20){i k:Nat}(hi:i<base.length)(hk:k<sp){hm:List Nat}(hl:hm.length=i*sp+k)(W:List 'f')(hW:W.length<=100)(v6 v11 v12 v13 v14 v15 v16 v17:Option D):∃w11 w12 w13 w14 w15 w16 w17,dK (E18 base rows n dp cs sp v6 (some (AD hm)) (some (.lst (W.map rwD))) 'j' 'i' v11 v12 v13 v14 v15 v16 v17)=some (.nx (E18 base rows n dp cs sp v6 (some (AD (hm++[base.getD i 0]))) (some (.lst ((W++[ZW base rows cs n dp sp i k]).map rwD))) 'j' 'i' w11 w12 w13 w14 w15 w16 w17)):=by
 have n3:=h.n3;have s8:=h.s8;have b4:=hb.l4;have t1:Ze 11 (Zo eNil) (E18 base rows n dp cs sp v6 (some (AD hm)) (some (.lst (W.map rwD))) 'j' 'i' v11 v12 v13 v14 v15 v16 v17)=some (.nx (E18 base rows n dp cs sp v6 (some (AD hm)) (some (.lst (W.map rwD))) 'j' 'i' (some 'p') v12 v13 v14 v15 v16 v17)):=Zp (Yc nil_of (by show 0<=1000;decide))
 obtain⟨w12,w13,w14,w15,w16,w17,tR⟩:=Zl7 hb hc h hcs hi hk hl v6 (some (.lst (W.map rwD))) v12 v13 v14 v15 v16 v17
 have hlen:hm.length<=100:=by
  have:i*sp<=3*8:=yR 'a' s8;omega
 generalize ZW base rows cs n dp sp i k=row at tR ⊢;generalize base.getD i 0=r at t1 tR ⊢
 have t7:ZE 7 (Za 9) (E18 base rows n dp cs sp v6 (some (AD hm)) (some (.lst (W.map rwD))) (some (nD r)) 'i' (some (.lst (row.map prD))) w12 w13 w14 w15 w16 w17)=some (.nx (E18 base rows n dp cs sp v6 (some (AD (hm++[r]))) (some (.lst (W.map rwD))) (some (nD r)) 'i' (some (.lst (row.map prD))) w12 w13 w14 w15 w16 w17)):=by
  refine(YM (xs:=hm.map nD) (d:=nD r) rfl rfl (by rw [ja];omega)).trans ?_;rw [show AD (hm++[r]) = .lst (hm.map nD++[nD r]) by rw [AD,jm];rfl];rfl
 have t8:ZE 8 (eCB ZM (Zb (Za 11) eNil)) (E18 base rows n dp cs sp v6 (some (AD (hm++[r]))) (some (.lst (W.map rwD))) (some (nD r)) 'i' (some (.lst (row.map prD))) w12 w13 w14 w15 w16 w17)=some (.nx (E18 base rows n dp cs sp v6 (some (AD (hm++[r]))) (some (.lst ((W++[row]).map rwD))) (some (nD r)) 'i' (some (.lst (row.map prD))) w12 w13 w14 w15 w16 w17)):=by
  refine(YM (xs:=W.map rwD) (d:=rwD row) rfl ((ZA (Zf (x:=.lst (row.map prD)) rfl nil_of)).trans rfl) (by rw [ja];omega)).trans ?_;rw [jm];rfl
 refine⟨some (.lst (row.map prD)),w12,w13,w14,w15,w16,w17,?_⟩;unfold dK;rw [Zh t1,Zh tR,Zh t7];exact t8
def dHm(base:List Nat)(sp i:Nat):List Nat:=(List.range i).flatMap λi=>(List.range sp).map λ_=>base.getD i 0
def dW(base:List Nat)(rows:List 'f')(cs:List Int)(n dp sp i:Nat):List 'f':=(List.range i).flatMap λi=>(List.range sp).map (ZW base rows cs n dp sp i)
theorem JQ(base:List Nat)(sp i:Nat):(dHm base sp i).length=i*sp:=XX (λi _=>base.getD i 0) sp i
theorem Zgr(base:List Nat)(rows:List 'f')(cs:List Int)(n dp sp i:Nat):(dW base rows cs n dp sp i).length=i*sp:=XX (ZW base rows cs n dp sp) sp i
theorem Zl9(hb:Base gw base)(hc:Ch mk gw base q rows)(h:Dl rows n dp sp)(hcs:cs.length=20){i:Nat}(hi:i<base.length)(v6 v10 v11 v12 v13 v14 v15 v16 v17:Option D):∃w10 w11 w12 w13 w14 w15 w16 w17,dB (E18 base rows n dp cs sp v6 (some (AD (dHm base sp i))) (some (.lst ((dW base rows cs n dp sp i).map rwD))) 'j' v10 v11 v12 v13 v14 v15 v16 v17)=some (.nx (E18 base rows n dp cs sp v6 (some (AD (dHm base sp (i+1)))) (some (.lst ((dW base rows cs n dp sp (i+1)).map rwD))) 'j' w10 w11 w12 w13 w14 w15 w16 w17)):=by
 have s8:=h.s8;have b4:=hb.l4;have hle:i*sp<=3*8:=yR 'a' s8
 obtain⟨δ',f,w10,w11,w12,w13,w14,w15,w16,w17,e⟩:=YT (γ:=Zj 10) (φ:=dK) (λk δ=>∃w10 w11 w12 w13 w14 w15 w16 w17,δ=E18 base rows n dp cs sp v6 (some (AD (dHm base sp i++(List.range k).map λ_=>base.getD i 0))) (some (.lst ((dW base rows cs n dp sp i++(List.range k).map (ZW base rows cs n dp sp i)).map rwD))) 'j' w10 w11 w12 w13 w14 w15 w16 w17) ((List.range sp).map nD) 0 (E18 base rows n dp cs sp v6 (some (AD (dHm base sp i))) (some (.lst ((dW base rows cs n dp sp i).map rwD))) 'j' v10 v11 v12 v13 v14 v15 v16 v17) ⟨v10,v11,v12,v13,v14,v15,v16,v17,by simp⟩ (by
  rintro k x δ hx ⟨w10,w11,w12,w13,w14,w15,w16,w17,rfl⟩
  have hk:k<sp:=by
   have:=(jt.mp hx).1
   rwa [ja,jC]at this
  rw [ji,j1 hk]at hx;cases hx;rw [jW];obtain⟨y11,y12,y13,y14,y15,y16,y17,hK⟩:=Zl8 hb hc h hcs hi hk (hm:=dHm base sp i++(List.range k).map λ_=>base.getD i 0) (by rw [jc,JQ,ja,jC]) (dW base rows cs n dp sp i++(List.range k).map (ZW base rows cs n dp sp i)) (by rw [jc,Zgr,ja,jC];omega) v6 w11 w12 w13 w14 w15 w16 w17
  refine⟨_,rfl,_,hK,some (nD k),y11,y12,y13,y14,y15,y16,y17,?_⟩;rw [show(List.range (k+1)).map (ZW base rows cs n dp sp i)=(List.range k).map (ZW base rows cs n dp sp i)++[ZW base rows cs n dp sp i k] by rw [qB,jm];rfl,show((List.range (k+1)).map λ_=>base.getD i 0)=((List.range k).map λ_=>base.getD i 0)++[base.getD i 0] by rw [qB,jm];rfl,qr,qr])
 subst e;rw [ja,jC,jW]at f
 have e1:dHm base sp (i+1)=dHm base sp i++(List.range sp).map λ_=>base.getD i 0:=by
  unfold dHm;rw [qB,qe];simp
 have e2:dW base rows cs n dp sp (i+1)=dW base rows cs n dp sp i++(List.range sp).map (ZW base rows cs n dp sp i):=by
  unfold dW;rw [qB,qe];simp
 rw [e1,e2];exact⟨w10,w11,w12,w13,w14,w15,w16,w17,ZO (Yo (m:=sp) rfl 'a') f⟩
theorem Zcy(hb:Base gw base)(hc:Ch mk gw base q rows)(h:Dl rows n dp sp)(hcs:cs.length=20):U8 [AD base,.lst (rows.map lrD),nD n,nD dp,IL cs]=some (.tup [.tup ((dHm base sp base.length).map nD),.tup ((dW base rows cs n dp sp base.length).map rwD)]):=by
 have n3:=h.n3;have d3:=h.d3;have t5:Ze 5 'd' [some (AD base),some (.lst (rows.map lrD)),some (nD n),some (nD dp),some (IL cs),none,none,none,none,none,none,none,none,none,none,none,none,none]=some (.nx (E18 base rows n dp cs 1 none none none none none none none none none none none none)):=Zp rfl
 obtain⟨δ1,f1,w6,e1⟩:=YT (γ:=Zj 6) (φ:=Ze 5 (eOp mulX (Za 5) (Za 2))) (λk δ=>∃w6,δ=E18 base rows n dp cs (n ^ k) w6 none none none none none none none none none none none) ((List.range dp).map nD) 0 (E18 base rows n dp cs 1 none none none none none none none none none none none none) ⟨_,rfl⟩ (by
  rintro k x δ hx ⟨w6,rfl⟩
  have hk:k<dp:=by
   have:=(jt.mp hx).1
   rwa [ja,jC]at this
  rw [ji,j1 hk]at hx;cases hx;rw [jW];exact⟨_,rfl,_,Zp ((Zg (x:=nD (n ^ k)) (y:=nD n) rfl rfl).trans ((Xm 'a' 'a').trans (show _=some (nD (n ^ (k+1))) by rw [uj,nD,ug]))),some (nD k),rfl⟩)
 subst e1;rw [ja,jC,jW,<-h.s]at f1;have t7:Ze 7 (Zo eNil) (E18 base rows n dp cs sp w6 none none none none none none none none none none none)=some (.nx (E18 base rows n dp cs sp w6 (some 'p') none none none none none none none none none none)):=Zp (Yc nil_of (by show 0<=1000;decide));have t8:Ze 8 (Zo eNil) (E18 base rows n dp cs sp w6 (some 'p') none none none none none none none none none none)=some (.nx (E18 base rows n dp cs sp w6 (some 'p') (some 'p') none none none none none none none none none)):=Zp (Yc nil_of (by show 0<=1000;decide))
 obtain⟨δ2,f2,y9,y10,y11,y12,y13,y14,y15,y16,y17,e2⟩:=YT (γ:=Zj 9) (φ:=dB) (λi δ=>∃w9 w10 w11 w12 w13 w14 w15 w16 w17,δ=E18 base rows n dp cs sp w6 (some (AD (dHm base sp i))) (some (.lst ((dW base rows cs n dp sp i).map rwD))) w9 w10 w11 w12 w13 w14 w15 w16 w17) (base.map nD) 0 (E18 base rows n dp cs sp w6 (some 'p') (some 'p') none none none none none none none none none) ⟨_,_,_,_,_,_,_,_,_,rfl⟩ (by
  rintro i x δ hx ⟨w9,w10,w11,w12,w13,w14,w15,w16,w17,rfl⟩
  have hi:i<base.length:=by
   have:=(jt.mp hx).1
   rwa [ja]at this
  have e3:base[i]? = some (base.getD i 0):=by rw [jv,jd hi];rfl
  rw [ji,e3]at hx;cases hx;rw [jW];obtain⟨z10,z11,z12,z13,z14,z15,z16,z17,hB⟩:=Zl9 hb hc h hcs hi w6 w10 w11 w12 w13 w14 w15 w16 w17;exact⟨_,rfl,_,hB,_,_,_,_,_,_,_,_,_,rfl⟩)
 subst e2;rw [ja,jW]at f2;refine Yi rfl ?_;rw [Zcx];refine(Zh t5).trans ?_;have tM:dM (E18 base rows n dp cs 1 none none none none none none none none none none none none)=some (.nx (E18 base rows n dp cs sp w6 none none none none none none none none none none none)):=ZO (Yo (m:=dp) rfl 'a') f1;rw [Zh tM,Zh t7,Zh t8,Zh (ZO (Y9 rfl) f2)];exact ZR (YL (Zf ((ZA (Zf (x:=AD (dHm base sp base.length)) rfl nil_of)).trans rfl) (Zf ((ZA (Zf (x:=.lst ((dW base rows cs n dp sp base.length).map rwD)) rfl nil_of)).trans rfl) nil_of)) (by show 2<=1000;decide))
end
def st(W:List 'f')(a s:Nat):Option Pr:=(W[a]?).bind (·[s]?)
inductive Pth(W:List (List Pr)):Nat->List Nat->List (List Nat)->Nat->Prop
 |nil (a:Nat):Pth W a [] [] a
 |cons {a s a' e:Nat} {b:List Nat} {ss:List Nat} {bs:List (List Nat)}:st W a s=some (b,a')->Pth W a' ss bs e->Pth W a (s::ss) (b::bs) e
section
variable{mk:List Nat}{gw:Gw}{base:List Nat}{rows:List 'f'}{n dp sp q:Nat}{cs:List Int}
theorem Qq{i k s:Nat}{p:Pr}(hi:i<base.length)(hk:k<sp)(h:st (dW base rows cs n dp sp base.length) (i*sp+k) s=some p):s<n/\p=Z7 base rows cs n dp sp i k s:=by
 unfold st at h;have e:(dW base rows cs n dp sp base.length)[i*sp+k]? = some (ZW base rows cs n dp sp i k):=Uf (ZW base rows cs n dp sp) sp base.length i k hi hk;rw [e]at h;replace h:(ZW base rows cs n dp sp i k)[s]? = some p:=h;unfold ZW at h;rw [ji]at h
 by_cases hs:s<n
 . rw [j1 hs]at h
   exact⟨hs,(jo h).symm⟩
 . rw [yq (by simpa using hs)]at h
   cases h
theorem Zdk(hb:Base gw base)(hc:Ch mk gw base q rows)(h:Dl rows n dp sp){i p p':Nat}(hi:i<base.length)(hp:p<n)(hp':p'<n)(e:(chp rows i p).1=(chp rows i p').1):p=p':=by
 obtain⟨c1,c2,_,_⟩:=Qp hb hc h hi hp;obtain⟨_,c3,_,_⟩:=Qp hb hc h hi hp';have e3:base[i]? = some (base.getD i 0):=by rw [jv,jd hi];rfl
 obtain⟨_,nd,_⟩:=hc.ok i _ _ c1 e3;have l1:=(jt.mp c2).1;have l2:=(jt.mp c3).1;have g1:((rows.getD i []).map (·.1))[p]? = some (chp rows i p).1:=by rw [ji,c2];rfl
 have g2:((rows.getD i []).map (·.1))[p']? = some (chp rows i p).1:=by rw [ji,c3,e];rfl
 exact(List.getElem?_inj (by rw [ja];exact l1) nd).mp (g1.trans g2.symm)
theorem Zma(hb:Base gw base)(hc:Ch mk gw base q rows)(h:Dl rows n dp sp){i p:Nat}(hi:i<base.length)(hp:p<n):mi base (chp rows i p).2<base.length:=(Zkm (Qp hb hc h hi hp).2.2.2).1
theorem Xn(hb:Base gw base)(hc:Ch mk gw base q rows)(h:Dl rows n dp sp){i k s:Nat}(hi:i<base.length)(hk:k<sp):∃i' k',i'<base.length/\k'<sp/\(Z7 base rows cs n dp sp i k s).2=i'*sp+k'/\i'=mi base (chp rows i (pk cs n dp sp (i*sp+k) k s)).2/\k'=lat cs n dp sp (i*sp+k) k s:=⟨_,_,Zma hb hc h hi (Vw h cs hk),Zkn h cs,rfl,rfl,rfl⟩
theorem JR(hb:Base gw base)(hc:Ch mk gw base q rows)(h:Dl rows n dp sp)(hd:0<dp):∀L,L<=dp->∀(i k1 k2:Nat)(ss ss':List Nat)(bs:List (List Nat))(e e':Nat),i<base.length->k1<sp->k2<sp->L<=bs.length->Pth (dW base rows cs n dp sp base.length) (i*sp+k1) ss bs e->Pth (dW base rows cs n dp sp base.length) (i*sp+k2) ss' bs e'->k1 / n ^ (dp-L)=k2 / n ^ (dp-L)
 |0,_,i,k1,k2,ss,ss',bs,e,e',hi,h1,h2,_,_,_=>by
  rw [Nat.sub_zero,<-h.s,qZ h1,qZ h2]
 |L+1,hL,i,k1,k2,ss,ss',bs,e,e',hi,h1,h2,hl,p1,p2=>by
  have n1:=h.n1;obtain⟨hh,hh1,hh2⟩:=h.half hd;cases p1 with
  |nil=>exact absurd hl 'c'
  |cons s1 q1=>
   cases p2 with
   |cons s2 q2=>
    rename_i s a1 b ss1 bs1 s' a2 ss2;obtain⟨ls,e1⟩:=Qq hi h1 s1;obtain⟨ls',e2⟩:=Qq hi h2 s2;obtain⟨i1,m1,hi1,hm1,w1,w2,w3⟩:=Xn (cs:=cs) hb hc h (s:=s) hi h1;obtain⟨i2,m2,hi2,hm2,y1,y2,y3⟩:=Xn (cs:=cs) hb hc h (s:=s') hi h2;have x1:=congrArg Prod.fst e1;have x2:=congrArg Prod.fst e2;have z1:a1=i1*sp+m1:=(congrArg Prod.snd e1).trans w1;have z2:a2=i2*sp+m2:=(congrArg Prod.snd e2).trans y1
    have P1:pk cs n dp sp (i*sp+k1) k1 s=k1 / (sp / n):=by unfold pk;rw [je hd]
    have P2:pk cs n dp sp (i*sp+k2) k2 s'=k2 / (sp / n):=by unfold pk;rw [je hd]
    have ep:pk cs n dp sp (i*sp+k1) k1 s=pk cs n dp sp (i*sp+k2) k2 s':=Zdk hb hc h hi (Vw h cs h1) (Vw h cs h2) (x1.symm.trans x2);have ei:i1=i2:=by rw [w2,y2,ep]
    subst ei;rw [z1]at q1;rw [z2]at q2;have ih:=JR hb hc h hd L 'a' i1 m1 m2 ss1 ss2 bs1 e e' hi1 hm1 hm2 (by rw [jx]at hl;omega) q1 q2;have L1:m1=k1 % (sp / n)*n+nw cs n (i*sp+k1) s:=by rw [w3];unfold lat;rw [je hd]
    have L2:m2=k2 % (sp / n)*n+nw cs n (i*sp+k2) s':=by rw [y3];unfold lat;rw [je hd]
    have N1:=(YU cs n1 (i*sp+k1) s).2;have N2:=(YU cs n1 (i*sp+k2) s').2;rw [P1,P2]at ep;generalize nw cs n (i*sp+k1) s=u1 at L1 N1;generalize nw cs n (i*sp+k2) s'=u2 at L2 N2;rw [hh]at L1 L2 ep;have D1:m1 / n=k1 % n ^ (dp-1):=by rw [L1,qN,ub n1,qZ N1,uD]
    have D2:m2 / n=k2 % n ^ (dp-1):=by rw [L2,qN,ub n1,qZ N2,uD]
    have hp:n ^ (dp-L)=n*n ^ (dp-(L+1)):=by
     rw [show dp-L=(dp-(L+1))+1 by omega,uj,qN]
    rw [hp,<-qv,<-qv,D1,D2]at ih
    have hq:n ^ (dp-1)=n ^ (dp-(L+1))*n ^ L:=by
     rw [<-Nat.pow_add]
     congr 1
     omega
    have A1:=uI k1 (n ^ (dp-1));have A2:=uI k2 (n ^ (dp-1));have pos:0<n ^ (dp-(L+1)):=Nat.pow_pos n1
    have B:∀k t r:Nat,n ^ (dp-1)*t+r=k->k / n ^ (dp-(L+1))=n ^ L*t+r / n ^ (dp-(L+1)):=λk t r hk=>by
     rw [<-hk,hq,Nat.mul_assoc,ub pos]
    rw [B k1 _ _ A1,B k2 _ _ A2,ep,ih]
theorem dec(hb:Base gw base)(hc:Ch mk gw base q rows)(h:Dl rows n dp sp){a s s' e e':Nat}{ss ss':List Nat}{bs:List (List Nat)}(ha:a<base.length*sp)(hl:dp+1<=bs.length)(p1:Pth (dW base rows cs n dp sp base.length) a (s::ss) bs e)(p2:Pth (dW base rows cs n dp sp base.length) a (s'::ss') bs e'):s=s':=by
 have n1:=h.n1;have hs:=h.s1;obtain⟨i,k,hi,hk,rfl⟩:∃i k,i<base.length/\k<sp/\a=i*sp+k:=⟨a / sp,a % sp,by rw [uM hs];exact ha,Nat.mod_lt _ hs,by rw [qN];exact(uI a sp).symm⟩
 cases p1 with
 |cons s1 q1=>
  cases p2 with
  |cons s2 q2=>
   rename_i a1 b bs1 a2;obtain⟨ls,e1⟩:=Qq hi hk s1;obtain⟨ls',e2⟩:=Qq hi hk s2;have x1:=congrArg Prod.fst e1;have x2:=congrArg Prod.fst e2;have ep:pk cs n dp sp (i*sp+k) k s=pk cs n dp sp (i*sp+k) k s':=Zdk hb hc h hi (Vw h cs hk) (Vw h cs hk) (x1.symm.trans x2)
   by_cases hd:0<dp
   . obtain⟨i1,m1,hi1,hm1,w1,w2,w3⟩:=Xn (cs:=cs) hb hc h (s:=s) hi hk
     obtain⟨i2,m2,hi2,hm2,y1,y2,y3⟩:=Xn (cs:=cs) hb hc h (s:=s') hi hk;have z1:a1=i1*sp+m1:=(congrArg Prod.snd e1).trans w1;have z2:a2=i2*sp+m2:=(congrArg Prod.snd e2).trans y1;have ei:i1=i2:=by rw [w2,y2,ep]
     subst ei;rw [z1]at q1;rw [z2]at q2;have t:=JR hb hc h hd dp (jk _) i1 m1 m2 _ _ bs1 e e' hi1 hm1 hm2 (by rw [jx]at hl;omega) q1 q2;rw [yQ,Nat.pow_zero,Nat.div_one,Nat.div_one,w3,y3]at t;unfold lat at t;rw [je hd,je hd]at t;exact Zgq cs (i*sp+k) ls ls' 'a'
   . unfold pk at ep
     rw [jg hd,jg hd]at ep;exact Zgq cs (i*sp+k) ls ls' ep
end
theorem XY{δ:EN}{ns:List Int}(k:Nat)(h:Za 0 δ=some (IL ns)):Zn 2 ZS [] (Zb (Za 0) (Zb (eC (.int (k:Int))) eNil)) δ=some (.int (ns.getD k 0)):=(Z3 (n:=2) (Zf h (Zf (x:=.int (k:Int)) rfl nil_of)) rfl).trans (Zdd ns k)
theorem ZhY{a b:List D}(h:a.length+b.length<=100000):Vm (.lst a) (.lst b)=some (.lst (a++b)):=ZhO h
noncomputable def e2:EN->Option D:=(Zn 2 ZS [] (Zb (Za 0) (Zb 'o' eNil)))
noncomputable def e3:EN->Option D:=(Zn 2 ZS [] (Zb (Za 0) (Zb 't' eNil)))
noncomputable def a2:EN->Option Out:=(Ze 2 (Zn 2 U4 [] (Zb (Zn 2 ZS [] (Zb (Za 0) (Zb 'd' eNil))) (Zb e2 eNil))))
noncomputable def a3:EN->Option Out:=(Ze 3 (Vl (Zb (eCB lenD (Zb (eOp ixD (Za 2) 'd') eNil)) eNil)))
noncomputable def a3':EN->Option Out:=(sIf (xB (eOp eqD (eOp modW (eOp fdivW e2 (eC (.int 36))) 'o') 'd')) (Ze 3 (Zo (Zb (eOp modW (eOp fdivW e2 (eC (.int 72))) (eCB lenD (Zb (Za 3) eNil))) eNil))) sNext)
noncomputable def a4:EN->Option Out:=(Ze 4 (Zn 3 U7 [] (Zb (Za 2) (Zb (Za 3) (Zb e3 eNil)))))
noncomputable def a5:EN->Option Out:=(Ze 5 (eCB minQD (Zb (eOp Vm (Zo (Zb (eOp addX 'd' (eOp modW (eOp fdivW e3 (eC (.int 4))) 't')) eNil)) (ZV (ZF (Za 4)) (Zj 0) (λ_=>some true) (eCB lenD 'n') 1 [])) eNil)))
noncomputable def a6:EN->Option Out:=(Ze 6 (eOp ixD (Zo (Zb 'm' (Zb 'm' (Zb 'd' (Zb 'd' (Zb 'd' (Zb 'o' (Zb 'o' (Zb 't' eNil))))))))) (eOp modW (eOp fdivW e3 (eC (.int 12))) (eC (.int 8)))))
noncomputable def b6:EN->Option Out:=(sIf (xB (eOp (ZJ λi j=>decide (j<i)) (eCB lenD (Zb (Za 3) eNil)) 'o')) (Ze 6 (eCB minD (Zb (Za 6) (Zb 'o' eNil)))) sNext)
noncomputable def c6:EN->Option Out:=(sIf (xB (eOp eqD (Za 5) 't')) (Ze 6 (eCB minD (Zb (Za 6) (Zb 'd' eNil)))) sNext)
noncomputable def d6:EN->Option Out:=(sIf (xB (eOp eqD (Za 5) 'd')) (Ze 6 'm') sNext)
noncomputable def a7:EN->Option Out:=(Y2 (ZY 2 (Zz 7 (Zz 8 gsNil))) (Zn 5 U8 [] (Zb (Za 3) (Zb (Za 4) (Zb (Za 5) (Zb (Za 6) (Zb (Za 1) eNil)))))))
theorem ZhZ:JE=Zd a2 (Zd a3 (Zd a3' (Zd a4 (Zd a5 (Zd a6 (Zd b6 (Zd c6 (Zd d6 (Zd a7 (Zt (ZD (Zb (Za 2) (Zb (Za 7) (Zb (Za 8) (Zb (Za 6) eNil))))))))))))))):=rfl
abbrev L9(ns cs:List Int)(v2 v3 v4 v5 v6 v7 v8:Option D):EN:=[some (IL ns),some (IL cs),v2,v3,v4,v5,v6,v7,v8]
structure Late(mk:List Nat)(gw:Gw)(base:List Nat)(q:Nat)(rows:List (List Pr))(n dp sp:Nat):Prop where
 g:GOk mk gw
 hb:Base gw base
 hc:Ch mk gw base q rows
 dl:Dl rows n dp sp
 n2:0<dp->2<=n
theorem Zfz{gw:Gw}(h1:1<=gw.length)(h4:gw.length<=4):Base gw (List.range gw.length):=⟨by rw [jC];exact h1,λr hr=>jX.mp hr,List.nodup_range,by rw [jC];exact h4⟩
theorem Zh0{gw:Gw}(g:GOk mk gw)(ns cs:List Int)(x:Int)(v4 v5 v6 v7 v8:Option D):∃base,Base gw base/\a3' (L9 ns cs (some (gD mk gw x)) (some (AD (List.range gw.length))) v4 v5 v6 v7 v8)=some (.nx (L9 ns cs (some (gD mk gw x)) (some (AD base)) v4 v5 v6 v7 v8)):=by
 have r1:=g.r1;have r4:=g.r4;have ec:e2 (L9 ns cs (some (gD mk gw x)) (some (AD (List.range gw.length))) v4 v5 v6 v7 v8)=some (.int (ns.getD 2 0)):=XY 2 rfl;have et:xB (eOp eqD (eOp modW (eOp fdivW e2 (eC (.int 36))) 'o') 'd') (L9 ns cs (some (gD mk gw x)) (some (AD (List.range gw.length))) v4 v5 v6 v7 v8)=some (decide (((ns.getD 2 0).fdiv 36).fmod 2=1)):=ZH ((Zg (y:=.int 1) ((Zg (y:=.int 2) ((Zg (y:=.int 36) ec rfl).trans (Yz 'b' 'b')) rfl).trans (ZP 'b')) rfl).trans (YS _ _))
 by_cases hz:((ns.getD 2 0).fdiv 36).fmod 2=1
 . rw [jN hz]at et
   obtain⟨r,hr,hrl⟩:=Z4 ((ns.getD 2 0).fdiv 72) (m:=gw.length) r1;refine⟨[r],⟨by simp,λz hz=>by rw [ju.mp hz];exact hrl,by simp,by simp⟩,(ZZ et).trans ?_⟩;refine Zp (Yc (Zf (x:=nD r) ((Zg (y:=nD gw.length) ((Zg (y:=.int 72) ec rfl).trans (Yz 'b' 'b')) ((ZA (Zf (x:=AD (List.range gw.length)) rfl nil_of)).trans (len_lst.trans (by rw [ja,jC])))).trans ((ZP 'a').trans (by rw [hr]))) nil_of) (by show 1<=1000;decide))
 . rw [jF hz]at et
   exact⟨List.range gw.length,Zfz r1 r4,(Z0 et).trans rfl⟩
theorem Zh1{gw:Gw}{q:Nat}{rows:List 'f'}(hb:Base gw base)(hc:Ch mk gw base q rows)(ns cs:List Int)(v2 v3 v5 v6 v7 v8:Option D):∃n:Nat,1<=n/\n<=3/\(∀row∈rows,n<=row.length)/\a5 (L9 ns cs v2 v3 (some (.lst (rows.map lrD))) v5 v6 v7 v8)=some (.nx (L9 ns cs v2 v3 (some (.lst (rows.map lrD))) (some (nD n)) v6 v7 v8)):=by
 have hb4:=hb.l4;have ec:e3 (L9 ns cs v2 v3 (some (.lst (rows.map lrD))) v5 v6 v7 v8)=some (.int (ns.getD 3 0)):=XY 3 rfl;obtain⟨a,ha,hal⟩:=Z4 ((ns.getD 3 0).fdiv 4) (m:=3) 'b';have ha':((ns.getD 3 0).fdiv 4).fmod 3=(a:Int):=ha;have hc8:Yh (Zj 0) (λ_=>some true) (eCB lenD 'n') [none] (rows.map lrD)=some (rows.map λr=>D.int (r.length:Int)):=XV lrD _ _ λrow _=>⟨[some (lrD row)],rfl,(ZA (Zf (x:=lrD row) rfl nil_of)).trans (len_lst.trans (by rw [ja]))⟩
 have hl:0<((1+(a:Int))::rows.map λr=>(r.length:Int)).length:=by simp
 obtain⟨m1,m2⟩:=UI hl
 have hpos:∀y∈(1+(a:Int))::rows.map (λr=>(r.length:Int)),1<=y:=λy hy=>by
  rcases jA.mp hy with rfl|hy
  . omega
  . obtain⟨row,hr,rfl⟩:=jE.mp hy
    obtain⟨i,hi,e⟩:=List.mem_iff_getElem.mp hr;have hib:i<base.length:=by rw [<-hc.ln];exact hi
    have:=(hc.ok i row base[i] (by rw [jd hi,e]) (jd hib)).2.2.1;omega
 have t5:a5 (L9 ns cs v2 v3 (some (.lst (rows.map lrD))) v5 v6 v7 v8)=some (.nx (L9 ns cs v2 v3 (some (.lst (rows.map lrD))) (some (.int (YC ((1+(a:Int))::rows.map λr=>(r.length:Int))))) v6 v7 v8)):=by
  refine Zp ((ZA (Zf (x:=.lst (((1+(a:Int))::rows.map λr=>(r.length:Int)).map D.int)) ((Zg (x:=.lst [.int (1+(a:Int))]) (y:=.lst (rows.map λr=>D.int (r.length:Int))) (Yc (Zf ((Zg (x:=.int 1) (y:=.int (a:Int)) rfl ((Zg (y:=.int 3) ((Zg (y:=.int 4) ec rfl).trans (Yz 'b' 'b')) rfl).trans ((ZP 'b').trans (by rw [ha'])))).trans (add_int _ _)) nil_of) (by show 1<=1000;decide)) (XT (Y9 rfl) rfl hc8 (by rw [ja,hc.ln];omega))).trans ((ZhY (by rw [ja,hc.ln];show 1+base.length<=100000;omega)).trans (by rw [jp,jZ];rfl))) nil_of)).trans (Zdj hl))
 have h1:=hpos _ m1;have h2:=m2 _ jj;generalize YC ((1+(a:Int))::rows.map λr=>(r.length:Int))=z at m1 m2 t5 h1 h2;obtain⟨n,rfl⟩:=Zge (i:=z) 'a'
 exact⟨n,by omega,by omega,λrow hr=>by
  have:=m2 _ (jq _ (jE.mpr ⟨row,hr,rfl⟩));omega,t5⟩
theorem Zko:∀a:Nat,a<8->∃d:Nat,d<=3/\([.int 0,.int 0,.int 1,.int 1,.int 1,.int 2,.int 2,.int 3]:List D)[a]? = some (nD d):=λa ha=>by
 have:a=0\/a=1\/a=2\/a=3\/a=4\/a=5\/a=6\/a=7:=by omega
 rcases this with rfl|rfl|rfl|rfl|rfl|rfl|rfl|rfl
 . exact⟨0,by decide,rfl⟩
 . exact⟨0,by decide,rfl⟩
 . exact⟨1,by decide,rfl⟩
 . exact⟨1,by decide,rfl⟩
 . exact⟨1,by decide,rfl⟩
 . exact⟨2,by decide,rfl⟩
 . exact⟨2,by decide,rfl⟩
 . exact⟨3,by decide,rfl⟩
theorem Zkp(ns cs:List Int)(v2 v3 v4 v5 v6 v7 v8:Option D):∃d:Nat,d<=3/\a6 (L9 ns cs v2 v3 v4 v5 v6 v7 v8)=some (.nx (L9 ns cs v2 v3 v4 v5 (some (nD d)) v7 v8)):=by
 have ec:e3 (L9 ns cs v2 v3 v4 v5 v6 v7 v8)=some (.int (ns.getD 3 0)):=XY 3 rfl;obtain⟨a,ha,hal⟩:=Z4 ((ns.getD 3 0).fdiv 12) (m:=8) 'b';have ha':((ns.getD 3 0).fdiv 12).fmod 8=(a:Int):=ha;obtain⟨d,hd,e⟩:=Zko a hal;exact⟨d,hd,Zp ((Zg (y:=nD a) (Yc (Zf rfl (Zf rfl (Zf rfl (Zf rfl (Zf rfl (Zf rfl (Zf rfl (Zf rfl nil_of)))))))) (show 8<=1000 by decide)) ((Zg (y:=.int 8) ((Zg (y:=.int 12) ec rfl).trans (Yz 'b' 'b')) rfl).trans ((ZP 'b').trans (by rw [ha'])))).trans (Vq e))⟩
theorem Zgs(d k:Nat):∃d':Nat,d'<=d/\d'<=k/\minD [nD d,nD k]=some (nD d'):=by
 show ∃d':Nat,d'<=d/\d'<=k/\some (D.int (if(k:Int)<(d:Int)then(k:Int)else(d:Int)))=some (nD d')
 by_cases h:k<d
 . exact⟨k,by omega,by omega,by rw [je 'a']⟩
 . exact⟨d,by omega,by omega,by rw [jg 'a']⟩
theorem Zmb(ns cs:List Int)(base:List Nat)(d:Nat)(v2 v4 v5 v7 v8:Option D):∃d':Nat,d'<=d/\b6 (L9 ns cs v2 (some (AD base)) v4 v5 (some (nD d)) v7 v8)=some (.nx (L9 ns cs v2 (some (AD base)) v4 v5 (some (nD d')) v7 v8)):=by
 have et:xB (eOp (ZJ λi j=>decide (j<i)) (eCB lenD (Zb (Za 3) eNil)) 'o') (L9 ns cs v2 (some (AD base)) v4 v5 (some (nD d)) v7 v8)=some (decide ((2:Int)<(base.length:Int))):=ZH ((Zg (x:=.int (base.length:Int)) (y:=.int 2) ((ZA (Zf (x:=AD base) rfl nil_of)).trans (len_lst.trans (by rw [ja]))) rfl).trans rfl);obtain⟨d',h1,_,e⟩:=Zgs d 2;cases hz:decide ((2:Int)<(base.length:Int))with
 |true=>
  rw [hz]at et;exact⟨d',h1,(ZZ et).trans (Zp ((ZA (Zf (x:=nD d) rfl (Zf (x:=nD 2) rfl nil_of))).trans e))⟩
 |false=>
  rw [hz]at et;exact⟨d,jk _,(Z0 et).trans rfl⟩
theorem Zmc(ns cs:List Int)(n d:Nat)(v2 v3 v4 v7 v8:Option D):∃d':Nat,d'<=d/\(n=3->d'<=1)/\c6 (L9 ns cs v2 v3 v4 (some (nD n)) (some (nD d)) v7 v8)=some (.nx (L9 ns cs v2 v3 v4 (some (nD n)) (some (nD d')) v7 v8)):=by
 have et:xB (eOp eqD (Za 5) 't') (L9 ns cs v2 v3 v4 (some (nD n)) (some (nD d)) v7 v8)=some (decide ((n:Int)=3)):=ZH ((Zg (x:=nD n) (y:=.int 3) rfl rfl).trans (YS _ _));obtain⟨d',h1,h2,e⟩:=Zgs d 1
 by_cases hz:(n:Int)=3
 . rw [jN hz]at et
   exact⟨d',h1,λ_=>h2,(ZZ et).trans (Zp ((ZA (Zf (x:=nD d) rfl (Zf (x:=nD 1) rfl nil_of))).trans e))⟩
 . rw [jF hz]at et
   exact⟨d,jk _,λh=>absurd 'a' hz,(Z0 et).trans rfl⟩
theorem Zmd(ns cs:List Int)(n d:Nat)(v2 v3 v4 v7 v8:Option D):∃d':Nat,d'<=d/\(n=1->d'=0)/\d6 (L9 ns cs v2 v3 v4 (some (nD n)) (some (nD d)) v7 v8)=some (.nx (L9 ns cs v2 v3 v4 (some (nD n)) (some (nD d')) v7 v8)):=by
 have et:xB (eOp eqD (Za 5) 'd') (L9 ns cs v2 v3 v4 (some (nD n)) (some (nD d)) v7 v8)=some (decide ((n:Int)=1)):=ZH ((Zg (x:=nD n) (y:=.int 1) rfl rfl).trans (YS _ _))
 by_cases hz:(n:Int)=1
 . rw [jN hz]at et
   exact⟨0,jR _,λ_=>rfl,(ZZ et).trans (Zp rfl)⟩
 . rw [jF hz]at et
   exact⟨d,jk _,λh=>absurd 'a' hz,(Z0 et).trans rfl⟩
theorem Zh2(ns cs:List Int)(hcs:cs.length=20):∃mk gw x base q rows n dp sp,Late mk gw base q rows n dp sp/\U9 [IL ns,IL cs]=some (.tup [gD mk gw x,.tup ((dHm base sp base.length).map nD),.tup ((dW base rows cs n dp sp base.length).map rwD),nD dp]):=by
 obtain⟨mk,gw,x,g,eg⟩:=Zer (ns.getD 1 0) (ns.getD 2 0);have t2:a2 (L9 ns cs none none none none none none none)=some (.nx (L9 ns cs (some (gD mk gw x)) none none none none none none)):=Zp ((Z3 (n:=2) (Zf (XY 1 rfl) (Zf (XY 2 rfl) nil_of)) rfl).trans eg);have r4:=g.r4
 have t3:a3 (L9 ns cs (some (gD mk gw x)) none none none none none none)=some (.nx (L9 ns cs (some (gD mk gw x)) (some (AD (List.range gw.length))) none none none none none)):=by
  refine Zp ?_;unfold Vl;rw [show Zb (eCB lenD (Zb (eOp ixD (Za 2) 'd') eNil)) eNil (L9 ns cs (some (gD mk gw x)) none none none none none none)=some [nD gw.length]from Zf ((ZA (Zf (ZiN rfl) nil_of)).trans (len_tup.trans (by rw [ja]))) nil_of];dsimp only;rw [je 'a',j0]
 obtain⟨base,hb,tb⟩:=Zh0 g ns cs x none none none none none;obtain⟨q,rows,hc,ec⟩:=Zcw g hb x (ns.getD 3 0);have t4:a4 (L9 ns cs (some (gD mk gw x)) (some (AD base)) none none none none none)=some (.nx (L9 ns cs (some (gD mk gw x)) (some (AD base)) (some (.lst (rows.map lrD))) none none none none)):=Zp ((Z3 (n:=3) (Zf (x:=gD mk gw x) rfl (Zf (x:=AD base) rfl (Zf (XY 3 rfl) nil_of))) rfl).trans ec)
 obtain⟨n,n1,n3,cn,t5⟩:=Zh1 hb hc ns cs (some (gD mk gw x)) (some (AD base)) none none none none;obtain⟨d0,h0,t6⟩:=Zkp ns cs (some (gD mk gw x)) (some (AD base)) (some (.lst (rows.map lrD))) (some (nD n)) none none none;obtain⟨d1,h1,u6⟩:=Zmb ns cs base d0 (some (gD mk gw x)) (some (.lst (rows.map lrD))) (some (nD n)) none none;obtain⟨d2,h2,h2',v6⟩:=Zmc ns cs n d1 (some (gD mk gw x)) (some (AD base)) (some (.lst (rows.map lrD))) none none
 obtain⟨dp,h3,h3',w6⟩:=Zmd ns cs n d2 (some (gD mk gw x)) (some (AD base)) (some (.lst (rows.map lrD))) none none
 have dl:Dl rows n dp (n ^ dp):=by
  refine⟨n1,n3,by omega,rfl,?_,cn⟩;have hn:n=1\/n=2\/n=3:=by omega
  rcases hn with rfl|rfl|rfl
  . rw [Nat.one_pow];decide
  . have:dp=0\/dp=1\/dp=2\/dp=3:=by omega
    rcases this with rfl|rfl|rfl|rfl<;>decide
  . have:=h2' rfl
    have:dp=0\/dp=1:=by omega
    rcases this with rfl|rfl<;>decide
 refine⟨mk,gw,x,base,q,rows,n,dp,n ^ dp,⟨g,hb,hc,dl,λz=>by omega⟩,Yi (δ:=L9 ns cs none none none none none none none) rfl ?_⟩;have t7:a7 (L9 ns cs (some (gD mk gw x)) (some (AD base)) (some (.lst (rows.map lrD))) (some (nD n)) (some (nD dp)) none none)=some (.nx (L9 ns cs (some (gD mk gw x)) (some (AD base)) (some (.lst (rows.map lrD))) (some (nD n)) (some (nD dp)) (some (.tup ((dHm base (n ^ dp) base.length).map nD))) (some (.tup ((dW base rows cs n dp (n ^ dp) base.length).map rwD))))):=JP ((Z3 (n:=5) (Zf (x:=AD base) rfl (Zf (x:=.lst (rows.map lrD)) rfl (Zf (x:=nD n) rfl (Zf (x:=nD dp) rfl (Zf (x:=IL cs) rfl nil_of))))) rfl).trans (Zcy hb hc dl hcs))
 rw [ZhZ,Zh t2,Zh t3,Zh tb,Zh t4,Zh t5,Zh t6,Zh u6,Zh v6,Zh w6,Zh t7];exact ZR (YL (Zf rfl (Zf rfl (Zf rfl (Zf rfl nil_of)))) (show 4<=1000 by decide))
section
variable{κ:Type} [DecidableEq κ]{F:κ->List κ}{ks:List κ}
def Yq(F:κ->List κ)(ks:List κ)(r:Nat):Prop:=∀k∈ks,Pl.Sb F r k=true
theorem Zme{i j:Nat}(h:i<=j){k:κ}(e:Pl.Sb F i k=true):Pl.Sb F j k=true:=by
 induction h with
 |refl=>exact e
 |step _ ih=>exact Pl.Sb_mono _ _ ih
theorem Zgt(hc:∀k∈ks,∀o∈F k,o∈ks){j:Nat}(h:∀k∈ks,Pl.Lv F j k=false):∀(d:Nat)(k:κ),k∈ks->Pl.Sb F (j+d) k=true->Pl.Sb F j k=true
 |0,k,_,e=>e
 |d+1,k,hk,e=>by
  have h1:Pl.Sb F (j+1) k=true:=by
   show(F k).all (Pl.Sb F j)=true;have e':(F k).all (Pl.Sb F (j+d))=true:=e;rw [jT]at e' ⊢;exact λo ho=>Zgt hc h d o (hc k hk o ho) (e' o ho)
  have h2:=h k hk;unfold Pl.Lv at h2;rw [h1]at h2;simpa using h2
theorem Zbh(hc:∀k∈ks,∀o∈F k,o∈ks){j r:Nat}(h:∀k∈ks,Pl.Lv F j k=false)(hr:Yq F ks r):Yq F ks j:=λk hk=>by
 by_cases hj:r<=j
 . exact Zme hj (hr k hk)
 . refine Zgt hc h (r-j) k hk ?_
   rw [show j+(r-j)=r by omega];exact hr k hk
theorem cnt_full{j:Nat}:Pl.cnt F ks j=ks.length ↔ Yq F ks j:=by
 unfold Pl.cnt Yq;exact List.length_filter_eq_length_iff
theorem Zb0{j:Nat}(h:¬∀k∈ks,Pl.Lv F j k=false):Pl.cnt F ks j+1<=Pl.cnt F ks (j+1)/\¬Yq F ks j:=by
 have:∃k,k∈ks/\Pl.Lv F j k=true:=ya λz=>h λk hk=>by
  cases e:Pl.Lv F j k with
  |false=>rfl
  |true=>exact absurd ⟨k,hk,e⟩ z
 obtain⟨k,hk,e⟩:=this;refine⟨?_,λz => ?_⟩
 . rw [Pl.cnt_succ]
   have:0<(ks.filter (Pl.Lv F j)).length:=qW (qh.mpr ⟨hk,e⟩);omega
 . unfold Pl.Lv at e
   rw [z k hk]at e;simp at e
theorem Zgu(hc:∀k∈ks,∀o∈F k,o∈ks):∀(f j:Nat),ks.length+1<=f+Pl.cnt F ks j->(∀i,i<j->¬Yq F ks i) ->
 (∃r,Yq F ks r/\(∀i,i<r->¬Yq F ks i)/\Pl.kah F ks f j=some r)\/((∀r,¬Yq F ks r)/\Pl.kah F ks f j=none)
 |0,j,h,_=>by have:=Pl.cnt_le (F:=F) (ks:=ks) j;omega
 |f+1,j,h,hn=>by
  unfold Pl.kah
  by_cases hl:∀k∈ks,Pl.Lv F j k=false
  . rw [je (by rw [jT];intro k hk;rw [hl k hk];rfl)]
    by_cases hf:Yq F ks j
    . rw [je (cnt_full.mpr hf)]
      exact .inl ⟨j,hf,hn,rfl⟩
    . rw [jg λz=>hf (cnt_full.mp z)]
      exact .inr ⟨λr hr=>hf (Zbh hc hl hr),rfl⟩
  . obtain⟨h1,h2⟩:=Zb0 hl
    rw [jg (λz=>hl λk hk=>by
     have:=jT.mp z k hk;simpa using this)]
    refine Zgu hc f (j+1) 'a' λi hi => ?_
    by_cases e:i=j
    . rw [e];exact h2
    . exact hn i 'a'
theorem ZfA(hc:∀k∈ks,∀o∈F k,o∈ks){r:Nat}(hr:Yq F ks r)(hn:∀i,i<r->¬Yq F ks i):r<=ks.length:=by
 have:∀i,i<=r->i<=Pl.cnt F ks i:=λi=>by
  induction i with
  |zero=>exact λ_=>jR _
  |succ i ih=>
   intro hi;have h1:=ih 'a';have h2:=(Zb0 (F:=F) (ks:=ks) (j:=i) λz=>hn i 'a' (Zbh hc z hr)).1;omega
 exact jL (this r (jk _)) (Pl.cnt_le r)
end
abbrev PI:=Int×Int
def sw(p:PI):PI:=(p.2,p.1)
def mx(p:PI):PI:=Fw.mm p.1 p.2
theorem ZiP(p:PI):mx p=p\/mx p=sw p:=by
 obtain⟨a,c⟩:=p;unfold mx Fw.mm sw;rcases Int.lt_trichotomy a c with h|h|h
 . left;rw [jg 'a',je h]
 . left;rw [jg 'a',jg 'a',h]
 . right;rw [je h,jg 'a']
theorem Zmf(p:PI):mx (sw p)=mx p:=by
 obtain⟨a,c⟩:=p;unfold mx Fw.mm sw;dsimp only;rcases Int.lt_trichotomy a c with h|h|h
 . rw [je h,jg (show ¬a>c by omega),jg (show ¬c<a by omega),je (show c>a by omega)]
 . rw [h]
 . rw [jg (show ¬a<c by omega),je (show a>c by omega),je h,jg (show ¬c>a by omega)]
def Nx(W:List 'f')(p x:PI):Prop:=∃s s' b y y',st W p.1.toNat s=some (b,y)/\st W p.2.toNat s'=some (b,y')/\x=((y:Int),(y':Int))
theorem Zmg{W:List 'f'}{p x:PI}(h:Nx W p x):Nx W (sw p) (sw x):=by
 obtain⟨s,s',b,y,y',h1,h2,rfl⟩:=h;exact⟨s',s,b,y',y,h2,h1,rfl⟩
def Sw(W:List 'f'):Nat->PI->Prop
 |0,_=>False
 |k+1,p=>∀x,Nx W p x->Sw W k x
theorem JS{W:List 'f'}:∀(k:Nat)(p:PI),Sw W k p->Sw W k (sw p)
 |0,_,h=>h
 |k+1,p,h=>λx hx=>JS k (sw x) (h (sw x) (Zmg hx))
def Dom(m:Nat)(p:PI):Prop:=(0<=p.1/\p.1<m)/\0<=p.2/\p.2<m
theorem Zkq{m:Nat}{p:PI}(h:Dom m p):Dom m (sw p):=⟨h.2,h.1⟩
theorem Vx{m:Nat}{p:PI}(h:Dom m p):Dom m (mx p):=by
 rcases ZiP p with e|e
 . rw [e];exact h
 . rw [e];exact Zkq h
theorem sw_mx{W:List 'f'}{k:Nat}{p:PI}:Sw W k (mx p) ↔ Sw W k p:=by
 rcases ZiP p with e|e
 . rw [e]
 . rw [e];exact⟨λh=>JS k _ h,λh=>JS k _ h⟩
structure TOk(m:Nat)(H:List Nat)(W:List (List Pr)):Prop where
 m1:1<=m
 m32:m<=32
 hl:H.length=m
 wl:W.length=m
 rl:∀r∈W,r.length<=3
 pl:∀r∈W,∀p∈r,p.2<m
theorem Qr{W:List 'f'}{a s:Nat}{x:Pr}(h:st W a s=some x):∃r,W[a]? = some r/\r[s]? = some x:=by
 unfold st at h;cases hr:W[a]? with
 |none=>rw [hr]at h;cases h
 |some r=>rw [hr]at h;exact⟨r,rfl,h⟩
theorem TOk.st_lt{m:Nat}{H:List Nat}{W:List 'f'}(t:TOk m H W){a s:Nat}{x:Pr}(h:st W a s=some x):x.2<m:=by
 obtain⟨r,h1,h2⟩:=Qr h;exact t.pl r (jI h1) x (jI h2)
theorem TOk.nx_dom{m:Nat}{H:List Nat}{W:List 'f'}(t:TOk m H W){p x:PI}(h:Nx W p x):Dom m x:=by
 obtain⟨s,s',b,y,y',h1,h2,rfl⟩:=h;have:=t.st_lt h1;have:=t.st_lt h2;exact⟨⟨by omega,by show(y:Int)<m;dsimp only at *;omega⟩,by omega,by show(y':Int)<m;dsimp only at *;omega⟩
def JT(m:Nat)(W:List 'f')(F:PI->List PI):Prop:=∀p,Dom m p->∀x,x∈F p ↔ ∃y,Nx W p y/\x=mx y
theorem Qs{m:Nat}{W:List 'f'}{F:PI->List PI}(t:TOk m H W)(hF:JT m W F):∀(k:Nat)(p:PI),Dom m p->(Pl.Sb F k p=true ↔ Sw W k p)
 |0,p,_=>⟨λh=>(by cases h),λh=>h.elim⟩
 |k+1,p,hp=>by
  show(F p).all (Pl.Sb F k)=true ↔ _;rw [jT];constructor
  . intro h x hx
    have:=h (mx x) ((hF p hp _).mpr ⟨x,hx,rfl⟩);exact sw_mx.mp ((Qs t hF k _ (Vx (t.nx_dom hx))).mp this)
  . intro h x hx
    obtain⟨y,hy,rfl⟩:=(hF p hp x).mp hx;exact(Qs t hF k _ (Vx (t.nx_dom hy))).mpr (sw_mx.mpr (h y hy))
def Fst(H:List Nat)(W:List 'f')(x:PI):Prop:=∃a a' h s s' b y y',H[a]? = some h/\H[a']? = some h/\s≠s'/\st W a s=some (b,y)/\st W a' s'=some (b,y')/\x=((y:Int),(y':Int))
theorem TOk.fst_dom{m:Nat}{H:List Nat}{W:List 'f'}(t:TOk m H W){x:PI}(h:Fst H W x):Dom m x:=by
 obtain⟨a,a',hh,s,s',b,y,y',_,_,_,h1,h2,rfl⟩:=h;have:=t.st_lt h1;have:=t.st_lt h2;exact⟨⟨by omega,by show(y:Int)<m;dsimp only at *;omega⟩,by omega,by show(y':Int)<m;dsimp only at *;omega⟩
def Lk(H:List Nat)(W:List 'f')(k:Nat):Prop:=∀x,Fst H W x->Sw W k x
theorem Zh3{m:Nat}{W:List 'f'}{F:PI->List PI}(t:TOk m H W)(hF:JT m W F){B:List PI}(hB:∀x,x∈B ↔ ∃y,Fst H W y/\x=mx y)(k:Nat):Yq F B k ↔ Lk H W k:=by
 constructor
 . intro h x hx
   exact sw_mx.mp ((Qs t hF k _ (Vx (t.fst_dom hx))).mp (h (mx x) ((hB _).mpr ⟨x,hx,rfl⟩)))
 . intro h x hx
   obtain⟨y,hy,rfl⟩:=(hB x).mp hx;exact(Qs t hF k _ (Vx (t.fst_dom hy))).mpr (sw_mx.mpr (h y hy))
structure Clo(F:PI->List PI)(B Q:List PI):Prop where
 nd:Q.Nodup
 beg:∀p∈B,p∈Q
 clo:∀p∈Q,∀o∈F p,o∈Q
 min:∀P:PI->Prop,(∀p∈B,P p)->(∀p,P p->∀o∈F p,P o)->∀p∈Q,P p
theorem ZfB{F:PI->List PI}{B Q:List PI}(c:Clo F B Q)(k:Nat):Yq F Q k ↔ Yq F B k:=by
 refine⟨λh p hp=>h p (c.beg p hp),λh=>c.min (λp=>Pl.Sb F k p=true) h λp hp o ho => ?_⟩;cases k with
 |zero=>cases hp
 |succ k=>exact Pl.Sb_mono _ _ (jT.mp (show(F p).all (Pl.Sb F k)=true from hp) o ho)
def toI(p:Pr):List Nat×Int:=(p.1,(p.2:Int))
def Hs(G:Pb.Bs)(w:List Nat)(x:Int):Prop:=∃g∈G,g.1=w/\x∈g.2
theorem Qt{g:List Nat×List Int}{G:Pb.Bs}{w:List Nat}{x:Int}:Hs (g::G) w x ↔ (g.1=w/\x∈g.2)\/Hs G w x:=by
 unfold Hs;simp only [jA,exists_eq_or_imp]
theorem Zdl{k w:List Nat}{p x:Int}:∀G:Pb.Bs,Hs (Pb.putB k p G) w x ↔ Hs G w x\/(w=k/\x=p)
 | []=>by
  show Hs [(k,[p])] w x ↔ _;unfold Hs;simp [eq_comm]
 |g::G=>by
  unfold Pb.putB
  by_cases e:g.1=k
  . rw [je e,Qt,Qt,jK,ju,e]
    grind
  . rw [jg e,Qt,Qt,Zdl G,uy]
theorem Zbi{k w:List Nat}{p x:Int}:∀G:Pb.Bs,x∈Fw.lookB w (Pb.putB k p G) ↔ x∈Fw.lookB w G\/(w=k/\x=p)
 | []=>by
  show x∈(if k=w then [p]else []) ↔ x∈[]\/_
  by_cases e:k=w
  . rw [je e,e];simp
  . rw [jg e];simp [jO e]
 |g::G=>by
  unfold Pb.putB
  by_cases e:g.1=k
  . rw [je e]
    unfold Fw.lookB;dsimp only
    by_cases e2:g.1=w
    . rw [je e2,je e2,jK,ju,<-e,e2];simp
    . rw [jg e2,jg e2,<-e];simp [jO e2]
  . rw [jg e]
    unfold Fw.lookB
    by_cases e2:g.1=w
    . rw [je e2,je e2,<-e2];simp [e]
    . rw [jg e2,jg e2]
      exact Zbi G
theorem Zb1{p:Int}:∀G:Pb.Bs,(Fw.lookB w (Pb.putB k p G)).length<=(Fw.lookB w G).length+1
 | []=>by
  show(if k=w then [p]else []).length<=_
  split<;>simp
 |g::G=>by
  unfold Pb.putB;have:=Zb1 (k:=k) (w:=w) (p:=p) G
  split<;>(unfold Fw.lookB;split)<;>first|omega|(rw [jc];simp)
def tot(G:Pb.Bs):Nat:=(G.map λg=>g.2.length).sum
theorem Zb2{p:Int}:∀G:Pb.Bs,tot (Pb.putB k p G)=tot G+1
 | []=>rfl
 |g::G=>by
  have:=Zb2 (k:=k) (p:=p) G;unfold tot at this ⊢;unfold Pb.putB
  split
  . rw [jp,jp,yV,yV,jc,qd];omega
  . rw [jp,jp,yV,yV];omega
theorem Ug{w:List Nat}{x:Int}:∀(r:List (List Nat×Int))(G:Pb.Bs),(Hs (Pb.putBs r G) w x ↔ Hs G w x\/(w,x)∈r)/\(x∈Fw.lookB w (Pb.putBs r G) ↔ x∈Fw.lookB w G\/(w,x)∈r)/\(Fw.lookB w (Pb.putBs r G)).length<=(Fw.lookB w G).length+r.length/\tot (Pb.putBs r G)=tot G+r.length
 | [],G=>⟨by simp [Pb.putBs],by simp [Pb.putBs],jk _,rfl⟩
 |y::r,G=>by
  obtain⟨h1,h2,h3,h4⟩:=Ug (w:=w) (x:=x) r (Pb.putB y.1 y.2 G);have l:=Zb1 (k:=y.1) (w:=w) (p:=y.2) G;have e:((w,x)=y) ↔ (w=y.1/\x=y.2):=⟨λh=>by rw [<-h];exact⟨rfl,rfl⟩,λ⟨h,h'⟩=>by rw [h,h']⟩
  unfold Pb.putBs;rw [jA,jx,e];refine⟨by rw [h1,Zdl,uy],by rw [h2,Zbi,uy],by omega,by rw [h4,Zb2];omega⟩
def GB(W:List 'f')(i:Int):Pb.Bs:=Pb.putBs ((W.getD i.toNat []).map toI) []
def FW(W:List 'f')(p:PI):List PI:=Fw.puts (Fw.ops (GB W p.1) (GB W p.2))
theorem Zgv{W:List 'f'}{a:Nat}{w:List Nat}{x:Int}:(w,x)∈(W.getD a []).map toI ↔ ∃s y,st W a s=some (w,y)/\x=(y:Nat):=by
 rw [List.mem_map,jv];unfold st;cases W[a]? with
 |none=>simp
 |some r=>
  constructor
  . rintro⟨⟨b,y⟩,hp,e⟩
    obtain⟨s,hs⟩:=List.getElem?_of_mem hp;cases e;exact⟨s,y,hs,rfl⟩
  . rintro⟨s,y,hs,rfl⟩
    exact⟨(w,y),jI hs,rfl⟩
theorem gb_hs{W:List 'f'}{i:Int}{w:List Nat}{x:Int}:Hs (GB W i) w x ↔ ∃s y,st W i.toNat s=some (w,y)/\x=(y:Nat):=by
 rw [<-Zgv];refine(Ug _ _).1.trans ⟨λh=>h.resolve_left (λ⟨_,z,_⟩=>nomatch z),.inr⟩
theorem gb_look{W:List 'f'}{i:Int}{w:List Nat}{x:Int}:x∈Fw.lookB w (GB W i) ↔ ∃s y,st W i.toNat s=some (w,y)/\x=(y:Nat):=by
 rw [<-Zgv];refine(Ug _ _).2.1.trans ⟨λh=>h.resolve_left (λz=>nomatch z),.inr⟩
theorem ZfC{x:PI}(l:List PI):x∈Fw.puts l ↔ x∈l:=by
 have:∀(l acc:List PI),x∈l.foldl (λxs p=>Wb.putP p xs) acc ↔ x∈acc\/x∈l:=λl=>by
  induction l with
  |nil=>exact λacc=>by simp
  |cons p l ih=>
   intro acc;rw [uf,ih,jA];unfold Wb.putP
   split
   . grind
   . rw [jK,ju,uy]
 unfold Fw.puts;rw [this];simp
theorem Zb3(m:Nat)(W:List 'f'):JT m W (FW W):=λp _ x=>by
 unfold FW;rw [ZfC];unfold Fw.ops;rw [qL];constructor
 . rintro⟨g,hg,h⟩
   unfold Fw.oM at h;obtain⟨a,ha,h⟩:=qL.mp h;obtain⟨c,hc,rfl⟩:=jE.mp h;obtain⟨s,y,h1,rfl⟩:=gb_hs.mp ⟨g,hg,rfl,ha⟩;obtain⟨s',y',h2,rfl⟩:=gb_look.mp hc;exact⟨_,⟨s,s',_,y,y',h1,h2,rfl⟩,rfl⟩
 . rintro⟨_,⟨s,s',b,y,y',h1,h2,rfl⟩,rfl⟩
   obtain⟨g,hg,rfl,ha⟩:=gb_hs.mpr ⟨s,y,h1,rfl⟩;exact⟨g,hg,qL.mpr ⟨_,ha,jE.mpr ⟨_,gb_look.mpr ⟨s',y',h2,rfl⟩,rfl⟩⟩⟩
theorem Zdm{c:Nat}{G2:Pb.Bs}(h:∀w,(Fw.lookB w G2).length<=c):∀G1:Pb.Bs,(Fw.ops G1 G2).length<=tot G1*c
 | []=>jR _
 |g::G=>by
  have h1:∀l:List Int,(l.flatMap (Fw.oL G2 g.1)).length<=l.length*c:=λl=>by
   induction l with
   |nil=>simp
   |cons a l ih=>
    rw [yu,jc,jx,yl];have:=h g.1;have:(Fw.oL G2 g.1 a).length<=c:=by unfold Fw.oL;rw [ja];exact this
    omega
  have h2:=Zdm h G;have h3:=h1 g.2;unfold Fw.ops at h2 ⊢;rw [yu,jc];unfold tot at h2 ⊢;rw [jp,yV,Nat.add_mul];unfold Fw.oM at *;omega
theorem TOk.row_ln{m:Nat}{H:List Nat}{W:List 'f'}(t:TOk m H W)(a:Nat):(W.getD a []).length<=3:=by
 rw [jv];cases h:W[a]? with
 |none=>exact jR _
 |some r=>exact t.rl r (jI h)
theorem TOk.ops9{m:Nat}{H:List Nat}{W:List 'f'}(t:TOk m H W)(p:PI):(Fw.ops (GB W p.1) (GB W p.2)).length<=9:=by
 have l1:=t.row_ln p.1.toNat;have l2:=t.row_ln p.2.toNat
 have h1:∀w,(Fw.lookB w (GB W p.2)).length<=3:=λw=>by
  have:=(Ug (w:=w) (x:=0) ((W.getD p.2.toNat []).map toI) []).2.2.1;rw [ja]at this;exact jL this (by show 0+_<=3;omega)
 have h2:=Zdm h1 (GB W p.1);have h3:=(Ug (w:=[]) (x:=0) ((W.getD p.1.toNat []).map toI) []).2.2.2;rw [ja]at h3;replace h3:tot (GB W p.1)=0+(W.getD p.1.toNat []).length:=h3;rw [h3]at h2;omega
theorem TOk.fw9{m:Nat}{H:List Nat}{W:List 'f'}(t:TOk m H W)(p:PI):(FW W p).length<=9:=jL (Fw.len_puts _) (t.ops9 p)
abbrev HK:=Int×List Nat
def Hg(G:List (HK×List PI))(k:HK)(e:PI):Prop:=∃g∈G,g.1=k/\e∈g.2
theorem Qu{g:HK×List PI}{G:List (HK×List PI)}{k:HK}{e:PI}:Hg (g::G) k e ↔ (g.1=k/\e∈g.2)\/Hg G k e:=by
 unfold Hg;simp only [jA,exists_eq_or_imp]
theorem ZfD{p x:PI}{l:List PI}:x∈Wb.putP p l ↔ x∈l\/x=p:=by
 unfold Wb.putP
 split
 . grind
 . rw [jK,ju]
theorem Zdn{k w:HK}{p x:PI}:∀G:List (HK×List PI),Hg (Wb.putG k p G) w x ↔ Hg G w x\/(w=k/\x=p)
 | []=>by
  show Hg [(k,[p])] w x ↔ _;unfold Hg;simp [eq_comm]
 |g::G=>by
  unfold Wb.putG
  by_cases e:g.1=k
  . rw [je e,Qu,Qu,ZfD,e]
    grind
  . rw [jg e,Qu,Qu,Zdn G,uy]
theorem Zdo{k:HK}{p:PI}:∀{G:List (HK×List PI)},(G.map (·.1)).Nodup->(∀w∈(Wb.putG k p G).map (·.1),w∈G.map (·.1)\/w=k)/\((Wb.putG k p G).map (·.1)).Nodup
 | [],_=>⟨λw hw => .inr (by simpa [Wb.putG]using hw),by simp [Wb.putG]⟩
 |g::G,h=>by
  obtain⟨h1,h2⟩:=j8.mp h;obtain⟨i1,i2⟩:=Zdo (k:=k) (p:=p) h2;unfold Wb.putG
  by_cases e:g.1=k
  . rw [je e]
    exact⟨λw hw => .inl hw,h⟩
  . rw [jg e]
    refine⟨λw hw => ?_,List.nodup_cons.mpr ⟨λz=>(i1 _ z).elim h1 e,i2⟩⟩;rcases jA.mp hw with z|z
    . exact .inl (by rw [z];exact jj)
    . exact(i1 w z).imp_left (jq _)
theorem ZaI{h:Int}{w:HK}{x:PI}:∀(r:List (List Nat×Int))(j:Nat)(G:List (HK×List PI)),(Hg (Wb.putRow h j r G) w x ↔ Hg G w x\/∃i y,r[i]? = some y/\w=(h,y.1)/\x=(((j+i:Nat):Int),y.2))/\((G.map (·.1)).Nodup->((Wb.putRow h j r G).map (·.1)).Nodup)
 | [],j,G=>⟨by simp [Wb.putRow],id⟩
 |y::r,j,G=>by
  obtain⟨h1,h2⟩:=ZaI (h:=h) (w:=w) (x:=x) r (j+1) (Wb.putG (h,y.1) ((j:Int),y.2) G);unfold Wb.putRow;refine⟨?_,λn=>h2 (Zdo n).2⟩;rw [h1,Zdn,uy];refine ul ⟨?_,?_⟩
  . rintro(⟨z1,z2⟩|⟨i,u,z1,z2,z3⟩)
    . exact⟨0,y,rfl,z1,z2⟩
    . exact⟨i+1,u,z1,z2,by rw [z3,show j+1+i=j+(i+1) by omega]⟩
  . rintro⟨i,u,z1,z2,z3⟩
    cases i with
    |zero=>cases z1;exact .inl ⟨z2,z3⟩
    |succ i=>exact .inr ⟨i,u,z1,z2,by rw [z3,show j+1+i=j+(i+1) by omega]⟩
theorem JU{w:HK}{x:PI}:∀(hs:List Int)(rs:List (List (List Nat×Int)))(G:List (HK×List PI)),(Hg (Wb.putAll hs rs G) w x ↔ Hg G w x\/∃(a:Nat) (h:Int) (r:List (List Nat×Int)) (i:Nat) (y:List Nat×Int),hs[a]? = some h/\rs[a]? = some r/\r[i]? = some y/\w=(h,y.1)/\x=((i:Int),y.2))/\((G.map (·.1)).Nodup->((Wb.putAll hs rs G).map (·.1)).Nodup)
 | [],rs,G=>⟨by simp [Wb.putAll],by simp [Wb.putAll]⟩
 |h::hs,[],G=>⟨by simp [Wb.putAll],by simp [Wb.putAll]⟩
 |h::hs,r::rs,G=>by
  obtain⟨h1,h2⟩:=JU (w:=w) (x:=x) hs rs (Wb.putRow h 0 r G);obtain⟨g1,g2⟩:=ZaI (h:=h) (w:=w) (x:=x) r 0 G;unfold Wb.putAll;refine⟨?_,λn=>h2 (g2 n)⟩;rw [h1,g1,uy];refine ul ⟨?_,?_⟩
  . rintro(⟨i,y,z1,z2,z3⟩|⟨a,h',r',i,y,z⟩)
    . exact⟨0,h,r,i,y,rfl,rfl,z1,z2,by rw [z3,jW]⟩
    . exact⟨a+1,h',r',i,y,z⟩
  . rintro⟨a,h',r',i,y,z1,z2,z3,z4,z5⟩
    cases a with
    |zero=>cases z1;cases z2;exact .inl ⟨i,y,z3,z4,by rw [z5,jW]⟩
    |succ a=>exact .inr ⟨a,h',r',i,y,z1,z2,z3,z4,z5⟩
def iN(a:Nat):Int:=a
def GA(H:List Nat)(W:List 'f'):List (HK×List PI):=Wb.putAll (H.map iN) (W.map λr=>r.map toI) []
theorem ga_hg{H:List Nat}{W:List 'f'}{w:HK}{x:PI}:Hg (GA H W) w x ↔ ∃a h s b y,H[a]? = some h/\st W a s=some (b,y)/\w=(iN h,b)/\x=((s:Int),iN y):=by
 refine(JU _ _ _).1.trans ⟨λz => ?_,λz => .inr ?_⟩
 . obtain⟨a,h,r,i,y,z1,z2,z3,z4,z5⟩:=z.resolve_left (λ⟨_,z,_⟩=>nomatch z)
   rw [ji,qf]at z1 z2;obtain⟨h',e1,rfl⟩:=z1;obtain⟨r',e2,rfl⟩:=z2;rw [ji,qf]at z3;obtain⟨y',e3,rfl⟩:=z3;exact⟨a,h',i,y'.1,y'.2,e1,by unfold st;rw [e2];exact e3,z4,z5⟩
 . obtain⟨a,h,s,b,y,e1,e2,e3,e4⟩:=z
   obtain⟨r,h1,h2⟩:=Qr e2;refine⟨a,iN h,r.map toI,s,toI (b,y),?_,?_,?_,e3,e4⟩
   . rw [ji,e1];rfl
   . rw [ji,h1];rfl
   . rw [ji,h2];rfl
theorem Zmh(H:List Nat)(W:List 'f'):((GA H W).map (·.1)).Nodup:=(JU (w:=(0,[])) (x:=(0,0)) _ _ _).2 qt
theorem Zh4{α β:Type}{G:List (α×β)}(h:(G.map (·.1)).Nodup){g g':α×β}(h1:g∈G)(h2:g'∈G)(e:g.1=g'.1):g=g':=by
 induction G with
 |nil=>cases h1
 |cons a G ih=>
  obtain⟨n1,n2⟩:=j8.mp h;rcases jA.mp h1 with z1|z1
  . rcases jA.mp h2 with z2|z2
    . rw [z1,z2]
    . exact(n1 (jE.mpr ⟨g',z2,by rw [<-e,z1]⟩)).elim
  . rcases jA.mp h2 with z2|z2
    . exact(n1 (jE.mpr ⟨g,z1,by rw [e,z2]⟩)).elim
    . exact ih n2 z1 z2
theorem Zh5{W:List 'f'}{x:PI}:(∃g∈GA H W,∃e∈g.2,∃e'∈g.2,e.1<e'.1/\x=mx (e.2,e'.2)) ↔ ∃y,Fst H W y/\x=mx y:=by
 constructor
 . rintro⟨g,hg,e,he,e',he',hl,rfl⟩
   obtain⟨a,h,s,b,y,z1,z2,z3,rfl⟩:=ga_hg.mp ⟨g,hg,rfl,he⟩;obtain⟨a',h',s',b',y',u1,u2,u3,rfl⟩:=ga_hg.mp ⟨g,hg,rfl,he'⟩;rw [z3]at u3;injection u3 with u4 u5
   have:h=h':=by unfold iN at u4;omega
   subst this u5;exact⟨_,⟨a,a',h,s,s',b,y,y',z1,u1,λz=>by subst z;exact absurd hl (Int.lt_irrefl _),z2,u2,rfl⟩,rfl⟩
 . rintro⟨_,⟨a,a',h,s,s',b,y,y',z1,u1,ne,z2,u2,rfl⟩,rfl⟩
   obtain⟨g,hg,k1,he⟩:=ga_hg.mpr ⟨a,h,s,b,y,z1,z2,rfl,rfl⟩;obtain⟨g',hg',k2,he'⟩:=ga_hg.mpr ⟨a',h,s',b,y',u1,u2,rfl,rfl⟩;have:=Zh4 (Zmh H W) hg hg' (k1.trans k2.symm);subst this
   by_cases l:s<s'
   . exact⟨g,hg,_,he,_,he',by show(s:Int)<s';omega,rfl⟩
   . exact⟨g,hg,_,he',_,he,by show(s':Int)<s;omega,(Zmf _).symm⟩
def key(x:PI):List Key:=[.inl x.1,.inl x.2]
theorem Qv{x y:PI}(h:key x=key y):x=y:=by
 obtain⟨a,b⟩:=x;obtain⟨c,d⟩:=y;unfold key at h;simp only [List.cons.injEq,Sum.inl.injEq,and_true]at h;rw [h.1,h.2]
abbrev ky(Q:List PI):List (List Key):=Q.map key
theorem Zmi{Q:List PI}(h:Q.Nodup):(ky Q).Nodup:=List.Pairwise.map _ (λa b n z=>n (Qv z)) h
theorem JV{α:Type}(g:PI->α):∀{Q:List PI}{x:PI},x∈Q->Y1 (key x) (ky Q) (Q.map g)=some (g x)
 | [],x,h=>by cases h
 |q::Q,x,h=>by
  show(if key q=key x then some (g q)else Y1 (key x) (ky Q) (Q.map g))=_
  by_cases e:q=x
  . subst e;rw [je rfl]
  . rw [jg λz=>e (Qv z)]
    exact JV g ((jA.mp h).resolve_left λz=>e z.symm)
theorem JW(x:PI):∀Q:List PI,YK (key x) (ky Q)=decide (x∈Q)
 | []=>rfl
 |q::Q=>by
  show(decide (key q=key x)||YK (key x) (ky Q))=_;rw [JW x Q]
  by_cases e:q=x
  . subst e;simp
  . have e2:key q≠key x:=λz=>e (Qv z)
    have e3:x≠q:=λz=>e z.symm
    simp [e2,e3]
theorem Zkr{F:PI->List PI}{G:List Key->List (List Key)}{Q:List PI}(hG:∀q∈Q,G (key q)=(F q).map key)(hc:∀q∈Q,∀o∈F q,o∈Q):∀(f j:Nat),Pl.kah G (ky Q) f j=Pl.kah F Q f j:=by
 have sb:∀(j:Nat)(q:PI),q∈Q->Pl.Sb G j (key q)=Pl.Sb F j q:=λj=>by
  induction j with
  |zero=>exact λq _=>rfl
  |succ j ih=>
   intro q hq;show(G (key q)).all (Pl.Sb G j)=(F q).all (Pl.Sb F j);rw [hG q hq,yC];rw [yK,jT,jT];constructor
   . intro h o ho
     have:=h o ho;rw [ui,ih o (hc q hq o ho)]at this;exact this
   . intro h o ho
     rw [ui,ih o (hc q hq o ho)];exact h o ho
 have cn:∀j,Pl.cnt G (ky Q) j=Pl.cnt F Q j:=λj=>by
  unfold Pl.cnt ky;rw [List.filter_map,ja]
  congr 1
  exact List.filter_congr λq hq=>sb j q hq
 intro f
 induction f with
 |zero=>exact λj=>rfl
 |succ f ih=>
  intro j;unfold Pl.kah;rw [cn,ih,ja]
  have:(ky Q).all (λk => !Pl.Lv G j k)=Q.all λk => !Pl.Lv F j k:=by
   unfold ky;rw [yC,yK,jT,jT];constructor
   . intro h q hq
     have:=h q hq;rw [ui]at this;unfold Pl.Lv at this ⊢;rw [sb _ q hq,sb _ q hq]at this;exact this
   . intro h q hq
     have:=h q hq;rw [ui];unfold Pl.Lv at this ⊢;rw [sb _ q hq,sb _ q hq];exact this
  rw [this]
def pI(p:PI):D := .tup [.int p.1,.int p.2]
theorem Qw(p:PI):Yx (pI p)=some (key p):=rfl
def BB(r:List Pr):D:=Pb.outP (Pb.putBs (r.map toI) [])
theorem Uh{α β:Type}{f:D->Option β}{g:α->D}{k:α->β}(h:∀x,f (g x)=some (k x)):∀l:List α,Wb.trL f (l.map g)=some (l.map k)
 | []=>rfl
 |x::l=>by rw [jp,Wb.trL,Uh h l,h];rfl
theorem Zgw(r:List Pr):Wb.trL Wb.wyD (r.map prD)=some (r.map toI):=Uh (f:=Wb.wyD) (g:=prD) (k:=toI) (λ_=>rfl) r
theorem Zmj{r:List Pr}(h:r.length<=900):V4 [rwD r]=some (BB r):=by
 show(match Wb.trL Wb.wyD (r.map prD)with
  |some r=>if r.length<=900 then some (Pb.outP (Pb.putBs r []))else none
  |_=>none)=_
 rw [Zgw];dsimp only;rw [je (by rw [ja];exact h)];rfl
theorem Zh6(l:List Int):Wb.trL Wb.intD (l.map D.int)=some l:=by
 have:=Uh (f:=Wb.intD) (g:=D.int) (k:=id) (λ_=>rfl) l
 rwa [List.map_id]at this
theorem Zgx:∀G:Pb.Bs,Fw.trG (G.map λg=>Pb.kB g.1) (G.map λg => .lst (g.2.map .int))=some G
 | []=>rfl
 |g::G=>by
  show(match Wb.trL Wb.intD (g.2.map D.int),Fw.trG (G.map λg=>Pb.kB g.1) (G.map λg => .lst (g.2.map .int))with
   |some is,some G=>some ((g.1.toArray.toList,is)::G)
   |_,_=>none)=_
  rw [Zgx G,Zh6]
def BD(W:List 'f'):D := .lst (W.map BB)
theorem ZiQ{W:List 'f'}{i:Int}(h0:0<=i)(h1:i<W.length):(atI (W.map BB) i).bind Fw.dctD=some (GB W i):=by
 obtain⟨r,e1,e2⟩:=Zj1 h0 h1;rw [ZhG,e1];show Fw.trG _ _=_;unfold GB;rw [jv,e2];exact Zgx _
theorem Zks{m:Nat}{W:List 'f'}(t:TOk m H W){p:PI}(hp:Dom m p):V1 [pI p,BD W]=some (.lst ((FW W p).map pI)):=by
 have wl:=t.wl;have e1:=ZiQ (W:=W) hp.1.1 (by rw [wl];exact hp.1.2);have e2:=ZiQ (W:=W) hp.2.1 (by rw [wl];exact hp.2.2)
 show(match(atI (W.map BB) p.1).bind Fw.dctD,(atI (W.map BB) p.2).bind Fw.dctD with
  |some G1,some G2=>if(Fw.ops G1 G2).length<=20000 then some (Fw.prsD (Fw.puts (Fw.ops G1 G2)))else none
  |_,_=>none)=_
 rw [e1,e2];dsimp only;have:=t.ops9 p;rw [je 'a'];rfl
theorem Zb4:∀{l S:List PI},l.Nodup->(∀x∈l,x∈S)->l.length<=S.length
 | [],S,_,_=>jR _
 |x::l,S,hn,hs=>by
  obtain⟨h1,h2⟩:=j8.mp hn;have hx:=hs x jj;have h3:=Zb4 (l:=l) (S:=S.erase x) h2 λy hy=>(List.mem_erase_of_ne λz=>h1 (by rw [<-z];exact hy)).mpr (hs y (jq _ hy))
  rw [List.length_erase_of_mem hx]at h3;have:=qW hx;rw [jx];omega
def ab(a b:Nat):PI:=((a:Int),(b:Int))
theorem JX{m:Nat}{l:List PI}(hn:l.Nodup)(h:∀p∈l,Dom m p):l.length<=m*m:=by
 have h1:=Zb4 (S:=(List.range m).flatMap λa=>(List.range m).map (ab a)) hn λp hp=>by
  obtain⟨⟨h1,h2⟩,h3,h4⟩:=h p hp;exact qL.mpr ⟨p.1.toNat,jX.mpr 'a',jE.mpr ⟨p.2.toNat,jX.mpr 'a',by unfold ab;rw [qH h1,qH h3]⟩⟩
 rw [XX]at h1;exact h1
theorem TOk.len{m:Nat}{H:List Nat}{W:List 'f'}(t:TOk m H W){l:List PI}(hn:l.Nodup)(h:∀p∈l,Dom m p):l.length<=1024:=jL (JX hn h) (jL (yR t.m32 t.m32) 'b')
theorem Zgy{α:Type}(g:PI->α)(x:PI):∀Q:List PI,YJ (key x) (g x) (ky Q) (Q.map g)=Q.map g
 | []=>rfl
 |q::Q=>by
  show(if key q=key x then g x else g q)::YJ (key x) (g x) (ky Q) (Q.map g)=_;rw [Zgy g x Q]
  by_cases e:key q=key x
  . rw [je e,Qv e];rfl
  . rw [jg e];rfl
def Yr(Q:List PI)(x:PI):List PI:=if x∈Q then Q else Q++[x]
theorem addP_mem{Q:List PI}{x y:PI}:y∈Yr Q x ↔ y∈Q\/y=x:=by
 unfold Yr
 by_cases h:x∈Q
 . rw [je h]
   exact⟨.inl,λz=>z.elim id λe=>e▸h⟩
 . rw [jg h,jK,ju]
theorem Zdp{Q:List PI}{x:PI}(h:Q.Nodup):(Yr Q x).Nodup:=by
 unfold Yr
 by_cases e:x∈Q
 . rw [je e];exact h
 . rw [jg e,qF]
   exact⟨h,by simp,λa ha b hb z=>e (by rw [ju]at hb;rw [<-hb,<-z];exact ha)⟩
theorem Zkt(g:PI->D)(Q:List PI)(x:PI):Vk (ky Q) (Q.map g) (key x) (g x) = .dtt (ky (Yr Q x)) ((Yr Q x).map g):=by
 unfold Vk Yr;rw [JW]
 by_cases e:x∈Q
 . rw [je (by simpa using e),je e,Zgy]
 . rw [jg (by simpa using e),jg e]
   unfold ky;rw [jm,jm];rfl
theorem ZfE{i:Nat}{κ ε:EN->Option D}{δ:EN}(g:PI->D){Q:List PI}{x:PI}(hv:Za i δ=some (.dtt (ky Q) (Q.map g)))(hk:κ δ=some (pI x))(he:ε δ=some (g x))(hl:Q.length<=2000):XN i κ ε δ=some (.nx (δ.set i (some (.dtt (ky (Yr Q x)) ((Yr Q x).map g))))):=by
 unfold XN;rw [he,hv,hk];dsimp only;rw [Qw];dsimp only;rw [je (by rw [ja,qE];omega),Zkt]
theorem Zeu{κ i:EN->Option D}{δ:EN}(g:PI->D){Q:List PI}{x:PI}(hk:κ δ=some (pI x))(hv:i δ=some (.dtt (ky Q) (Q.map g))):xB (eOp (XJ true) κ i) δ=some (!decide (x∈Q)):=by
 refine ZH ((Zg hk hv).trans ?_);unfold XJ;dsimp only;rw [Qw,<-JW];show some (D.bl (true != YK (key x) (ky Q)))=_;cases YK (key x) (ky Q)<;>rfl
theorem Zh7{κ i:EN->Option D}{δ:EN}(g:PI->D){Q:List PI}{x:PI}(hv:i δ=some (.dtt (ky Q) (Q.map g)))(hk:κ δ=some (pI x))(hx:x∈Q):eOp XM i κ δ=some (g x):=by
 refine(Zg hv hk).trans ?_;unfold XM;dsimp only;rw [Qw];exact JV g hx
def fwD(W:List 'f')(q:PI):D := .lst ((FW W q).map pI)
abbrev AE(B R:D)(W:List 'f')(Q T:List PI)(v:Option D):EN:=[some B,none,some R,some (.dtt (ky Q) (Q.map (fwD W))),some (.lst (T.map pI)),v]
noncomputable def afT:EN->Option Bool:=(xB (eOp (ZJ λi j=>decide (j<i)) (eCB lenD (Zb (Za 4) eNil)) 'm'))
noncomputable def afI:EN->Option Out:=(sIf (xB (eOp (XJ true) (Za 5) (Za 3))) (Zd (XN 3 (Za 5) (YR 1 V1 (Zb (Za 5) eNil) 'r')) (Vj 4 (eOp XM (Za 3) (Za 5)))) sNext)
theorem Zku:V2=Zd (Ze 3 (eC (.dtt [] []))) (Zd (Ze 4 (eCB VW 'n')) (Zd (YO afT (Zd (Xy 5 4) afI)) (Zt (Za 3)))):=rfl
theorem Zgz(B R:D)(W:List 'f')(Q T:List PI)(v:Option D):afT (AE B R W Q T v)=some (decide (0<T.length)):=by
 refine ZH ((Zg (x:=.int (T.length:Int)) (y:=.int 0) ((ZA (Zf (x:=.lst (T.map pI)) rfl nil_of)).trans (by rw [len_lst,ja])) rfl).trans ?_);show some (D.bl (decide ((0:Int)<(T.length:Int))))=_
 congr 2
 exact decide_eq_decide.mpr 'a'
theorem Zkv(B R:D)(W:List 'f')(Q T:List PI)(q:PI)(v:Option D):Xy 5 4 (AE B R W Q (T++[q]) v)=some (.nx (AE B R W Q T (some (pI q)))):=by
 unfold Xy
 have e:Za 4 (AE B R W Q (T++[q]) v)=some (.lst (T.map pI++[pI q])):=by
  show some (D.lst ((T++[q]).map pI))=_;rw [jm];rfl
 rw [e];dsimp only;rw [show(T.map pI++[pI q]).length-1=(T.map pI).length by simp,jG (jk _),yQ,List.dropLast_concat];rfl
theorem Zb5{n:Nat}{mm:List D->Option D}{α κ:EN->Option (List D)}{δ:EN}{ds cs:List D}(h1:α δ=some ds)(h2:κ δ=some cs)(hn:ds.length=n):YR n mm α κ δ=mm (ds++cs):=by
 unfold YR;rw [h1,h2];exact je hn
theorem Zkw{i:Nat}{ε:EN->Option D}{δ:EN}{xs ys:List D}(h1:Za i δ=some (.lst xs))(h2:ε δ=some (.lst ys))(hl:xs.length+ys.length<=100000):Vj i ε δ=some (.nx (δ.set i (some (.lst (xs++ys))))):=by
 unfold Vj;rw [h1,h2];exact je (by rw [qE];omega)
structure AI(W:List (List Pr))(B Q T:List PI):Prop where
 nd:Q.Nodup
 beg:∀p∈B,p∈Q\/p∈T
 clo:∀p∈Q,∀o∈FW W p,o∈Q\/o∈T
 mn:∀P:PI->Prop,(∀p∈B,P p)->(∀p,P p->∀o∈FW W p,P o)->∀p,p∈Q\/p∈T->P p
theorem AI.dom{m:Nat}{H:List Nat}{W:List 'f'}(t:TOk m H W){B Q T:List PI}(I:AI W B Q T)(hB:∀p∈B,Dom m p){p:PI}(hp:p∈Q\/p∈T):Dom m p:=I.mn (Dom m) hB (λp hp o ho=>by
 obtain⟨y,hy,rfl⟩:=(Zb3 m W p hp o).mp ho;exact Vx (t.nx_dom hy)) p hp
theorem Zdq{Q T:List PI}{p q:PI}(z:p∈Q\/p∈T++[q]):p∈Q++[q]\/p∈T:=by
 rcases z with z|z
 . exact .inl (j2 _ z)
 . rcases jK.mp z with z|z
   . exact .inr z
   . exact .inl (jw _ z)
theorem Zh8{m:Nat}{W:List 'f'}(t:TOk m H W)(V:D){B Q T:List PI}(hB:∀p∈B,Dom m p)(q:PI)(I:AI W B Q (T++[q]))(hl:(1024-Q.length)*10+(T++[q]).length<=30000)(v:Option D) :
 ∃Q' T',AI W B Q' T'/\(1024-Q'.length)*10+T'.length<(1024-Q.length)*10+(T++[q]).length/\Zd (Xy 5 4) afI (AE V (BD W) W Q (T++[q]) v)=some (.nx (AE V (BD W) W Q' T' (some (pI q)))):=by
 rw [Zh (Zkv V (BD W) W Q T q v)];have hq:Dom m q:=I.dom t hB (.inr (jw _ (ju.mpr rfl)));have h0:=Zeu (κ:=Za 5) (i:=Za 3) (δ:=AE V (BD W) W Q T (some (pI q))) (fwD W) (x:=q) rfl rfl;have hQl:=t.len I.nd λp hp=>I.dom t hB (.inl hp)
 rw [jc,qd]at hl ⊢
 by_cases e:q∈Q
 . have back:∀{p:PI},p∈Q\/p∈T++[q]->p∈Q\/p∈T:=λz=>(Zdq z).elim (λz => .inl ((jK.mp z).elim id λz=>by rw [ju.mp z];exact e)) .inr
   exact⟨Q,T,⟨I.nd,λp hp=>back (I.beg p hp),λp hp o ho=>back (I.clo p hp o ho),λP h1 h2 p hp=>I.mn P h1 h2 p (hp.imp_right (j2 _))⟩,by omega,Z0 (by rw [h0];simp [e])⟩
 . have eadd:Yr Q q=Q++[q]:=jg e
   have nd':(Q++[q]).Nodup:=eadd▸Zdp I.nd
   have hQl':=t.len nd' λp hp=>by
    rcases jK.mp hp with z|z
    . exact I.dom t hB (.inl z)
    . rw [ju.mp z];exact hq
   rw [jc,qd]at hQl';have hb:=t.fw9 q;have fwd:∀{p:PI},p∈Q\/p∈T++[q]->p∈Q++[q]\/p∈T++FW W q:=λz=>(Zdq z).imp_right (j2 _)
   refine⟨Q++[q],T++FW W q,⟨nd',λp hp=>fwd (I.beg p hp),λp hp o ho => ?_,λP h1 h2 p hp => ?_⟩,?_,?_⟩
   . rcases jK.mp hp with z|z
     . exact fwd (I.clo p z o ho)
     . rw [ju.mp z]at ho
       exact .inr (jw _ ho)
   . have hPq:P q:=I.mn P h1 h2 q (.inr (jw _ (ju.mpr rfl)))
     rcases hp with z|z
     . rcases jK.mp z with z|z
       . exact I.mn P h1 h2 p (.inl z)
       . rw [ju.mp z];exact hPq
     . rcases jK.mp z with z|z
       . exact I.mn P h1 h2 p (.inr (j2 _ z))
       . exact h2 q hPq p z
   . rw [jc,jc,qd];omega
   . have c1:YR 1 V1 (Zb (Za 5) eNil) 'r' (AE V (BD W) W Q T (some (pI q)))=some (fwD W q):=(Zb5 (ds:=[pI q]) (cs:=[BD W]) rfl rfl rfl).trans (Zks t hq)
     have p1:=ZfE (i:=3) (κ:=Za 5) (δ:=AE V (BD W) W Q T (some (pI q))) (fwD W) (Q:=Q) rfl rfl c1 'a';rw [eadd]at p1;refine(ZZ (by rw [h0];simp [e])).trans ((Zh p1).trans ?_);have g1:=Zh7 (κ:=Za 5) (i:=Za 3) (δ:=AE V (BD W) W (Q++[q]) T (some (pI q))) (fwD W) (Q:=Q++[q]) (x:=q) rfl rfl (jw _ (ju.mpr rfl));refine(Zkw (i:=4) (xs:=T.map pI) (ys:=(FW W q).map pI) rfl g1 (by rw [ja,ja];omega)).trans ?_
     rw [<-jm];rfl
theorem Zkx{m:Nat}{W:List 'f'}(t:TOk m H W){B:List PI}(hB:∀p∈B,Dom m p)(hl:B.length<=10000):∃Q,Clo (FW W) B Q/\(∀p∈Q,Dom m p)/\UY [.lst (B.map pI),BD W]=some (.dtt (ky Q) (Q.map (fwD W))):=by
 have I0:AI W B [] B:=⟨qt,λp hp => .inr hp,λp hp=>(by cases hp),λP h1 h2 p hp=>h1 p (hp.resolve_left 'c')⟩
 obtain⟨δ',hw,Q,v,I,rfl⟩:=Zcs (τ:=afT) (φ:=Zd (Xy 5 4) afI) (λδ=>∃Q T v,AI W B Q T/\(1024-Q.length)*10+T.length<=30000/\δ=AE (.lst (B.map pI)) (BD W) W Q T v) (λδ=>∃Q v,AI W B Q []/\δ=AE (.lst (B.map pI)) (BD W) W Q [] v)
  (λδ=>match δ with
    | [_,_,_,some (.dtt ks _),some (.lst ts),_]=>(1024-ks.length)*10+ts.length
    |_=>0) (λδ ⟨Q,T,v,I,hl,e⟩=>by
    subst e;rcases List.eq_nil_or_concat T with rfl|⟨T',q,rfl⟩
    . exact .inl ⟨by rw [Zgz];rfl,Q,v,I,rfl⟩
    . rw [List.concat_eq_append]at *
      obtain⟨Q',T2,I',hlt,e'⟩:=Zh8 t (.lst (B.map pI)) hB q I hl v;refine .inr ⟨by rw [Zgz];simp,_,e',⟨Q',T2,_,I',by omega,rfl⟩,?_⟩;show(1024-(ky Q').length)*10+(T2.map pI).length<(1024-(ky Q).length)*10+((T'++[q]).map pI).length;rw [ja,ja,ja,ja];exact hlt) (AE (.lst (B.map pI)) (BD W) W [] B none) ⟨[],B,none,I0,by simp;omega,rfl⟩
 refine⟨Q,⟨I.nd,λp hp=>(I.beg p hp).resolve_right 'c',λp hp o ho=>(I.clo p hp o ho).resolve_right 'c',λP h1 h2 p hp=>I.mn P h1 h2 p (.inl hp)⟩,λp hp=>I.dom t hB (.inl hp),?_⟩
 have hb:V2 [some (.lst (B.map pI)),none,some (BD W),none,none,none]=some (.rt (.dtt (ky Q) (Q.map (fwD W)))):=by
  rw [Zku,Zh (Zp rfl),Zh (Zp (d:=.lst (B.map pI)) ?_)]
  . exact(Zh hw).trans (ZR rfl)
  . exact(ZA (Zf (x:=.lst (B.map pI)) rfl nil_of)).trans rfl
 show(match V2 [some (.lst (B.map pI)),none,some (BD W),none,none,none]with
  |some (.rt d)=>some d
  |some (.nx _)=>some .non
  |_=>none)=_
 rw [hb]
theorem Zdr:∀l:List PI,Lg.kysT (l.map pI)=some (l.map key)
 | []=>rfl
 |p::l=>by
  show(match Yx (pI p),Lg.kysT (l.map pI)with
   |some k,some l=>some (k::l)
   |_,_=>none)=_
  rw [Zdr l,Qw];rfl
theorem Zb6(W:List 'f'):∀Q:List PI,Lg.rowsT (Q.map (fwD W))=some (Q.map λq=>(FW W q).map key)
 | []=>rfl
 |p::Q=>by
  show(match Lg.kysT ((FW W p).map pI),Lg.rowsT (Q.map (fwD W))with
   |some a,some l=>some (a::l)
   |_,_=>none)=_
  rw [Zb6 W Q,Zdr];rfl
theorem Zb7{κ:Type}{F:κ->List κ}{c:Nat}:∀{ks:List κ},(∀k∈ks,(F k).length<=c)->(Pl.edges F ks).length<=ks.length*c
 | [],_=>by simp [Pl.edges]
 |k::ks,h=>by
  have h1:=h k jj;have h2:=Zb7 (ks:=ks) λx hx=>h x (jq _ hx)
  unfold Pl.edges at h2 ⊢;rw [yu,jc,ja,jx,yl];omega
theorem JY(W:List 'f'){Q:List PI}{q:PI}(hq:q∈Q):Lg.Fo (ky Q) (Q.map λq=>(FW W q).map key) (key q)=(FW W q).map key:=by
 unfold Lg.Fo;rw [JV _ hq];rfl
theorem Zcz{m:Nat}{W:List 'f'}(t:TOk m H W){B:List PI}(hB:∀p∈B,Dom m p)(hl:B.length<=10000):∃Q,Clo (FW W) B Q/\Q.length<=m*m/\V3 [.lst (B.map pI),BD W]=some (Lg.resD (Pl.kah (FW W) Q (Q.length+1) 0)):=by
 obtain⟨Q,c,sub,e⟩:=Zkx t hB hl;refine⟨Q,c,JX c.nd sub,?_⟩;show Lg.longD (UY [.lst (B.map pI),BD W])=_;rw [e];unfold Lg.longD;dsimp only;rw [Zb6];dsimp only;have hQl:=t.len c.nd sub
 have hcl:∀k∈ky Q,∀o∈Lg.Fo (ky Q) (Q.map λq=>(FW W q).map key) k,o∈ky Q:=λk hk o ho=>by
  obtain⟨q,hq,rfl⟩:=jE.mp hk;rw [JY W hq]at ho;obtain⟨p,hp,rfl⟩:=jE.mp ho;exact jE.mpr ⟨p,c.clo q hq p hp,rfl⟩
 have hed:(Pl.edges (Lg.Fo (ky Q) (Q.map λq=>(FW W q).map key)) (ky Q)).length<=(ky Q).length*9:=Zb7 λk hk=>by
  obtain⟨q,hq,rfl⟩:=jE.mp hk;rw [JY W hq,ja];exact t.fw9 q
 have hkl:(ky Q).length=Q.length:=ja ..;rw [je ⟨Zmi c.nd,by rw [ja,ja],hcl,by omega⟩,Zkr (λq hq=>JY W hq) c.clo,hkl]
def alt(P:List PI):List D:=P.flatMap λp=>[pI p,.bl true]
def ke(p:PI):List NK.El:=[.inl (some p.1),.inl (some p.2)]
theorem Zky{x y:PI}(h:ke x=ke y):x=y:=by
 obtain⟨a,b⟩:=x;obtain⟨c,d⟩:=y;unfold ke at h;simp only [List.cons.injEq,Sum.inl.injEq,Option.some.injEq,and_true]at h;rw [h.1,h.2]
theorem ZiR(p:PI):nkK (pI p)=some (ke p):=rfl
theorem Qx(p:PI)(P:List PI):alt (p::P)=pI p :: .bl true::alt P:=rfl
theorem Zds(x:PI):∀P:List PI,Y4 (ke x) (alt P)=decide (x∈P)
 | []=>rfl
 |q::P=>by
  rw [Qx,Y4,Zds x P,ZiR]
  by_cases e:q=x
  . subst e;simp
  . have e2:¬ke q=ke x:=λz=>e (Zky z)
    have e3:x≠q:=λz=>e z.symm
    simp [e2,e3]
theorem Zdt(x:PI):∀P:List PI,Xk (ke x) (.bl true) (alt P)=alt P
 | []=>rfl
 |q::P=>by
  rw [Qx,Xk,Zdt x P];simp
theorem Zdu:∀P:List PI,evn (alt P)=P.map pI
 | []=>rfl
 |q::P=>by rw [Qx,evn,Zdu P];rfl
theorem Zdv:∀P:List PI,(alt P).length=2*P.length
 | []=>rfl
 |q::P=>by rw [Qx,jx,jx,Zdv P,jx];omega
theorem Zh9(x:PI)(P:List PI):Y5 (ke x) (pI x) (.bl true) (alt P)=alt (Yr P x):=by
 unfold Y5 Yr;rw [Zds]
 by_cases e:x∈P
 . rw [je (by simpa using e),je e,Zdt]
 . rw [jg (by simpa using e),jg e]
   unfold alt;rw [qe];rfl
theorem Zdw{i:Nat}{κ ε:EN->Option D}{δ:EN}{P:List PI}{x:PI}(hv:Za i δ=some (.dnn (alt P)))(hk:κ δ=some (pI x))(he:ε δ=some (.bl true))(hl:P.length<=2000):Xl i κ ε δ=some (.nx (δ.set i (some (.dnn (alt (Yr P x)))))):=by
 unfold Xl;rw [he,hv,hk];dsimp only;rw [ZiR];dsimp only;rw [je (by rw [Zdv];omega),Zh9]
theorem Zb8{i:Nat}{δ:EN}{P:List PI}(hv:Za i δ=some (.dnn (alt P))):Y6 (Za i) δ=some (.lst (P.map pI)):=by
 unfold Y6;rw [hv];dsimp only;rw [Zdu]
structure Gd(m:Nat)(P:List PI):Prop where
 nd:P.Nodup
 dm:∀p∈P,Dom m p
theorem ZgA{m:Nat}{P:List PI}{x:PI}(h:Gd m P)(hx:Dom m x):Gd m (Yr P x):=⟨Zdp h.nd,λp hp=>(addP_mem.mp hp).elim (h.dm p) λz=>by rw [z];exact hx⟩
theorem XZ{m:Nat}{α σ:Type}{γ:D->EN->Option EN}{φ:EN->Option Out}(g:α->D)(E:List PI->σ->EN)(Z:α->PI->Prop):∀(all:List α),(∀x∈all,∀P s,Gd m P->∃δ1,γ (g x) (E P s)=some δ1/\∃P' s',φ δ1=some (.nx (E P' s'))/\Gd m P'/\∀y,y∈P' ↔ y∈P\/Z x y) ->
 ∀P s,Gd m P->∃P' s',ZK γ φ (all.map g) (E P s)=some (.nx (E P' s'))/\Gd m P'/\∀y,y∈P' ↔ y∈P\/∃x∈all,Z x y
 | [],_,P,s,h=>⟨P,s,rfl,h,λy=>⟨.inl,λz=>z.elim id λ⟨_,z,_⟩=>nomatch z⟩⟩
 |x::all,st,P,s,h=>by
  obtain⟨δ1,h1,P1,s1,h2,h3,h4⟩:=st x jj P s h;obtain⟨P2,s2,k1,k2,k3⟩:=XZ g E Z all (λx hx=>st x (jq _ hx)) P1 s1 h3;refine⟨P2,s2,?_,k2,λy => ?_⟩
  . rw [jp]
    unfold ZK;rw [h1];dsimp only;rw [h2];exact k1
  . rw [k3,h4,uy]
    refine ul ⟨λz=>z.elim (λz=>⟨x,jj,z⟩) λ⟨u,hu,z⟩=>⟨u,jq _ hu,z⟩,λ⟨u,hu,z⟩ => ?_⟩;rcases jA.mp hu with e|hu
    . exact .inl (e▸z)
    . exact .inr ⟨u,hu,z⟩
abbrev HD(H:List Nat):D := .tup (H.map nD)
abbrev WD(W:List 'f'):D := .tup (W.map rwD)
def gD'(g:HK×List PI):D := .lst (g.2.map pI)
theorem Zmk{m:Nat}{W:List 'f'}(t:TOk m H W):UZ [HD H,WD W]=some (.lst ((GA H W).map gD')):=by
 have m32:=t.m32
 show(match Wb.trL Wb.intD (H.map nD),Wb.trL Wb.rowD (W.map rwD)with
  |some is,some rows=>if is.length=rows.length/\rows.length<=32/\∀r∈rows,r.length<=30 then some (Wb.outE (Wb.putAll is rows []))else none
  |_,_=>none)=_
 rw [Uh (f:=Wb.intD) (g:=nD) (k:=iN) (λ_=>rfl) H,Uh (f:=Wb.rowD) (g:=rwD) (k:=λr=>r.map toI) (λr=>Zgw r) W];dsimp only
 rw [je ⟨by rw [ja,ja,t.hl,t.wl],by rw [ja,t.wl];exact m32,λr hr=>by
  obtain⟨r',hr',rfl⟩:=jE.mp hr;have:=t.rl r' hr';rw [ja];omega⟩]
 rfl
abbrev P7(H:List Nat)(W:List 'f')(P:List PI)(v3 v4 v5 v6:Option D):EN:=[some (HD H),some (WD W),some (.dnn (alt P)),v3,v4,v5,v6]
noncomputable def fpT:EN->Option Bool:=(xB (eOp (ZJ λi j=>decide (i<j)) (Za 4) (eOp ixD (Za 6) 'm')))
noncomputable def fpP:EN->Option Out:=(Xl 2 (ZD (Zb (eCB minD (Zb (Za 5) (Zb (eOp ixD (Za 6) 'd') eNil))) (Zb (eCB maxD (Zb (Za 5) (Zb (eOp ixD (Za 6) 'd') eNil))) eNil))) (eC (.bl true)))
noncomputable def fp6:EN->Option Out:=(Zq (ZF (Za 3)) (Zj 6) (sIf fpT fpP sNext))
noncomputable def fp4:EN->Option Out:=(Zq (ZF (Za 3)) (ZY 2 (Zz 4 (Zz 5 gsNil))) fp6)
theorem ZfF:Jv=Zd (Ze 2 (eC (.dnn []))) (Zd (Zq (ZF (Zn 2 UZ [] (Zb (Za 0) (Zb (Za 1) eNil)))) (Zj 3) fp4) (Zt (Y6 (Za 2)))):=rfl
theorem Zia{m:Nat}(hm:m<=32){W:List 'f'}{P:List PI}(h:Gd m P){e e':PI}(h1:0<=e.2/\e.2<m)(h2:0<=e'.2/\e'.2<m)(v3:Option D):∃P',sIf fpT fpP sNext (P7 H W P v3 (some (.int e.1)) (some (.int e.2)) (some (pI e')))=some (.nx (P7 H W P' v3 (some (.int e.1)) (some (.int e.2)) (some (pI e'))))/\Gd m P'/\∀y,y∈P' ↔ y∈P\/(e.1<e'.1/\y=mx (e.2,e'.2)):=by
 have et:fpT (P7 H W P v3 (some (.int e.1)) (some (.int e.2)) (some (pI e')))=some (decide (e.1<e'.1)):=ZH ((Zg (x:=.int e.1) (y:=.int e'.1) rfl rfl).trans rfl)
 by_cases hl:e.1<e'.1
 . have hd:Dom m (mx (e.2,e'.2)):=Vx ⟨h1,h2⟩
   have hk:=JX h.nd h.dm;have:=yR hm hm;refine⟨Yr P (mx (e.2,e'.2)),(ZZ (by rw [et,jN hl])).trans ?_,ZgA h hd,λy=>by rw [addP_mem];simp [hl]⟩;refine Zdw rfl ((YL (Zf ((ZA (Zf (x:=.int e.2) rfl (Zf (x:=.int e'.2) rfl nil_of))).trans rfl) (Zf ((ZA (Zf (x:=.int e.2) rfl (Zf (x:=.int e'.2) rfl nil_of))).trans rfl) nil_of)) (show 2<=1000 by decide))) rfl 'a'
 . exact⟨P,(Z0 (by rw [et,jF hl])).trans rfl,h,λy=>⟨.inl,λz=>z.elim id λz=>absurd z.1 hl⟩⟩
theorem ZfG{m:Nat}{W:List 'f'}(t:TOk m H W):∃B:List PI,(∀p∈B,Dom m p)/\B.length<=1024/\(∀x,x∈B ↔ ∃y,Fst H W y/\x=mx y)/\U0 [HD H,WD W]=some (.lst (B.map pI)):=by
 have hm:=t.m32
 have hg:∀g∈GA H W,∀e∈g.2,0<=e.2/\e.2<m:=λg hg e he=>by
  obtain⟨a,h,s,b,y,_,z2,_,rfl⟩:=ga_hg.mp ⟨g,hg,rfl,he⟩;have:=t.st_lt z2;show(0:Int)<=(y:Int)/\(y:Int)<m;dsimp only at this;omega
 obtain⟨B,s,hf,gd,hB⟩:=XZ (m:=m) (σ:=Option D×Option D×Option D×Option D) (γ:=Zj 3) (φ:=fp4) gD' (λP s=>P7 H W P s.1 s.2.1 s.2.2.1 s.2.2.2) (λg x=>∃e∈g.2,∃e'∈g.2,e.1<e'.1/\x=mx (e.2,e'.2)) (GA H W) (λg hgm P s h=>by
  refine⟨P7 H W P (some (gD' g)) s.2.1 s.2.2.1 s.2.2.2,rfl,?_⟩
  obtain⟨P1,s1,k1,k2,k3⟩:=XZ (m:=m) (σ:=Option D×Option D×Option D) (γ:=ZY 2 (Zz 4 (Zz 5 gsNil))) (φ:=fp6) pI (λP s=>P7 H W P (some (gD' g)) s.1 s.2.1 s.2.2) (λe x=>∃e'∈g.2,e.1<e'.1/\x=mx (e.2,e'.2)) g.2 (λe he P s h=>by
   refine⟨P7 H W P (some (gD' g)) (some (.int e.1)) (some (.int e.2)) s.2.2,rfl,?_⟩
   obtain⟨P1,s1,k1,k2,k3⟩:=XZ (m:=m) (σ:=Option D) (γ:=Zj 6) (φ:=sIf fpT fpP sNext) pI (λP s=>P7 H W P (some (gD' g)) (some (.int e.1)) (some (.int e.2)) s) (λe' x=>e.1<e'.1/\x=mx (e.2,e'.2)) g.2 (λe' he' P s h=>by
    obtain⟨P',z1,z2,z3⟩:=Zia hm (H:=H) (W:=W) h (hg g hgm e he) (hg g hgm e' he') (some (gD' g));exact⟨_,rfl,P',_,z1,z2,z3⟩) P s.2.2 h
   exact⟨P1,(_,_,s1),ZO (Y9 (xs:=g.2.map pI) rfl) k1,k2,k3⟩) P s.2 h
  exact⟨P1,(_,s1.1,s1.2.1,s1.2.2),ZO (Y9 (xs:=g.2.map pI) rfl) k1,k2,k3⟩) [] (none,none,none,none) ⟨qt,λp hp=>nomatch hp⟩
 refine⟨B,gd.dm,t.len gd.nd gd.dm,λx => ?_,Yi (δ:=[some (HD H),some (WD W),none,none,none,none,none]) rfl ?_⟩
 . rw [hB,<-Zh5]
   simp
 . rw [ZfF,Zh (Zp rfl)]
   refine(Zh (ZO (Y9 ((Z3 (n:=2) (Zf (x:=HD H) rfl (Zf (x:=WD W) rfl nil_of)) rfl).trans (Zmk t))) hf)).trans (ZR (Zb8 rfl))
def ZgB(H:List Nat)(W:List 'f'):Option Nat->Prop
 |some r=>Lk H W r/\∀i,i<r->¬Lk H W i
 |none=>∀r,¬Lk H W r
theorem Zib:f_QS=Zd (Ze 2 (ZV (ZF (Za 1)) (Zj 0) (λ_=>some true) (Zn 1 V4 [] 'n') 1 [])) (UM 3 (Zt (YR 1 V3 (Zb (Zn 2 U0 [] (Zb (Za 0) (Zb (Za 1) eNil))) eNil) 'r'))):=rfl
theorem Zdx{m:Nat}{W:List 'f'}(t:TOk m H W):∃o,ZgB H W o/\(∀r,o=some r->r<=m*m)/\XU [HD H,WD W]=some (Lg.resD o):=by
 have m32:=t.m32;obtain⟨B,b1,b2,b3,b4⟩:=ZfG t;obtain⟨Q,c,ql,e⟩:=Zcz t b1 'a';have hk:=Zgu c.clo (Q.length+1) 0 'a' λi hi=>by omega
 have hf:∀k,Yq (FW W) Q k ↔ Lk H W k:=λk=>(ZfB c k).trans (Zh3 t (Zb3 m W) b3 k)
 refine⟨Pl.kah (FW W) Q (Q.length+1) 0,?_,λr hr => ?_,Yi (δ:=[some (HD H),some (WD W),none,none]) rfl ?_⟩
 . rcases hk with⟨r,h1,h2,h3⟩|⟨h1,h2⟩
   . rw [h3]
     exact⟨(hf r).mp h1,λi hi z=>h2 i hi ((hf i).mpr z)⟩
   . rw [h2]
     exact λr z=>h1 r ((hf r).mpr z)
 . rcases hk with⟨r',h1,h2,h3⟩|⟨h1,h2⟩
   . rw [h3]at hr
     cases hr;exact jL (ZfA c.clo h1 h2) ql
   . rw [h2]at hr
     cases hr
 . have hc:=XV (γ:=Zj 0) (ε:=Zn 1 V4 [] 'n') (δ0:=[none]) rwD BB W λr hr=>⟨[some (rwD r)],rfl,(Z3 (n:=1) (Zf (x:=rwD r) rfl nil_of) rfl).trans (Zmj (by have:=t.rl r hr;omega))⟩
   have h2:=XT (n:=1) (js:=[]) (δ:=[some (HD H),some (WD W),none,none]) (Zfx (ε:=Za 1) (xs:=W.map rwD) rfl) rfl hc (by rw [ja,t.wl];omega);rw [Zib,Zh (Zp h2)];exact ZR ((Zb5 (ds:=[.lst (B.map pI)]) (cs:=[BD W]) (Zf ((Z3 (n:=2) (Zf (x:=HD H) rfl (Zf (x:=WD W) rfl nil_of)) rfl).trans b4) nil_of) rfl rfl).trans e)
theorem Zdy{a b:EN->Option Out}{δ δ':EN}(h:a δ=some (.nx δ')):Xx a b δ=b δ':=by
 unfold Xx;rw [h]
theorem Zic{n:Nat}{f:EN->Option Out}{vs:List D}{δ:EN}{d:D}(h1:(vs.map some++List.replicate (n-vs.length) none)=δ)(h2:f δ=some (.rt d)):VX n f vs=some d:=by
 unfold VX;rw [h1,h2]
theorem Zid{m:Nat}{p:PI}(h:Dom m p):∃a c:Nat,p=ab a c/\a<m/\c<m:=by
 obtain⟨⟨h1,h2⟩,h3,h4⟩:=h;exact⟨p.1.toNat,p.2.toNat,by unfold ab;rw [qH h1,qH h3],by omega,by omega⟩
abbrev O8(W:List 'f')(S:D)(u:Bool)(P:List PI)(v4 v5 v6 v7:Option D):EN:=[some (WD W),some S,some (.bl u),some (.dnn (alt P)),v4,v5,v6,v7]
noncomputable def oR(i:Nat):EN->Option D:=(eOp ixD (Za 0) (Za i))
noncomputable def oW(i j:Nat):EN->Option D:=(eOp ixD (oR i) (Za j))
noncomputable def oI(i:Nat):EN->Option (List D):=Zr (Zb (eCB lenD (Zb (oR i) eNil)) eNil)
noncomputable def oT:EN->Option Bool:=(YB (xB (eOp eqD (eOp ixD (oW 4 6) 'm') (eOp ixD (oW 5 7) 'm'))) (xOr (xB (eOp neD (Za 6) (Za 7))) (XG (xB (Za 2)))))
noncomputable def oP:EN->Option Out:=(Xl 3 (ZD (Zb (eOp ixD (oW 4 6) 'd') (Zb (eOp ixD (oW 5 7) 'd') eNil))) (eC (.bl true)))
noncomputable def o7:EN->Option Out:=(Zq (oI 5) (Zj 7) (sIf oT oP sNext))
noncomputable def o6:EN->Option Out:=(Zq (oI 4) (Zj 6) o7)
theorem Zml:JG=Xx (Ze 3 (eC (.dnn []))) (Xx (Zq (ZF (Za 1)) (ZY 2 (Zz 4 (Zz 5 gsNil))) o6) (Zt (Y6 (Za 3)))):=rfl
theorem ZiS{W:List 'f'}{i a:Nat}{δ:EN}{r:List Pr}(h0:Za 0 δ=some (WD W))(h1:Za i δ=some (nD a))(hr:W[a]? = some r):oR i δ=some (rwD r):=(Zg h0 h1).trans (ix_tup (by rw [ji,hr];rfl))
theorem ZiT{W:List 'f'}{i j a s:Nat}{δ:EN}{x:Pr}(h0:Za 0 δ=some (WD W))(h1:Za i δ=some (nD a))(h2:Za j δ=some (nD s))(hx:st W a s=some x):oW i j δ=some (prD x):=by
 obtain⟨r,e1,e2⟩:=Qr hx;exact(Zg (ZiS h0 h1 e1) h2).trans (ix_tup (by rw [ji,e2];rfl))
theorem ZiU{W:List 'f'}{i a:Nat}{δ:EN}{r:List Pr}(h0:Za 0 δ=some (WD W))(h1:Za i δ=some (nD a))(hr:W[a]? = some r)(hl:r.length<=3):oI i δ=some ((List.range r.length).map nD):=
 Yo (Zf ((ZA (Zf (ZiS h0 h1 hr) nil_of)).trans (len_tup.trans (by rw [ja]))) nil_of) 'a'
def OnZ(W:List 'f')(u:Bool)(a c s s':Nat)(x:PI):Prop:=(s≠s'\/u=false)/\∃b y y',st W a s=some (b,y)/\st W c s'=some (b,y')/\x=ab y y'
theorem Zie{m:Nat}{W:List 'f'}(t:TOk m H W){P:List PI}(h:Gd m P)(S:D)(u:Bool){a c s s':Nat}{x y:Pr}(hx:st W a s=some x)(hy:st W c s'=some y):∃P',sIf oT oP sNext (O8 W S u P (some (nD a)) (some (nD c)) (some (nD s)) (some (nD s')))=some (.nx (O8 W S u P' (some (nD a)) (some (nD c)) (some (nD s)) (some (nD s'))))/\Gd m P'/\∀z,z∈P' ↔ z∈P\/OnZ W u a c s s' z:=by
 have w1:=ZiT (i:=4) (j:=6) (δ:=O8 W S u P (some (nD a)) (some (nD c)) (some (nD s)) (some (nD s'))) rfl rfl rfl hx;have w2:=ZiT (i:=5) (j:=7) (δ:=O8 W S u P (some (nD a)) (some (nD c)) (some (nD s)) (some (nD s'))) rfl rfl rfl hy
 have et:oT (O8 W S u P (some (nD a)) (some (nD c)) (some (nD s)) (some (nD s')))=some (decide (x.1=y.1)&&((!decide ((s:Int)=(s':Int))) || !u)):=
  Zdf (ZH ((Zg (x:=.str x.1) (y:=.str y.1) ((Zg (y:=.int 0) w1 rfl).trans rfl) ((Zg (y:=.int 0) w2 rfl).trans rfl)).trans (ZhE _ _))) (Zgn (ZH ((Zg (x:=nD s) (y:=nD s') rfl rfl).trans (ZhF _ _))) (ZhI (ZH rfl)))
 have hz:∀z,OnZ W u a c s s' z ↔ (x.1=y.1/\(s≠s'\/u=false))/\z=ab x.2 y.2:=λz=>by
  unfold OnZ;rw [hx,hy];constructor
  . rintro⟨h1,b,y1,y2,e1,e2,rfl⟩
    cases e1;cases e2;exact⟨⟨rfl,h1⟩,rfl⟩
  . rintro⟨⟨h1,h2⟩,rfl⟩
    exact⟨h2,x.1,x.2,y.2,rfl,by rw [h1],rfl⟩
 by_cases hc:x.1=y.1/\(s≠s'\/u=false)
 . have hd : Dom m (ab x.2 y.2) := by
    have:=t.st_lt hx;have:=t.st_lt hy;unfold ab Dom;dsimp only;omega
   have hk:=t.len h.nd h.dm;refine⟨Yr P (ab x.2 y.2),(ZZ ?_).trans ?_,ZgA h hd,λz=>by rw [addP_mem,hz];simp only [hc,true_and]⟩
   . rw [et,jN hc.1,Bool.true_and]
     rcases hc.2 with h2|h2
     . rw [jF 'a'];rfl
     . rw [h2];simp
   . exact Zdw (x:=ab x.2 y.2) rfl (YL (Zf ((Zg (y:=.int 1) w1 rfl).trans rfl) (Zf ((Zg (y:=.int 1) w2 rfl).trans rfl) nil_of)) (show 2<=1000 by decide)) rfl 'a'
 . refine⟨P,(Z0 ?_).trans rfl,h,λz=>⟨.inl,λq=>q.elim id λq=>absurd ((hz z).mp q).1 hc⟩⟩
   rw [et]
   by_cases h1:x.1=y.1
   . have h2 : s = s' /\ u = true := by
      refine⟨ya λq=>hc ⟨h1,.inl q⟩,?_⟩;cases u with
      |true=>rfl
      |false=>exact absurd ⟨h1,.inr rfl⟩ hc
     rw [h2.1,h2.2];simp
   . rw [jF h1];rfl
theorem Zdz{W:List 'f'}{a s:Nat}{r:List Pr}(hr:W[a]? = some r)(hs:s∈List.range r.length):st W a s=some (r[s]'(jX.mp hs)):=by
 unfold st;rw [hr];exact jd _
theorem ZgC{W:List 'f'}{a s:Nat}{r:List Pr}{x:Pr}(hr:W[a]? = some r)(h:st W a s=some x):s∈List.range r.length:=by
 obtain⟨r',e1,e2⟩:=Qr h;rw [hr]at e1;cases e1;exact jX.mpr (jt.mp e2).1
theorem Zmm{m:Nat}{W:List 'f'}(t:TOk m H W){S:List PI}(hS:∀p∈S,Dom m p)(u:Bool):∃S',Gd m S'/\(∀x,x∈S' ↔ ∃p∈S,∃s s',OnZ W u p.1.toNat p.2.toNat s s' x)/\V6 [WD W,.lst (S.map pI),.bl u]=some (.lst (S'.map pI)):=by
 obtain⟨B,s,hf,gd,hB⟩:=XZ (m:=m) (σ:=Option D×Option D×Option D×Option D) (γ:=ZY 2 (Zz 4 (Zz 5 gsNil))) (φ:=o6) pI (λP s=>O8 W (.lst (S.map pI)) u P s.1 s.2.1 s.2.2.1 s.2.2.2) (λp x=>∃s s',OnZ W u p.1.toNat p.2.toNat s s' x) S (λp hp P s h=>by
  refine⟨O8 W (.lst (S.map pI)) u P (some (.int p.1)) (some (.int p.2)) s.2.2.1 s.2.2.2,rfl,?_⟩;obtain⟨a,c,rfl,ha,hc⟩:=Zid (hS p hp);obtain⟨r,hr⟩:∃r,W[a]? = some r:=⟨_,jd (by rw [t.wl];exact ha)⟩
  obtain⟨r',hr'⟩:∃r,W[c]? = some r:=⟨_,jd (by rw [t.wl];exact hc)⟩
  have rl:=t.rl r (jI hr);have rl':=t.rl r' (jI hr')
  obtain⟨P1,s1,k1,k2,k3⟩:=XZ (m:=m) (σ:=Option D×Option D) (γ:=Zj 6) (φ:=o7) nD (λP s=>O8 W (.lst (S.map pI)) u P (some (nD a)) (some (nD c)) s.1 s.2) (λs x=>∃s',OnZ W u a c s s' x) (List.range r.length) (λs hs P v h=>by
   refine⟨O8 W (.lst (S.map pI)) u P (some (nD a)) (some (nD c)) (some (nD s)) v.2,rfl,?_⟩
   obtain⟨P1,s1,k1,k2,k3⟩:=XZ (m:=m) (σ:=Option D) (γ:=Zj 7) (φ:=sIf oT oP sNext) nD (λP v=>O8 W (.lst (S.map pI)) u P (some (nD a)) (some (nD c)) (some (nD s)) v) (λs' x=>OnZ W u a c s s' x) (List.range r'.length) (λs' hs' P v h=>by
    obtain⟨P',z1,z2,z3⟩:=Zie t h (.lst (S.map pI)) u (Zdz hr hs) (Zdz hr' hs');exact⟨_,rfl,P',_,z1,z2,z3⟩) P v.2 h
   refine⟨P1,(_,s1),ZO (ZiU rfl rfl hr' rl') k1,k2,λy=>(k3 y).trans (ul ⟨λ⟨s',_,z⟩=>⟨s',z⟩,λ⟨s',z⟩=>⟨s',?_,z⟩⟩)⟩;obtain⟨_,b,y1,y2,_,z2,_⟩:=z;exact ZgC hr' z2) P s.2.2 h
  refine⟨P1,(_,_,s1.1,s1.2),ZO (ZiU rfl rfl hr rl) k1,k2,λy=>(k3 y).trans (ul ⟨λ⟨s,_,z⟩=>⟨s,z⟩,λ⟨s,z⟩=>⟨s,?_,z⟩⟩)⟩;obtain⟨s',_,b,y1,y2,z2,_⟩:=z;exact ZgC hr z2) [] (none,none,none,none) ⟨qt,λp hp=>nomatch hp⟩
 refine⟨B,gd,λx => ?_,Zic (δ:=[some (WD W),some (.lst (S.map pI)),some (.bl u),none,none,none,none,none]) rfl ?_⟩
 . rw [hB]
   simp
 . rw [Zml,Zdy (Zp rfl)]
   exact(Zdy (ZO (Y9 (xs:=S.map pI) rfl) hf)).trans (ZR (Zb8 rfl))
theorem Zbj{α:Type}{γ:D->EN->Option EN}{φ:EN->Option Out}(g:α->D)(I:List α->EN->Prop)(all:List α)(step:∀(dn:List α)(x:α)(tl:List α)(δ:EN),all=dn++x::tl->I dn δ->∃δ1,γ (g x) δ=some δ1/\∃δ2,φ δ1=some (.nx δ2)/\I (dn++[x]) δ2) :
 ∀(rest dn:List α)(δ:EN),all=dn++rest->I dn δ->∃δ',ZK γ φ (rest.map g) δ=some (.nx δ')/\I all δ'
 | [],dn,δ,e,h=>⟨δ,rfl,by rw [e,qj];exact h⟩
 |x::rest,dn,δ,e,h=>by
  obtain⟨δ1,h1,δ2,h2,h3⟩:=step dn x rest δ e h;obtain⟨δ',h4,h5⟩:=Zbj g I all step rest (dn++[x]) δ2 (by rw [e,qr];rfl) h3;refine⟨δ',?_,h5⟩;rw [jp];unfold ZK;rw [h1];dsimp only;rw [h2];exact h4
theorem Qy{α:Type}{γ:D->EN->Option EN}{φ:EN->Option Out}(g:α->D)(I:List α->EN->Prop)(all:List α)(δ:EN)(h0:I [] δ)(step:∀(dn:List α)(x:α)(tl:List α)(δ:EN),all=dn++x::tl->I dn δ->∃δ1,γ (g x) δ=some δ1/\∃δ2,φ δ1=some (.nx δ2)/\I (dn++[x]) δ2) :
 ∃δ',ZK γ φ (all.map g) δ=some (.nx δ')/\I all δ':=Zbj g I all step all [] δ rfl h0
theorem Qz{m:Nat}{dn tl:List Nat}{x:Nat}(e:List.range m=dn++x::tl):dn.length<m/\x<m:=by
 have h1:=congrArg List.length e;rw [jC,jc,jx]at h1;exact⟨by omega,jX.mp (by rw [e];exact jw _ jj)⟩
abbrev U6(H:List Nat)(W:List 'f')(S:List PI)(v3 v4 v5:Option D):EN:=[some (HD H),some (WD W),some (.lst (S.map pI)),v3,v4,v5]
noncomputable def dI3:EN->Option (List D):=Zr (Zb (eCB lenD 'n') eNil)
noncomputable def dT4:EN->Option Bool:=(xB (eOp eqD (eOp ixD (Za 0) (Za 3)) (eOp ixD (Za 0) (Za 4))))
noncomputable def dA2:EN->Option Out:=(ZE 2 (ZD (Zb (Za 3) (Zb (Za 4) eNil))))
noncomputable def dF4:EN->Option Out:=(Zq dI3 (Zj 4) (sIf dT4 dA2 sNext))
noncomputable def dOn(b:Bool):EN->Option Out:=(Ze 2 (Zn 3 V6 [] (Zb (Za 1) (Zb (Za 2) (Zb (eC (.bl b)) eNil)))))
noncomputable def dWT:EN->Option Bool:=(xB (eOp (ZJ λi j=>decide (j<i)) (eCB lenD 'r') 'm'))
noncomputable def dW5:EN->Option Out:=(Ze 5 (eOp addX (Za 5) 'd'))
noncomputable def dWR:EN->Option Out:=(sIf (xB (eOp (ZJ λi j=>decide (j<i)) (Za 5) (eOp mulX (eCB lenD 'n') (eCB lenD 'n')))) (Zt (eC .non)) sNext)
noncomputable def dWB:EN->Option Out:=Zd dW5 (Zd dWR (dOn false))
theorem Zkz:JH=Zd (Ze 2 (Zo eNil)) (Zd (Zq dI3 (Zj 3) dF4) (Zd (dOn true) (Zd (Ze 5 'm') (Zd (YO dWT dWB) (Zt (Za 5)))))):=rfl
def Ui(H:List Nat)(a c:Nat):Bool:=decide (H.getD a 0=H.getD c 0)
def prs(H:List Nat)(l:List Nat)(a:Nat):List PI:=(l.filter (Ui H a)).map (ab a)
theorem Zb9(H:List Nat)(dn:List Nat)(a c:Nat):prs H (dn++[c]) a=prs H dn a++if Ui H a c=true then [ab a c]else []:=by
 unfold prs;rw [uo,jm,yU,List.filter_nil]
 split<;>rfl
theorem ZiV{H:List Nat}{i a:Nat}{δ:EN}(h0:Za 0 δ=some (HD H))(h1:Za i δ=some (nD a))(ha:a<H.length):eOp ixD (Za 0) (Za i) δ=some (nD (H.getD a 0)):=(Zg h0 h1).trans (ix_tup (by rw [ji,jv,jd ha];rfl))
theorem ZmW{H:List Nat}{δ:EN}(h0:Za 0 δ=some (HD H))(hl:H.length<=32):dI3 δ=some ((List.range H.length).map nD):=Yo (Zf ((ZA (Zf h0 nil_of)).trans (len_tup.trans (by rw [ja]))) nil_of) 'a'
theorem Zmn{H:List Nat}(hl:H.length<=32)(W:List 'f')(S:List PI)(hS:S.length<=10000){a:Nat}(ha:a<H.length)(v4:Option D):∃w4,dF4 (U6 H W S (some (nD a)) v4 none)=some (.nx (U6 H W (S++prs H (List.range H.length) a) (some (nD a)) w4 none)):=by
 obtain⟨δ',hf,w4,rfl⟩:=Qy (γ:=Zj 4) (φ:=sIf dT4 dA2 sNext) nD (λdn δ=>∃w4,δ=U6 H W (S++prs H dn a) (some (nD a)) w4 none) (List.range H.length) (U6 H W S (some (nD a)) v4 none) ⟨v4,by simp [prs]⟩ λdn c tl δ e ⟨w4,ed⟩=>by
  subst ed;obtain⟨hdn,hc⟩:=Qz e;refine⟨U6 H W (S++prs H dn a) (some (nD a)) (some (nD c)) none,rfl,?_⟩;have et:dT4 (U6 H W (S++prs H dn a) (some (nD a)) (some (nD c)) none)=some (decide ((H.getD a 0:Int)=(H.getD c 0:Nat))):=ZH ((Zg (ZiV rfl rfl ha) (ZiV rfl rfl hc)).trans (YS _ _));have hp:(prs H dn a).length<=dn.length:=by unfold prs;rw [ja];exact qK _ _
  by_cases hq:H.getD a 0=H.getD c 0
  . refine⟨_,(ZZ (by rw [et,jN 'a'])).trans (YM rfl (YL (Zf (x:=nD a) rfl (Zf (x:=nD c) rfl nil_of)) (show 2<=1000 by decide)) (by rw [ja,jc];omega)),some (nD c),?_⟩
    rw [Zb9,je (show Ui H a c=true from jN hq),<-qr];show [some (HD H),some (WD W),some (D.lst (List.map pI (S++prs H dn a)++[pI (ab a c)])),some (nD a),some (nD c),none]=_;rw [<-List.map_singleton (f:=pI),<-jm]
  . refine⟨_,(Z0 (by rw [et,jF 'a'])).trans rfl,some (nD c),?_⟩
    rw [Zb9,jg (show ¬Ui H a c=true by unfold Ui;rw [jF hq];decide),qj]
 exact⟨w4,ZO (ZmW rfl hl) hf⟩
theorem Zmo{H:List Nat}(hl:H.length<=32)(W:List 'f'):∃w3 w4,Zq dI3 (Zj 3) dF4 (U6 H W [] none none none)=some (.nx (U6 H W ((List.range H.length).flatMap (prs H (List.range H.length))) w3 w4 none)):=by
 obtain⟨δ',hf,w3,w4,rfl,_⟩:=Qy (γ:=Zj 3) (φ:=dF4) nD (λdn δ=>∃w3 w4,δ=U6 H W (dn.flatMap (prs H (List.range H.length))) w3 w4 none/\(dn.flatMap (prs H (List.range H.length))).length<=dn.length*32) (List.range H.length) (U6 H W [] none none none) ⟨none,none,rfl,jk _⟩ λdn a tl δ e ⟨w3,w4,ed,hz⟩=>by
  subst ed;obtain⟨hdn,ha⟩:=Qz e;have hp:(prs H (List.range H.length) a).length<=H.length:=by unfold prs;rw [ja];exact jL (qK _ _) (by rw [jC];exact jk _)
  obtain⟨z4,k⟩:=Zmn hl W (dn.flatMap (prs H (List.range H.length))) 'a' ha w4;refine⟨_,rfl,_,k,some (nD a),z4,?_,?_⟩
  . rw [qe,List.flatMap_singleton]
  . rw [qe,List.flatMap_singleton,jc,jc,qd]
    omega
 exact⟨w3,w4,ZO (ZmW rfl hl) hf⟩
theorem ZgD{m:Nat}{W:List 'f'}(t:TOk m H W){S:List PI}(hS:∀p∈S,Dom m p)(u:Bool)(v3 v4 v5:Option D):∃S',Gd m S'/\(∀x,x∈S' ↔ ∃p∈S,∃s s',OnZ W u p.1.toNat p.2.toNat s s' x)/\dOn u (U6 H W S v3 v4 v5)=some (.nx (U6 H W S' v3 v4 v5)):=by
 obtain⟨S',h1,h2,h3⟩:=Zmm t hS u;exact⟨S',h1,h2,Zp ((Z3 (n:=3) (Zf (x:=WD W) rfl (Zf (x:=.lst (S.map pI)) rfl (Zf (x:=.bl u) rfl nil_of))) rfl).trans h3)⟩
theorem Zca{m:Nat}{W:List 'f'}(t:TOk m H W)(v3 v4:Option D):∀(k j:Nat)(S:List PI),m*m+1<=j+k->Gd m S->(∀i,Lk H W (j+i) ↔ ∀p∈S,Sw W i p)->(∀i,i<j->¬Lk H W i)->j<=m*m ->
 (∃n r S',ZN dWT dWB n (U6 H W S v3 v4 (some (nD j)))=some (.nx (U6 H W S' v3 v4 (some (nD r))))/\ZgB H W (some r))\/(∃n,ZN dWT dWB n (U6 H W S v3 v4 (some (nD j)))=some (.rt .non)/\∀i,i<=m*m->¬Lk H W i)
 |0,j,S,hk,_,_,_,hj=>by omega
 |k+1,j,S,hk,gd,hL,hn,hj=>by
  have m32:=t.m32;have mm:=yR m32 m32;have et:dWT (U6 H W S v3 v4 (some (nD j)))=some (decide ((0:Int)<(S.length:Nat))):=ZH ((Zg (x:=.int (S.length:Nat)) (y:=.int 0) ((ZA (Zf (x:=.lst (S.map pI)) rfl nil_of)).trans (len_lst.trans (by rw [ja]))) rfl).trans rfl)
  by_cases e:S=[]
  . subst e
    refine .inl ⟨1,j,[],?_,(hL 0).mpr (λp hp=>nomatch hp),hn⟩;unfold ZN;rw [et];rfl
  . have hpos:0<S.length:=List.length_pos_iff.mpr e
    rw [jN 'a']at et
    have nj:¬Lk H W j:=λz=>by
     cases S with
     |nil=>exact e rfl
     |cons p S=>exact(hL 0).mp z p jj
    have w5:dW5 (U6 H W S v3 v4 (some (nD j)))=some (.nx (U6 H W S v3 v4 (some (nD (j+1))))):=(Zp ((Zg (x:=nD j) (y:=.int 1) rfl rfl).trans (add_int _ _))).trans (by
     show some (Out.nx (U6 H W S v3 v4 (some (.int ((j:Int)+1)))))=_;rw [show((j:Int)+1)=((j+1:Nat):Int) by omega])
    have hlen:eCB lenD 'n' (U6 H W S v3 v4 (some (nD (j+1))))=some (nD m):=(ZA (Zf (x:=HD H) rfl nil_of)).trans (len_tup.trans (by rw [ja,t.hl]));have er:xB (eOp (ZJ λi j=>decide (j<i)) (Za 5) (eOp mulX (eCB lenD 'n') (eCB lenD 'n'))) (U6 H W S v3 v4 (some (nD (j+1))))=some (decide ((m:Int)*m<((j+1:Nat):Int))):=ZH ((Zg (x:=nD (j+1)) (y:=.int ((m:Int)*m)) rfl ((Zg hlen hlen).trans (Xm 'a' 'a'))).trans rfl)
    have cm:((m:Int)*m)=((m*m:Nat):Int):=(ug m m).symm;rw [cm]at er
    by_cases hz:m*m<j+1
    . refine .inr ⟨1,?_,λi hi => ?_⟩
      . unfold ZN
        rw [et];dsimp only;rw [show dWB (U6 H W S v3 v4 (some (nD j)))=some (.rt .non)from(Zh w5).trans (XS ((ZZ (by rw [er,jN 'a'])).trans (ZR rfl)))]
      . by_cases ij:i=j
        . rw [ij];exact nj
        . exact hn i 'a'
    . obtain⟨S',g1,g2,g3⟩:=ZgD t gd.dm false v3 v4 (some (nD (j+1)))
      have hb:dWB (U6 H W S v3 v4 (some (nD j)))=some (.nx (U6 H W S' v3 v4 (some (nD (j+1))))):=(Zh w5).trans ((Zh ((Z0 (by rw [er,jF 'a'])).trans rfl)).trans g3)
      have step:∀n,ZN dWT dWB (n+1) (U6 H W S v3 v4 (some (nD j)))=ZN dWT dWB n (U6 H W S' v3 v4 (some (nD (j+1)))):=λn=>by
       rw [ZN,et];dsimp only;rw [hb]
      have hL':∀i,Lk H W (j+1+i) ↔ ∀p∈S',Sw W i p:=λi=>by
       rw [show j+1+i=j+(i+1) by omega,hL (i+1)];constructor
       . intro z x hx
         obtain⟨p,hp,s,s',_,b,y,y',h1,h2,rfl⟩:=(g2 x).mp hx;exact z p hp _ ⟨s,s',b,y,y',h1,h2,rfl⟩
       . intro z p hp x hx
         obtain⟨s,s',b,y,y',h1,h2,rfl⟩:=hx;exact z _ ((g2 _).mpr ⟨p,hp,s,s',.inr rfl,b,y,y',h1,h2,rfl⟩)
      rcases Zca t v3 v4 k (j+1) S' 'a' g1 hL' (λi hi=>by
       by_cases ij:i=j
       . rw [ij];exact nj
       . exact hn i 'a') (by omega)with⟨n,r,S2,h1,h2⟩|⟨n,h1,h2⟩
      . exact .inl ⟨n+1,r,S2,(step n).trans h1,h2⟩
      . exact .inr ⟨n+1,(step n).trans h1,h2⟩
theorem ZkA{m:Nat}{W:List 'f'}(t:TOk m H W):∃o,V7 [HD H,WD W]=some (Lg.resD o)/\XU [HD H,WD W]=some (Lg.resD o):=by
 have m32:=t.m32;have hl:=t.hl;obtain⟨o,l1,l2,l3⟩:=Zdx t;obtain⟨w3,w4,h3⟩:=Zmo (H:=H) 'a' W
 have pd:∀p,p∈(List.range H.length).flatMap (prs H (List.range H.length)) ↔ ∃a c,a<m/\c<m/\H.getD a 0=H.getD c 0/\p=ab a c:=λp=>by
  rw [hl,qL];constructor
  . rintro⟨a,ha,hp⟩
    unfold prs at hp;obtain⟨c,hc,rfl⟩:=jE.mp hp;obtain⟨hc,hq⟩:=qh.mp hc;exact⟨a,c,jX.mp ha,jX.mp hc,qz hq,rfl⟩
  . rintro⟨a,c,ha,hc,hq,rfl⟩
    exact⟨a,jX.mpr ha,jE.mpr ⟨c,qh.mpr ⟨jX.mpr hc,jN hq⟩,rfl⟩⟩
 obtain⟨S,g1,g2,g3⟩:=ZgD t (λp hp=>by
  obtain⟨a,c,ha,hc,_,rfl⟩:=(pd p).mp hp;unfold ab Dom;dsimp only;omega) true w3 w4 none
 have hL:∀i,Lk H W (0+i) ↔ ∀p∈S,Sw W i p:=λi=>by
  rw [jW]
  have hx:∀x,x∈S ↔ Fst H W x:=λx=>by
   rw [g2];constructor
   . rintro⟨p,hp,s,s',ne,b,y,y',h1,h2,rfl⟩
     obtain⟨a,c,ha,hc,hq,rfl⟩:=(pd p).mp hp;refine⟨a,c,H.getD a 0,s,s',b,y,y',?_,?_,ne.resolve_right 'b',h1,h2,rfl⟩
     . rw [jv,jd 'a'];rfl
     . rw [hq,jv,jd 'a'];rfl
   . rintro⟨a,c,h,s,s',b,y,y',e1,e2,ne,h1,h2,rfl⟩
     have q1:=(jt.mp e1).1;have q2:=(jt.mp e2).1;exact⟨ab a c,(pd _).mpr ⟨a,c,by omega,by omega,by rw [jv,jv,e1,e2],rfl⟩,s,s',.inl ne,b,y,y',h1,h2,rfl⟩
  exact⟨λz p hp=>z p ((hx p).mp hp),λz p hp=>z p ((hx p).mpr hp)⟩
 have run:∀{x:EN->Option Out}{d:D},(x=Zd (YO dWT dWB) (Zt (Za 5)))->x (U6 H W S w3 w4 (some (nD 0)))=some (.rt d)->V7 [HD H,WD W]=some d:=λ{x d} ex h=>by
  subst ex;refine Yi (δ:=[some (HD H),some (WD W),none,none,none,none]) rfl ?_;rw [Zkz,Zh (Zp (Yc nil_of 'b'))];refine(Zh h3).trans ((Zh g3).trans ?_);rw [Zh (Zp rfl)];exact h
 rcases Zca t w3 w4 (m*m+1) 0 S 'a' g1 hL (λi hi=>by omega) (jR _)with⟨n,r,S',h1,h2⟩|⟨n,h1,h2⟩
 . refine⟨some r,run rfl ((Zh (Q0 h1)).trans (ZR rfl)),l3.trans ?_⟩
   cases o with
   |none=>exact absurd h2.1 (l1 r)
   |some r'=>
    have:r'=r:=by
     rcases Nat.lt_trichotomy r r' with z|z|z
     . exact absurd h2.1 (l1.2 r z)
     . exact z.symm
     . exact absurd l1.1 (h2.2 r' z)
    rw [this]
 . refine⟨none,run rfl (XS (Q0 h1)),l3.trans ?_⟩
   cases o with
   |none=>rfl
   |some r'=>exact absurd l1.1 (h2 r' (l2 r' rfl))
noncomputable def y2:EN->Option Out:=(Ze 2 (eOp addX 'd' (eOp modW (Zn 2 ZS [] (Zb (Za 1) (Zb 'd' eNil))) (eC (.int 5)))))
noncomputable def y3:EN->Option Out:=(Ze 3 (eOp addX 'd' (eOp modW (eOp fdivW (Zn 2 ZS [] (Zb (Za 1) (Zb 'd' eNil))) (eC (.int 5))) 't')))
noncomputable def y4:EN->Option Out:=(Ze 4 (Zo (Zb (Zo (Zb (eC (.str [48])) (Zb (eC (.str [49])) eNil))) (Zb (Zo (Zb (eC (.str [97])) (Zb (eC (.str [98])) (Zb (eC (.str [99])) eNil)))) (Zb (Zo (Zb (eC (.str [48,49])) (Zb (eC (.str [49,48])) (Zb (eC (.str [49,49])) (Zb (eC (.str [48,48])) eNil))))) (Zb (Zo (Zb (eC (.str [97,97])) (Zb (eC (.str [97,98])) (Zb (eC (.str [98,97])) eNil)))) eNil))))))
noncomputable def y5:EN->Option Out:=(Ze 5 (eOp ixD (Za 4) (eOp modW (Zn 2 ZS [] (Zb (Za 1) (Zb 'o' eNil))) (eCB lenD (Zb (Za 4) eNil)))))
noncomputable def y6:EN->Option Out:=(Ze 6 (ZV (Zr 'r') (Zj 0) (λ_=>some true) (eOp modW (eOp ixD (Za 1) (Za 0)) 't') 1 [0]))
noncomputable def y11:EN->Option Out:=(Ze 11 (eOp ixD (Za 0) (eOp addX (eOp addX (eC (.int 5)) (eOp mulX 't' (Za 8))) (Za 10))))
noncomputable def y9:EN->Option Out:=(ZE 9 (ZD (Zb (eOp ixD (Za 5) (eOp modW (Za 11) (eCB lenD (Zb (Za 5) eNil)))) (Zb (eOp modW (eOp fdivW (Za 11) (eC (.int 12))) (Za 2)) eNil))))
noncomputable def y10:EN->Option Out:=(Zq (Zr (Zb (Za 3) eNil)) (Zj 10) (Zd y11 y9))
noncomputable def y8:EN->Option Out:=(Zd (Ze 9 (Zo eNil)) (Zd y10 (ZE 7 (eCB ZM (Zb (Za 9) eNil)))))
theorem ZkB:JF=Zd y2 (Zd y3 (Zd y4 (Zd y5 (Zd y6 (Zd (Ze 7 (Zo eNil)) (Zd (Zq (Zr 'r') (Zj 8) y8) (Zt (ZD (Zb (eCB ZM (Zb (Za 6) eNil)) (Zb (eCB ZM (Zb (Za 7) eNil)) eNil)))))))))):=rfl
abbrev Y12(cs ns:List Int)(v2 v3 v4 v5 v6 v7 v8 v9 v10 v11:Option D):EN:=[some (IL cs),some (IL ns),v2,v3,v4,v5,v6,v7,v8,v9,v10,v11]
def sm:List (List (List Nat)):=[[[48],[49]],[[97],[98],[99]],[[48,49],[49,48],[49,49],[48,48]],[[97,97],[97,98],[98,97]]]
abbrev bD(b:List (List Nat)):D := .lst (b.map D.str)
theorem JZ{δ:EN}{ns:List Int}(k:Nat)(h:Za 1 δ=some (IL ns)):Zn 2 ZS [] (Zb (Za 1) (Zb (eC (.int (k:Int))) eNil)) δ=some (.int (ns.getD k 0)):=(Z3 (n:=2) (Zf h (Zf (x:=.int (k:Int)) rfl nil_of)) rfl).trans (Zdd ns k)
theorem ZfH{cs ns:List Int}(hcs:cs.length=20){m n a s:Nat}(hm:1<=m)(hm5:m<=5)(ha:a<m)(hs:s<3){bl:List (List Nat)}(hb:1<=bl.length)(r:List Pr)(hr:r.length<=3)(v4 v6 v7 v11:Option D):∃x w11,x.2<m/\Zd y11 y9 (Y12 cs ns (some (nD m)) (some (nD n)) v4 (some (bD bl)) v6 v7 (some (nD a)) (some (.lst (r.map prD))) (some (nD s)) v11)=some (.nx (Y12 cs ns (some (nD m)) (some (nD n)) v4 (some (bD bl)) v6 v7 (some (nD a)) (some (.lst ((r++[x]).map prD))) (some (nD s)) w11)):=by
 have e11:y11 (Y12 cs ns (some (nD m)) (some (nD n)) v4 (some (bD bl)) v6 v7 (some (nD a)) (some (.lst (r.map prD))) (some (nD s)) v11)=some (.nx (Y12 cs ns (some (nD m)) (some (nD n)) v4 (some (bD bl)) v6 v7 (some (nD a)) (some (.lst (r.map prD))) (some (nD s)) (some (.int (cs.getD (5+3*a+s) 0))))):=by
  refine Zp ((Zg (x:=IL cs) (y:=nD (5+3*a+s)) rfl ?_).trans (Vr 'a'));refine(Zg (x:=.int (5+3*(a:Int))) (y:=nD s) ((Zg (x:=.int 5) (y:=.int (3*(a:Int))) rfl ((Zg (x:=.int 3) (y:=nD a) rfl rfl).trans (Xm 'a' 'a'))).trans (add_int _ _)) rfl).trans ((add_int _ _).trans ?_);unfold nD;rw [show(5+3*(a:Int)+(s:Int))=((5+3*a+s:Nat):Int) by omega]
 generalize cs.getD (5+3*a+s) 0=c at e11;obtain⟨i,hi,hil⟩:=Z4 c (show 0<bl.length by omega);obtain⟨j,hj,hjl⟩:=Z4 (c.fdiv 12) (show 0<m by omega);obtain⟨b,hbi⟩:∃b,bl[i]? = some b:=⟨_,jd hil⟩
 refine⟨(b,j),some (.int c),hjl,(Zh e11).trans ((YM rfl (YL (Zf (x:=.str b) ?_ (Zf (x:=nD j) ?_ nil_of)) (show 2<=1000 by decide)) (by rw [ja];omega)).trans ?_)⟩
 . refine(Zg (x:=bD bl) (y:=nD i) rfl ((Zg (x:=.int c) (y:=nD bl.length) rfl ((ZA (Zf (x:=bD bl) rfl nil_of)).trans (len_lst.trans (by rw [ja])))).trans ((ZP 'a').trans (by rw [hi])))).trans (Vq (by rw [ji,hbi];rfl))
 . exact(Zg (x:=.int (c.fdiv 12)) (y:=nD m) ((Zg (x:=.int c) (y:=.int 12) rfl rfl).trans (Yz 'b' 'b')) rfl).trans ((ZP 'a').trans (by rw [hj]))
 . rw [jm]
   rfl
theorem Zmp{cs ns:List Int}(hcs:cs.length=20){m n a:Nat}(hm:1<=m)(hm5:m<=5)(hn:n<=3)(ha:a<m){bl:List (List Nat)}(hb:1<=bl.length)(W:List 'f')(hW:W.length<=5)(v4 v6 v9 v10 v11:Option D):∃r w9 w10 w11,(r.length<=3/\∀x∈r,x.2<m)/\y8 (Y12 cs ns (some (nD m)) (some (nD n)) v4 (some (bD bl)) v6 (some (.lst (W.map rwD))) (some (nD a)) v9 v10 v11)=some (.nx (Y12 cs ns (some (nD m)) (some (nD n)) v4 (some (bD bl)) v6 (some (.lst ((W++[r]).map rwD))) (some (nD a)) w9 w10 w11)):=by
 obtain⟨δ',hf,r,w10,w11,rfl,r1,r2⟩:=Qy (γ:=Zj 10) (φ:=Zd y11 y9) nD (λdn δ=>∃r w10 w11,δ=Y12 cs ns (some (nD m)) (some (nD n)) v4 (some (bD bl)) v6 (some (.lst (W.map rwD))) (some (nD a)) (some (.lst (r.map prD))) w10 w11/\r.length=dn.length/\∀x∈r,x.2<m) (List.range n) (Y12 cs ns (some (nD m)) (some (nD n)) v4 (some (bD bl)) v6 (some (.lst (W.map rwD))) (some (nD a)) (some 'p') v10 v11) ⟨[],v10,v11,rfl,rfl,λx hx=>nomatch hx⟩ λdn s tl δ e ⟨r,w10,w11,ed,r1,r2⟩=>by
  subst ed;obtain⟨hdn,hs⟩:=Qz e;refine⟨_,rfl,?_⟩;obtain⟨x,z11,hx,k⟩:=ZfH hcs (ns:=ns) (n:=n) (s:=s) hm hm5 ha 'a' hb r 'a' v4 v6 (some (.lst (W.map rwD))) w11;refine⟨_,k,r++[x],some (nD s),z11,rfl,by rw [jc,jc,r1];rfl,λy hy => ?_⟩;rcases jK.mp hy with z|z
  . exact r2 y z
  . rw [ju.mp z];exact hx
 rw [jC]at r1;refine⟨r,some (.lst (r.map prD)),w10,w11,⟨by omega,r2⟩,?_⟩;unfold y8;rw [Zh (Zp (Yc nil_of 'b'))];have k2:y10 (Y12 cs ns (some (nD m)) (some (nD n)) v4 (some (bD bl)) v6 (some (.lst (W.map rwD))) (some (nD a)) (some 'p') v10 v11)=_:=ZO (Yo (m:=n) (Zf rfl nil_of) 'a') hf;refine(Zh k2).trans ((YM rfl (d:=rwD r) ((ZA (Zf (x:=.lst (r.map prD)) rfl nil_of)).trans rfl) (by rw [ja];omega)).trans ?_)
 rw [jm];rfl
theorem ZkC(cs ns:List Int)(hcs:cs.length=20):∃m H W,TOk m H W/\V5 [IL cs,IL ns]=some (.tup [HD H,WD W]):=by
 obtain⟨m0,e0,l0⟩:=Z4 (ns.getD 1 0) (show 0<5 by decide);obtain⟨n0,e1,l1⟩:=Z4 ((ns.getD 1 0).fdiv 5) (show 0<3 by decide);obtain⟨k,e2,l2⟩:=Z4 (ns.getD 2 0) (show 0<4 by decide);have t2:y2 (Y12 cs ns none none none none none none none none none none)=some (.nx (Y12 cs ns (some (nD (1+m0))) none none none none none none none none none)):=Zp ((Zg (x:=.int 1) (y:=nD m0) rfl ((Zg (y:=.int 5) (JZ 1 rfl) rfl).trans ((ZP 'b').trans (by rw [show(5:Int)=((5:Nat):Int)from rfl,e0])))).trans ((add_int _ _).trans (by unfold nD;rw [show(1+(m0:Int))=((1+m0:Nat):Int) by omega])))
 have t3:y3 (Y12 cs ns (some (nD (1+m0))) none none none none none none none none none)=some (.nx (Y12 cs ns (some (nD (1+m0))) (some (nD (1+n0))) none none none none none none none none)):=Zp ((Zg (x:=.int 1) (y:=nD n0) rfl ((Zg (x:=.int ((ns.getD 1 0).fdiv 5)) (y:=.int 3) ((Zg (y:=.int 5) (JZ 1 rfl) rfl).trans (Yz 'b' 'b')) rfl).trans ((ZP 'b').trans (by rw [show(3:Int)=((3:Nat):Int)from rfl,e1])))).trans ((add_int _ _).trans (by unfold nD;rw [show(1+(n0:Int))=((1+n0:Nat):Int) by omega])))
 have t4:y4 (Y12 cs ns (some (nD (1+m0))) (some (nD (1+n0))) none none none none none none none none)=some (.nx (Y12 cs ns (some (nD (1+m0))) (some (nD (1+n0))) (some (.lst (sm.map bD))) none none none none none none none)):=Zp rfl
 obtain⟨bl,hbl,hb1⟩:∃bl,sm[k]? = some bl/\1<=bl.length:=by
  have:k=0\/k=1\/k=2\/k=3:=by omega
  rcases this with rfl|rfl|rfl|rfl<;>exact⟨_,rfl,by decide⟩
 have t5:y5 (Y12 cs ns (some (nD (1+m0))) (some (nD (1+n0))) (some (.lst (sm.map bD))) none none none none none none none)=some (.nx (Y12 cs ns (some (nD (1+m0))) (some (nD (1+n0))) (some (.lst (sm.map bD))) (some (bD bl)) none none none none none none)):=Zp ((Zg (x:=.lst (sm.map bD)) (y:=nD k) rfl ((Zg (y:=.int 4) (JZ 2 rfl) rfl).trans ((ZP 'b').trans (by rw [show(4:Int)=((4:Nat):Int)from rfl,e2])))).trans (Vq (by rw [ji,hbl];rfl)))
 have hH:∃H:List Nat,H.length=1+m0/\y6 (Y12 cs ns (some (nD (1+m0))) (some (nD (1+n0))) (some (.lst (sm.map bD))) (some (bD bl)) none none none none none none)=some (.nx (Y12 cs ns (some (nD (1+m0))) (some (nD (1+n0))) (some (.lst (sm.map bD))) (some (bD bl)) (some (AD H)) none none none none none)):=by
  have hc:=XV (γ:=Zj 0) (ε:=(eOp modW (eOp ixD (Za 1) (Za 0)) 't')) (δ0:=[none,some (IL cs)]) nD (λa=>nD ((cs.getD a 0).fmod 3).toNat) (List.range (1+m0)) λa ha=>⟨[some (nD a),some (IL cs)],rfl,by
   have ha:=jX.mp ha;obtain⟨x,hx,_⟩:=Z4 (cs.getD a 0) (show 0<3 by decide);have hx:(cs.getD a 0).fmod 3=(x:Int):=hx;refine(Zg (x:=.int (cs.getD a 0)) (y:=.int 3) ((Zg (x:=IL cs) (y:=nD a) rfl rfl).trans (Vr 'a')) rfl).trans ((ZP 'b').trans ?_);rw [hx,j0]⟩
  refine⟨(List.range (1+m0)).map λa=>((cs.getD a 0).fmod 3).toNat,by rw [ja,jC],Zp ((XT (n:=1) (js:=[0]) (Yo (m:=1+m0) (Zf rfl nil_of) 'a') rfl hc (by rw [ja,jC];omega)).trans ?_)⟩;show _=some (D.lst (List.map nD (List.map _ _)));rw [jZ];rfl
 obtain⟨H,hl,t6⟩:=hH
 obtain⟨δ',hf,W,w8,w9,w10,w11,rfl,r1,r2⟩:=Qy (γ:=Zj 8) (φ:=y8) nD (λdn δ=>∃W w8 w9 w10 w11,δ=Y12 cs ns (some (nD (1+m0))) (some (nD (1+n0))) (some (.lst (sm.map bD))) (some (bD bl)) (some (AD H)) (some (.lst (W.map rwD))) w8 w9 w10 w11/\W.length=dn.length/\∀r∈W,r.length<=3/\∀x∈r,x.2<1+m0) (List.range (1+m0)) (Y12 cs ns (some (nD (1+m0))) (some (nD (1+n0))) (some (.lst (sm.map bD))) (some (bD bl)) (some (AD H)) (some 'p') none none none none) ⟨[],none,none,none,none,rfl,rfl,λx hx=>nomatch hx⟩ λdn a tl δ e ⟨W,w8,w9,w10,w11,ed,r1,r2⟩=>by
  subst ed;obtain⟨hdn,ha⟩:=Qz e;obtain⟨r,z9,z10,z11,hr,k⟩:=Zmp hcs (ns:=ns) (m:=1+m0) (n:=1+n0) 'a' 'a' 'a' ha hb1 W 'a' (some (.lst (sm.map bD))) (some (AD H)) w9 w10 w11;refine⟨_,rfl,_,k,W++[r],some (nD a),z9,z10,z11,rfl,by rw [jc,jc,r1];rfl,λy hy => ?_⟩;rcases jK.mp hy with z|z
  . exact r2 y z
  . rw [ju.mp z];exact hr
 rw [jC]at r1;refine⟨1+m0,H,W,⟨by omega,by omega,hl,r1,λr hr=>(r2 r hr).1,λr hr=>(r2 r hr).2⟩,Yi (δ:=Y12 cs ns none none none none none none none none none none) rfl ?_⟩;rw [ZkB,Zh t2,Zh t3,Zh t4,Zh t5,Zh t6,Zh (Zp (Yc nil_of 'b'))];refine(Zh (ZO (Yo (m:=1+m0) (Zf rfl nil_of) 'a') hf)).trans (ZR (YL (Zf ((ZA (Zf (x:=AD H) rfl nil_of)).trans rfl) (Zf ((ZA (Zf (x:=.lst (W.map rwD)) rfl nil_of)).trans rfl) nil_of)) (show 2<=1000 by decide)))
theorem ZgE{W:List 'f'}:∀(k:Nat)(p:PI),¬Sw W k p->∃ss ss' bs e e',bs.length=k/\Pth W p.1.toNat ss bs e/\Pth W p.2.toNat ss' bs e'
 |0,p,_=>⟨[],[],[],_,_,rfl,.nil _,.nil _⟩
 |k+1,p,h=>by
  have:∃x,Nx W p x/\¬Sw W k x:=ya λz=>h λx hx=>ya λy=>z ⟨x,hx,y⟩
  obtain⟨x,⟨s,s',b,y,y',h1,h2,rfl⟩,hn⟩:=this;obtain⟨ss,ss',bs,e,e',hl,p1,p2⟩:=ZgE k _ hn;exact⟨s::ss,s'::ss',b::bs,e,e',by rw [jx,hl],.cons h1 p1,.cons h2 p2⟩
theorem ZgF{W:List 'f'}:∀(bs:List (List Nat)){a c e e':Nat}{ss ss':List Nat},Pth W a ss bs e->Pth W c ss' bs e'->¬Sw W bs.length ((a:Int),(c:Int))
 | [],a,c,e,e',ss,ss',_,_=>λh=>h
 |b::bs,a,c,e,e',ss,ss',p1,p2=>by
  cases p1 with
  |cons s1 q1=>
   cases p2 with
   |cons s2 q2=>exact λh=>ZgF bs q1 q2 (h _ ⟨_,_,b,_,_,s1,s2,rfl⟩)
section
variable{mk:List Nat}{gw:Gw}{base:List Nat}{rows:List 'f'}{n dp sp q:Nat}{cs:List Int}
theorem ZdA{a h:Nat}(hs:1<=sp)(e:(dHm base sp base.length)[a]? = some h):∃i k,i<base.length/\k<sp/\a=i*sp+k/\h=base.getD i 0:=by
 have hl:=(jt.mp e).1;rw [JQ]at hl;obtain⟨i,k,hi,hk,rfl⟩:∃i k,i<base.length/\k<sp/\a=i*sp+k:=⟨a / sp,a % sp,by rw [uM hs];exact hl,Nat.mod_lt _ hs,by rw [qN];exact(uI a sp).symm⟩
 have e2:(dHm base sp base.length)[i*sp+k]? = some (base.getD i 0):=Uf (λi _=>base.getD i 0) sp base.length i k hi hk;rw [e2]at e;exact⟨i,k,hi,hk,rfl,(jo e).symm⟩
theorem Zif(hb:Base gw base)(hc:Ch mk gw base q rows)(h:Dl rows n dp sp):Lk (dHm base sp base.length) (dW base rows cs n dp sp base.length) dp:=by
 rintro x ⟨a,a',hh,s,s',b,y,y',ha,ha',ne,h1,h2,rfl⟩
 refine ya λz=>ne ?_
 obtain⟨ss,ss',bs,e,e',hl,p1,p2⟩:=ZgE _ _ z;obtain⟨i,k,hi,hk,rfl,g1⟩:=ZdA h.s1 ha;obtain⟨i',k',hi',hk',rfl,g2⟩:=ZdA h.s1 ha'
 have ei:i=i':=by
  rw [g1,jv,jv,jd hi,jd hi']at g2;exact(List.getElem_inj hb.nd).mp g2
 subst ei;have q1:=Pth.cons h1 p1;have q2:=Pth.cons h2 p2
 have ek:k=k':=by
  by_cases hd:0<dp
  . have:=JR hb hc h hd dp (jk _) i k k' _ _ _ _ _ hi hk hk' (by rw [jx];omega) q1 q2
    rw [yQ,Nat.pow_zero,Nat.div_one,Nat.div_one]at this;exact this
  . have:=h.s
    rw [show dp=0 by omega,Nat.pow_zero]at this;omega
 subst ek;refine dec hb hc h ?_ (by rw [jx];omega) q1 q2;have:(i+1)*sp<=base.length*sp:=yy sp hi;rw [yl]at this;omega
theorem QA{i k s:Nat}(hi:i<base.length)(hk:k<sp)(hs:s<n):st (dW base rows cs n dp sp base.length) (i*sp+k) s=some (Z7 base rows cs n dp sp i k s):=by
 unfold st;rw [show(dW base rows cs n dp sp base.length)[i*sp+k]? = some (ZW base rows cs n dp sp i k)from Uf (ZW base rows cs n dp sp) sp base.length i k hi hk];show(ZW base rows cs n dp sp i k)[s]? = _;unfold ZW;rw [ji,j1 hs];rfl
theorem ZgG(hb:Base gw base)(hc:Ch mk gw base q rows)(h:Dl rows n dp sp):∀(L:Nat),L<=dp->∀(i k1 k2:Nat),i<base.length->k1<sp->k2<sp->k1 / n ^ (dp-L)=k2 / n ^ (dp-L)->∃ss ss' bs e e',bs.length=L/\Pth (dW base rows cs n dp sp base.length) (i*sp+k1) ss bs e/\Pth (dW base rows cs n dp sp base.length) (i*sp+k2) ss' bs e'
 |0,_,i,k1,k2,_,_,_,_=>⟨[],[],[],_,_,rfl,.nil _,.nil _⟩
 |L+1,hL,i,k1,k2,hi,h1,h2,he=>by
  have n1:=h.n1;have hd:0<dp:=by omega
  obtain⟨hh,_,_⟩:=h.half hd
  have hq:n ^ (dp-1)=n ^ (dp-(L+1))*n ^ L:=by
   rw [<-Nat.pow_add]
   congr 1
   omega
  have hp:n ^ (dp-L)=n*n ^ (dp-(L+1)):=by
   rw [show dp-L=(dp-(L+1))+1 by omega,uj,qN]
  have P1:pk cs n dp sp (i*sp+k1) k1 0=k1 / n ^ (dp-1):=by unfold pk;rw [je hd,hh]
  have P2:pk cs n dp sp (i*sp+k2) k2 0=k2 / n ^ (dp-1):=by unfold pk;rw [je hd,hh]
  have ep:pk cs n dp sp (i*sp+k1) k1 0=pk cs n dp sp (i*sp+k2) k2 0:=by
   rw [P1,P2,hq,<-qv,<-qv,he]
  have s1:=QA (rows:=rows) (dp:=dp) (cs:=cs) hi h1 (show 0<n by omega);have s2:=QA (rows:=rows) (dp:=dp) (cs:=cs) hi h2 (show 0<n by omega);obtain⟨i1,m1,hi1,hm1,w1,w2,w3⟩:=Xn (cs:=cs) hb hc h (s:=0) hi h1;obtain⟨i2,m2,hi2,hm2,y1,y2,y3⟩:=Xn (cs:=cs) hb hc h (s:=0) hi h2;have ei:i1=i2:=by rw [w2,y2,ep]
  subst ei;have N1:=(YU cs n1 (i*sp+k1) 0).2;have N2:=(YU cs n1 (i*sp+k2) 0).2;have L1:m1=k1 % n ^ (dp-1)*n+nw cs n (i*sp+k1) 0:=by rw [w3];unfold lat;rw [je hd,hh]
  have L2:m2=k2 % n ^ (dp-1)*n+nw cs n (i*sp+k2) 0:=by rw [y3];unfold lat;rw [je hd,hh]
  have D1:m1 / n=k1 % n ^ (dp-1):=by rw [L1,qN,ub n1,qZ N1,uD]
  have D2:m2 / n=k2 % n ^ (dp-1):=by rw [L2,qN,ub n1,qZ N2,uD]
  obtain⟨ss,ss',bs,e,e',hl,p1,p2⟩:=ZgG hb hc h L 'a' i1 m1 m2 hi1 hm1 hm2 (by
   rw [hp,<-qv,<-qv,D1,D2,hq,Nat.mod_mul_right_div_self,Nat.mod_mul_right_div_self,he])
  refine⟨0::ss,0::ss',(Z7 base rows cs n dp sp i k1 0).1::bs,e,e',by rw [jx,hl],.cons (a':=i1*sp+m1) (s1.trans ?_) p1,.cons (a':=i1*sp+m2) (s2.trans ?_) p2⟩
  . rw [<-w1]
  . rw [<-y1]
    have:(Z7 base rows cs n dp sp i k2 0).1=(Z7 base rows cs n dp sp i k1 0).1:=by
     unfold Z7;rw [ep]
    rw [<-this]
theorem ZfI(hb:Base gw base)(hc:Ch mk gw base q rows)(h:Dl rows n dp sp)(hn:2<=n){j:Nat}(hj:j<dp):¬Lk (dHm base sp base.length) (dW base rows cs n dp sp base.length) j:=λz=>by
 have n1:=h.n1;have hd:0<dp:=by omega
 have hs:=h.s1;have hi:0<base.length:=hb.ne;obtain⟨hh,_,_⟩:=h.half hd;have a0:(dHm base sp base.length)[0*sp+0]? = some (base.getD 0 0):=Uf (λi _=>base.getD i 0) sp base.length 0 0 hi hs;have s1:=QA (rows:=rows) (dp:=dp) (cs:=cs) (s:=0) hi hs (show 0<n by omega);have s2:=QA (rows:=rows) (dp:=dp) (cs:=cs) (s:=1) hi hs (show 1<n by omega);obtain⟨i1,m1,hi1,hm1,w1,w2,w3⟩:=Xn (cs:=cs) hb hc h (s:=0) hi hs
 obtain⟨i2,m2,hi2,hm2,y1,y2,y3⟩:=Xn (cs:=cs) hb hc h (s:=1) hi hs;have ep:pk cs n dp sp (0*sp+0) 0 0=pk cs n dp sp (0*sp+0) 0 1:=by unfold pk;rw [je hd,je hd]
 have ei:i1=i2:=by rw [w2,y2,ep]
 subst ei;have N1:=(YU cs n1 (0*sp+0) 0).2;have N2:=(YU cs n1 (0*sp+0) 1).2;have D1:m1 / n=0:=by rw [w3];unfold lat;rw [je hd,Nat.zero_mod,Nat.zero_mul,jW,qZ N1]
 have D2:m2 / n=0:=by rw [y3];unfold lat;rw [je hd,Nat.zero_mod,Nat.zero_mul,jW,qZ N2]
 obtain⟨ss,ss',bs,e,e',hl,p1,p2⟩:=ZgG (cs:=cs) hb hc h j 'a' i1 m1 m2 hi1 hm1 hm2 (by
  rw [show n ^ (dp-j)=n*n ^ (dp-(j+1)) by rw [show dp-j=(dp-(j+1))+1 by omega,uj,qN],<-qv,<-qv,D1,D2])
 have:=ZgF bs p1 p2;rw [hl]at this;refine this (z _ ⟨0*sp+0,0*sp+0,base.getD 0 0,0,1,(Z7 base rows cs n dp sp 0 0 0).1,i1*sp+m1,i1*sp+m2,a0,a0,by decide,s1.trans ?_,s2.trans ?_,rfl⟩)
 . rw [<-w1]
 . rw [<-y1]
   have:(Z7 base rows cs n dp sp 0 0 1).1=(Z7 base rows cs n dp sp 0 0 0).1:=by
    unfold Z7;rw [ep]
   rw [<-this]
theorem ZkD(hb:Base gw base)(hc:Ch mk gw base q rows)(h:Dl rows n dp sp):TOk (base.length*sp) (dHm base sp base.length) (dW base rows cs n dp sp base.length):=by
 have hs:=h.s1;have s8:=h.s8;have b1:=hb.ne;have b4:=hb.l4;refine⟨Nat.mul_pos b1 hs,jL (yR b4 s8) 'b',JQ ..,Zgr ..,λr hr => ?_,λr hr p hp => ?_⟩
 all_goals
  unfold dW at hr;obtain⟨i,hi,hr⟩:=qL.mp hr;obtain⟨k,hk,rfl⟩:=jE.mp hr;have hi:=jX.mp hi;have hk:=jX.mp hk
 . unfold ZW
   rw [ja,jC];exact h.n3
 . unfold ZW at hp
   obtain⟨s,_,rfl⟩:=jE.mp hp;obtain⟨i1,m1,hi1,hm1,w1,_,_⟩:=Xn (cs:=cs) hb hc h (s:=s) hi hk;rw [w1];have:(i1+1)*sp<=base.length*sp:=yy sp hi1;rw [yl]at this;omega
end
noncomputable def z1:EN->Option Out:=(Ze 1 (Zn 3 U1 [] (Zb (Za 0) (Zb (eC (.int 4)) (Zb (eC (.int 20)) eNil)))))
noncomputable def z2:EN->Option Bool:=(xB (eOp eqD (eOp modW (Zn 2 ZS [] (Zb (Za 0) (Zb 'm' eNil))) 'o') 'd'))
noncomputable def z3:EN->Option Out:=(Zd (Ze 2 (Zn 2 U9 [] (Zb (Za 0) (Zb (Za 1) eNil)))) (Zd (Ze 3 (eOp ixD (Za 2) 'd')) (Zd (Ze 4 (eOp ixD (Za 2) 'o')) (Ze 5 (eOp ixD (Za 2) 't')))))
noncomputable def z4:EN->Option Out:=(Zd (Y2 (ZY 2 (Zz 3 (Zz 4 gsNil))) (Zn 2 V5 [] (Zb (Za 1) 'n'))) (Ze 5 (Zn 2 V7 [] (Zb (Za 3) (Zb (Za 4) eNil)))))
noncomputable def z6:EN->Option Out:=(Ze 6 (Zn 2 XU [] (Zb (Za 3) (Zb (Za 4) eNil))))
noncomputable def z9:EN->Option Out:=(Zd (sIf (xB (XH (Za 5))) (Zt (XH (Za 6))) sNext) (Zt (Xh (Xj UX (Za 6)) (Xh (Vh (Xj UW (Za 6))) (eOp eqD (Za 6) (Za 5))))))
theorem ZkE:JI=Zd z1 (Zd (sIf z2 z3 z4) (Zd z6 z9)):=rfl
abbrev LA(ns:List Int)(v1 v2 v3 v4 v5 v6:Option D):EN:=[some (IL ns),v1,v2,v3,v4,v5,v6]
theorem Zmq(ns:List Int)(v1 v2 v3 v4:Option D)(x:Option Nat):z9 (LA ns v1 v2 v3 v4 (some (Lg.resD x)) (some (Lg.resD x)))=some (.rt (.bl true)):=by
 cases x with
 |none=>exact XS ((ZZ (ZH rfl)).trans (ZR rfl))
 |some j=>
  refine(Zh ((Z0 (ZH rfl)).trans rfl)).trans (ZR ?_);refine Zc7 (Zgd (d:=.int (j:Int)) rfl rfl) (Zc7 ?_ ?_)
  . unfold Vh
    rw [Zgd (d:=.int (j:Int)) (b:=false) rfl rfl];rfl
  . exact(Zg (x:=.int (j:Int)) (y:=.int (j:Int)) rfl rfl).trans ((YS _ _).trans (by rw [jN rfl]))
theorem Zig{gw:Gw}{base:List Nat}{q:Nat}{rows:List 'f'}{n dp sp:Nat}{cs:List Int}(l:Late mk gw base q rows n dp sp):XU [HD (dHm base sp base.length),WD (dW base rows cs n dp sp base.length)]=some (Lg.resD (some dp)):=by
 obtain⟨o,l1,_,l3⟩:=Zdx (ZkD (cs:=cs) l.hb l.hc l.dl);have k1:=Zif (cs:=cs) l.hb l.hc l.dl;rw [l3];cases o with
 |none=>exact absurd k1 (l1 dp)
 |some r=>
  rcases Nat.lt_trichotomy r dp with z|z|z
  . exact absurd l1.1 (ZfI l.hb l.hc l.dl (l.n2 'a') z)
  . rw [z]
  . exact absurd k1 (l1.2 dp z)
theorem all_true(ns:List Int)(hns:ns.length<=63):Qa [.lst (ns.map D.int)]=some (.bl true):=by
 obtain⟨cs,hcs,hf⟩:=Zkb ns hns;have t1:z1 (LA ns none none none none none none)=some (.nx (LA ns (some (IL cs)) none none none none none)):=Zp ((Z3 (n:=3) (Zf (x:=IL ns) rfl (Zf (x:=.int 4) rfl (Zf (x:=.int 20) rfl nil_of))) rfl).trans hf);have t2:z2 (LA ns (some (IL cs)) none none none none none)=some (decide ((ns.getD 0 0).fmod 2=1)):=ZH ((Zg (x:=.int ((ns.getD 0 0).fmod 2)) (y:=.int 1) ((Zg (y:=.int 2) (XY 0 rfl) rfl).trans (ZP 'b')) rfl).trans (YS _ _))
 have main:∃v2 H W o,sIf z2 z3 z4 (LA ns (some (IL cs)) none none none none none)=some (.nx (LA ns (some (IL cs)) v2 (some (HD H)) (some (WD W)) (some (Lg.resD o)) none))/\XU [HD H,WD W]=some (Lg.resD o):=by
  by_cases e:(ns.getD 0 0).fmod 2=1
  . obtain⟨mk,gw,x,base,q,rows,n,dp,sp,l,hl⟩:=Zh2 ns cs hcs
    refine⟨some (.tup [gD mk gw x,HD (dHm base sp base.length),WD (dW base rows cs n dp sp base.length),nD dp]),dHm base sp base.length,dW base rows cs n dp sp base.length,some dp,(ZZ (by rw [t2,jN e])).trans ?_,Zig l⟩;unfold z3;rw [Zh (Zp ((Z3 (n:=2) (Zf (x:=IL ns) rfl (Zf (x:=IL cs) rfl nil_of)) rfl).trans hl))];generalize dHm base sp base.length=H;generalize dW base rows cs n dp sp base.length=W
    have i1:eOp ixD (Za 2) 'd' (LA ns (some (IL cs)) (some (.tup [gD mk gw x,HD H,WD W,nD dp])) none none none none)=some (HD H):=rfl;refine(Zh (Zp i1)).trans ?_;have i2:eOp ixD (Za 2) 'o' (LA ns (some (IL cs)) (some (.tup [gD mk gw x,HD H,WD W,nD dp])) (some (HD H)) none none none)=some (WD W):=rfl;refine(Zh (Zp i2)).trans ?_;have i3:eOp ixD (Za 2) 't' (LA ns (some (IL cs)) (some (.tup [gD mk gw x,HD H,WD W,nD dp])) (some (HD H)) (some (WD W)) none none)=some (nD dp):=rfl
    exact Zp i3
  . obtain⟨m,H,W,t,ha⟩:=ZkC cs ns hcs
    obtain⟨o,d1,d2⟩:=ZkA t;refine⟨none,H,W,o,(Z0 (by rw [t2,jF e])).trans ?_,d2⟩;unfold z4;have a1:=JP (i:=3) (j:=4) (ε:=Zn 2 V5 [] (Zb (Za 1) 'n')) (δ:=LA ns (some (IL cs)) none none none none none) ((Z3 (n:=2) (Zf (x:=IL cs) rfl (Zf (x:=IL ns) rfl nil_of)) rfl).trans ha);refine(Zh a1).trans (Zp ((Z3 (n:=2) (Zf (x:=HD H) rfl (Zf (x:=WD W) rfl nil_of)) rfl).trans d1))
 obtain⟨v2,H,W,o,h1,h2⟩:=main;refine Yi (δ:=LA ns none none none none none none) rfl ?_;rw [ZkE,Zh t1,Zh h1,Zh (show z6 _=_ from Zp ((Z3 (n:=2) (Zf (x:=HD H) rfl (Zf (x:=WD W) rfl nil_of)) rfl).trans h2))];exact Zmq ns _ _ _ _ o
end K41
namespace K41
open PySem PySem.Spec L2 DL
def QB(K:Frag):Sp:=λvs H Q _=>∃(a:Addr) (ns:List Int),vs=[.ref a]/\SqL K H a (ns.map V.int)/\ns.length<=63/\∀H',Q (.bl true) H'
theorem ZkF(hall:∀ns:List Int,ns.length<=63->Qa [.lst (ns.map D.int)]=some (.bl true)){K:Frag}{t:Adr}(T:Txt K mg t):FnOk P w K mg base CX0 5 t.a_QU t.d_QU ["script"] (QB K):=
 (ZlW T).imp λvs H Q E ⟨a,ns,hv,hr,hl,q⟩=>by
   subst hv;refine⟨λ_=>False,[.lst (ns.map D.int)],.bl true,λ_ z=>z.elim,.cons ?_ .nil,rfl,hall ns hl,λv H' _ r => ?_⟩
   . unfold Rep
     refine⟨a,_,rfl,λz=>z.elim,hr,?_⟩;have:=RepL.of_vals (cA:=⟨t.c,K⟩) (av:=λ_=>False) (H:=H) (xs:=ns.map D.int) (by rw [yC];exact jT.mpr λ_ _=>rfl);rw [jZ]at this;exact this
   . cases(show v=_ from r)
     exact q H'
theorem all_mk (hall:∀ns:List Int,ns.length<=63->Qa [.lst (ns.map D.int)]=some (.bl true)) {l:PySem.W.OpenLaw} {K:Frag} {h:Heap} {mg:Str->Option Value} (X:K.In h) (G:h.Ns mainGlobals mg) (hfa:mg "law" = some (.ref fa)) {d0 d1 d2 d3 d4 d6 d7 d8 d9 d10 d11 d12 d13 d14 d15 d16 d17 d18 d19:FuncData} {od5 an5:Option Addr} {sl5:Array (Option Value)} {oc5 kV5 dc5 pm5 cd5 ct5:Value}
 {pt cn bm:Addr} {odc:Option Addr} {vsc:Array Value} {slc slm:Array (Option Value)} {flg txl:Int} {inf_:Bool}
 (l0:Fg K "all_followers" Qb f0 d0)
 (l1:Fg K "longest" V8 f1 d1)
 (l2:Fg K "ways_by_block" V9 f2 d2)
 (l3:Fg K "first_pairs" Qc f3 d3)
 (l4:Fg K "places_by_block" Qd f4 d4)
 (a5:nsIn K mainGlobals "look_of" = some (some (.ref f5)))
 (l5:K.lookup f5=some ⟨oc5,od5,.func (fnOf "look_of" "look_of" (defArgs Y8) (defBody Y8) (defScope Y8) .none kV5 dc5 pm5 an5 cd5 ct5),sl5⟩)
 (c5:codeIn K cd5 "look_of" = true)
 (k5:keepIn K (.ref f5)=true)
 (l6:Fg K "_law_cell_at" Qe f6 d6)
 (l7:Fg K "_law_folded" Ua f7 d7)
 (l8:Fg K "_law_marks" Ub f8 d8)
 (l9:Fg K "_law_last_ways" Qf f9 d9)
 (l10:Fg K "_law_gap_ways" Qg f10 d10)
 (l11:Fg K "_law_ground" Qh f11 d11)
 (l12:Fg K "_law_blocks" Qi f12 d12)
 (l13:Fg K "_law_choices" Vu f13 d13)
 (l14:Fg K "_law_delayed" Qj f14 d14)
 (l15:Fg K "_law_late" Uc f15 d15)
 (l16:Fg K "_law_any" Ud f16 d16)
 (l17:Fg K "_law_on" Qk f17 d17)
 (l18:Fg K "_law_due" Qm f18 d18)
 (l19:Fg K "law" Qn f19 d19)
 (nr_0:cd5 = .ref cn)
 (nk_1:K.lookup cn=some ⟨.type "code",odc,.fields vsc,slc⟩)
 (nr_2:vsc[11]? = some (.ref pt))
 (nr_3:vsc[18]? = some (.str fln tkf))
 (nr_4:vsc[7]? = some (.int flg tkg))
 (nr_5:vsc[9]? = some (.bool inf_))
 (nr_6:vsc[10]? = some (.int txl tkt))
 (nd_7:cn≠pt)
 (nk_8:nsIn K mainGlobals "__builtins__" = some (some (.ref bm)))
 (nk_9:K.lookup bm=some ⟨.type "module",some builtinsNs,.plain,slm⟩)
 (Zns:bm≠builtinsNs)
 (Znt:(pt,("look_of.<locals>.followers" : Str))∈Xo K)
 (Znu:nsIn K mainGlobals "bool" = some none)
 (Znv:nsIn K mainGlobals "enumerate" = some none)
 (Znw:nsIn K mainGlobals "int" = some none)
 (Znx:nsIn K mainGlobals "isinstance" = some none)
 (Zny:nsIn K mainGlobals "len" = some none)
 (Znz:nsIn K mainGlobals "list" = some none)
 (ZnA:nsIn K mainGlobals "max" = some none)
 (ZnB:nsIn K mainGlobals "min" = some none)
 (ZnC:nsIn K mainGlobals "range" = some none)
 (ZnD:nsIn K mainGlobals "tuple" = some none)
 (ZnE:nsIn K mainGlobals "zip" = some none)
 (Zng:kitOne K (.type "NoneType") (.type "bool")=some false)
 (Zni:kitOne K (.type "bool") (.type "bool")=some true)
 (Znk:kitOne K (.type "int") (.type "bool")=some false)
 (Zno:kitOne K (.type "str") (.type "bool")=some false)
 (Znm:kitOne K (.type "list") (.type "bool")=some false)
 (Znq:kitOne K (.type "tuple") (.type "bool")=some false)
 (Znh:kitOne K (.type "NoneType") (.type "int")=some false)
 (Znj:kitOne K (.type "bool") (.type "int")=some true)
 (Znl:kitOne K (.type "int") (.type "int")=some true)
 (Znp:kitOne K (.type "str") (.type "int")=some false)
 (Znn:kitOne K (.type "list") (.type "int")=some false)
 (Znr:kitOne K (.type "tuple") (.type "int")=some false)
 : ∃fd:FuncData,(∀(s:Shared)(v:Value),BindsTo s fd ⟨[v],[]⟩ [("script",v)])/\∀base:Heap,K.In base->base.Ns mainGlobals mg->FnOk l.prog w K mg base CX0 5 fa fd ["script"] (QB K):=by
 cases hfa.symm.trans (mg_of X G l19.a);have F5:FunX K "look_of" "look_of" Y8 f5 _:=(fun_mk (st:=Y8) l5 c5 k5).x;have b5:=(fun_mk (st:=Y8) l5 c5 k5).binds (ps:=["homes", "ways"]) λ_ _ _ _ _ _ us hl=>match us,hl with|[_,_],_=>rfl
 have T:Txt K mg ⟨pt,f0,f1,f2,f3,f4,f5,f6,f7,f8,f9,f10,f11,f12,f13,f14,f15,f16,f17,f18,fa,d0,d1,d2,d3,d4,_,d6,d7,d8,d9,d10,d11,d12,d13,d14,d15,d16,d17,d18,d19⟩:=⟨l0.dg X G l0.l.df,l1.dg X G l1.l.df,l2.dg X G l2.l.df,l3.dg X G l3.l.df,l4.dg X G l4.l.df,F5,b5,mg_of X G a5,k5,l6.dg X G l6.l.df,l7.dg X G l7.l.df,l8.dg X G l8.l.df,l9.dg X G l9.l.df,l10.dg X G l10.l.df,l11.dg X G l11.l.df,l12.dg X G l12.l.df,l13.dg X G l13.l.df,l14.dg X G l14.l.df,l15.dg X G l15.l.df,l16.dg X G l16.l.df,l17.dg X G l17.l.df,l18.dg X G l18.l.df,l19.dg X G l19.l.df,Znt,⟨cn,nr_0,Zfc X G nk_1 nr_2 nr_3 nr_4 nr_5 nr_6 nd_7 nk_8 nk_9 Zns⟩,yk X G Znu,yk X G Znv,yk X G Znw,yk X G Znx,yk X G Zny,yk X G Znz,yk X G ZnA,yk X G ZnB,yk X G ZnC,yk X G ZnD,yk X G ZnE,ZcR (by intro p hp;simp only [UW,jA,List.mem_nil_iff,or_false]at hp;rcases hp with rfl|rfl|rfl|rfl|rfl|rfl<;>first|exact Zng|exact Zni|exact Znk|exact Zno|exact Znm|exact Znq),ZcR (by intro p hp;simp only [UX,jA,List.mem_nil_iff,or_false]at hp;rcases hp with rfl|rfl|rfl|rfl|rfl|rfl<;>first|exact Znh|exact Znj|exact Znl|exact Znp|exact Znn|exact Znr)⟩
 obtain⟨_,_,_,_,_,_,_,_,_,rfl,_⟩:=l19.l.ex;exact⟨_,λs v => .of_eq rfl,λbase _ _=>ZkF hall T⟩
theorem walk {l:PySem.W.OpenLaw} {XP:(Str->Option Value)->Heap->Prop} {YP:World->Heap->Prop} {d:DefRec} {K:Params->Frag} (hn:l.most=some 63) (hdf:d.params.defaults=[])
 {Pt:Addr} {qual:Str} (hY:∀(w:World)(h:Heap),YP w h->(K w.params).In h/\h.get? Pt=some (PySem.W.tabObj #[])) (hT:∀w:World,Xo (K w.params)=[(Pt,qual)]) (hKP:∀w:World,(K w.params).lookup Pt=none)
 (hct:∀w:World,∃c o vs,(K w.params).lookup c=some o/\o.cls = .type "code" /\ o.data = .fields vs/\vs[11]? = some (.ref Pt))
 (F:∀(w:World)(mg:Str->Option Value)(fa:Addr)(h:Heap),(K w.params).In h->h.Ns mainGlobals mg->mg d.name=some (.ref fa) ->
   ∃fd:FuncData,(∀(s:Shared)(u:Value),BindsTo s fd ⟨[u],[]⟩ [("script",u)])/\∀base:Heap,(K w.params).In base->base.Ns mainGlobals mg->FnOk l.prog w (K w.params) mg base CX0 5 fa fd ["script"] (QB (K w.params))) :
 PySem.W.WalkO q loose XP YP l.row.toRowW d [] (λf vs=>PySem.call f vs):=
 L2.walk_of1 (n:=63) (k:=5) (x:="script") (CX:=λ_=>CX0) (sp:=λw=>QB (K w.params)) hn 'b' hdf ⟨rfl,by decide,by decide⟩ hY hT hKP hct F (λ_ _ a ns hl hS=>⟨a,ns,rfl,hS,hl,λ_=>rfl⟩) λ_ _ _ _ _ z=>z
theorem kA_in(w:World)(h:Heap)(Y:PySem.W.InK K41.kA w h):(K41.kP w.params).In h/\h.get? 47=some (PySem.W.tabObj #[]):=by
 have e:K41.kP w.params=(K41.kP w.params).dropLast++[(nat_lit 3,⟨(.str "look_of.<locals>.followers" 0),some 47,.plain,#[]⟩)]:=by kernel_rfl
 rw [e];exact L2.in_marked (by kernel_rfl) (by kernel_rfl) Y
theorem kP_no(w:World):(K41.kP w.params).lookup 47=none:=by kernel_rfl
theorem kP_cod(w:World):∃c o vs,(K41.kP w.params).lookup c=some o/\o.cls = .type "code" /\ o.data = .fields vs/\vs[11]? = some (.ref 47):=⟨49,HT.c3 "look_of" "look_of" 237 54 2 3 46 47 .none .none 48 240 241,_,by kernel_rfl,rfl,rfl,rfl⟩
end K41
open PySem PySem.W PyProof.Rows
set_option maxRecDepth 100000 in
set_option maxHeartbeats 0 in
theorem PySem.Challenge.cw_grooveway_k41_look_holds : PySem.Challenge.rw_grooveway_k41_look.Holds := by
 w_on;o_law
 refine holds_open (r:=PySem.Challenge.rw_grooveway_k41_look.row) (q:=(view PySem.Challenge.pw_grooveway_k41_look [1,2,4,5,6,7,9,10,11,12,13,14,15,16,17,18,19,20,21,22,23])) (loose:=[]) (XP:=XL (view PySem.Challenge.pw_grooveway_k41_look [1,2,4,5,6,7,9,10,11,12,13,14,15,16,17,18,19,20,21,22,23]) []) (YP:=InK K41.kA) K41.left (InK.of K41.kA_as) InK.keeps (λs e=>xl_of s (Bool.and_eq_true_iff.mp e).1) XL.keeps (by rfl) (by rfl) (by rfl) (λs e=>recFacts_of (Bool.and_eq_true_iff.mp e).2) (by rfl) (by assumption) (by decide +kernel) ⟨rfl,rfl,rfl,rfl,rfl,by decide +kernel⟩ ?hw ?hc
 case hw=>w_witness2
 k_fill
 refine K41.walk (l:=PySem.Challenge.rw_grooveway_k41_look) rfl rfl (λw h Y=>K41.kA_in w h Y) (λ_=>K41.kP_tabs _) K41.kP_no K41.kP_cod ?F
 case F=>
  intro w mg fa h KX G hmg
  k_fill
  refine' K41.all_mk K41.all_true KX G hmg ..
  any_goals first|k_is|kit_is|k_exc|kts_exm|rfl|kernel_rfl|decide +kernel|(rw [K41.kP_tabs];simp)|(refine' L2.Fg.of ?_ ?_ ?_ ?_<;>first|k_is|skip)|(refine' L2.fun_mk ?_ ?_ ?_<;>first|k_is|skip)|skip
