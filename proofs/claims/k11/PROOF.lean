import PyProof.Rows.All
import Wide.All
import OpenK.AllK
import Wide.FinOn
import Lean
import PyProof.EqAt
import PyProof.EqKinds
import PyProof.TupleCall
import PyProof.Rows.StrCountLaw
import PyProof.Rows.StrFirst
import PyProof.Rows.StrLast
import PyProof.Rows.StrNews2
import PyProof.Rows.StrSplitCount
import PyProof.StrBlockI
import PyProof.StrLawsIn
import PyProof.StrLawsLast
import PyProof.EnumMake
import PyProof.FString
import PyProof.ReprStr
import PyProof.StrLawsRepr
import PyProof.ListStr
import PyProof.ListRange
import PySem.Challenge.RW_grooveway_k11_pages_refused
set_option genSizeOf false
set_option compiler.extract_closed false
set_option Elab.async false
set_option linter.all false
set_option maxRecDepth 100000
set_option maxHeartbeats 4000000
noncomputable section
open Option renaming some->ja,map_eq_some_iff->ud,none->OU,isNone_iff_eq_none->og,getD_none->vL,map->WP
open PySem.W renaming Frag->jb,findIn->jm,kitOne->ju,keepIn->jM,tabObj->jW,hasDictIn->qr,kia_one->qC,exmOne->qD,mroIn->qE,plainGet->qO,plainOver->qS,mg_none_of->ye,makesIn->yf,isFn->yB,specialIn->yH,envX->yQ,callWith_K->yW,hideAll_get->y0,of_hideAll->uo,mg_of->ur,looks_findIn->uB,cellsFrom_some->uZ,kla_obj->u1,hideAll_none->u7,excIn->Oq,clsIn->Os,methodObj->OA,kitx_list->OB,any_some->OK,takesIn->OO,takerIn->OP,readsIn->OQ,findCls->OR,OpenLaw->OS,lookIn->OY,methodCall_KW->oA,looks_mroIn->oB,hideAll_size->oP,looks_clsIn->oW,findObj_own->oX,funFrames_hide->vb,codeRec_of->vd,callWith_F->ve,set_plain->vo,kitx_dict->vp,handedIn->vE,hideAll->vJ,bind_fn->vK,kla_fn->vR,kitAny->vS,InstAt->vT,WalkO->Wa,FnAt->Wf
open PySem renaming Value->jc,Addr->jf,Shared->jg,wpAny_bind->jl,sizeLine_eq->jo,sizeLine->jv,wpAny_pure->jB,wpAny->jJ,Program->jS,World->jV,Heap->jX,mem_of_lookup->j4,wpAny_mono->j7,Around->qe,Stmt->qv,Expr->qA,Scope->qH,FuncData->qI,compareOp->qL,NameKind->qP,wpAny_Call_Name_kw->yc,codeAny_call_builtin->yk,binaryOp->yl,wpAny_truthy_bool->yn,Env->yq,wpAny_holding->yA,wpAny_call->yL,codeAny_mono->yM,wpAny_loadPart_at->yT,call_meets->um,wpAny_getItem_str_slice->uq,wpAny_newObj_type->uA,wpAny_standAt->uJ,wpAny_field->uL,wpAny_passesOwn->uS,wpAny_execs_nil->uT,typeIs_str->uY,wpAny_pyIter_strU->Oc,wpAny_pyIter_list->Od,wpAny_pyIter_enum->Oe,wpAny_comprehension_free->Ol,wpAny_execs_cons->Oo,post_val_or_str->Ox,frameOf->Oy,boot_len->OI,Within->OJ,plainObj_wpAny_Assign_Attribute->oj,wpAny_leaves_onW->oo,wpAny_loadPart'->oM,pushCells_keeps->oO,wpAny_newFunctionEnv_cells->o8,wpAny_loadPart->o9,wpAny_letOwnedTupleGo_enum->va,wpAny_attempt->vC,call->vD,wpAny_pyNext_enum_itemD->vI,wpAny_pyNext_range_end->vO,wpAny_pyNext_enum_endD->vP,wpAny_pyIter_rangeiter->vQ,wpAny_nextOf_list_end->vZ,wpAny_isTrue_Compare1->v7,wpAny_formatField_str->v8,codeAny_call_function->v9,wpAny_isSubtype_exc->Wo,wpAny_pyIter_tuple->Ws,wpAny_pyIter_range->Wt,wpAny_leaves_madeW->Wu,wpAny_Name->Wv,typeLookup->Ww,typeIs_int->Wx,Result->WB,wpAny_assign_Name->WH,wpAny_Return_some->WI,slot_list_getitem->WJ,wpAny_lookBehind->WS,pastItsLine_dict->WT,wpAny_stack_any->W1,wpAny_looks_onW->W2,codeAny_of_tree->W3,codeAny_builtin->W4
open List renaming replicate->jd,length_cons->jh,length_map->jk,mem_cons->jp,mem_cons_of_mem->jq,mem_cons_self->jr,length_append->jt,map_cons->jy,lookup_cons->jC,lookup->jG,mem_nil_iff->jH,getElem?_eq_some_iff->jL,size_toArray->jN,mem_append_right->jO,length_replicate->jP,getElem?_eq_getElem->jQ,all_eq_true->jR,length_take->jT,getElem?_map->j9,mem_map->qf,append_nil->qh,getElem?_append_right->qj,length_singleton->qo,getElem?_append_left->qp,forall_mem_cons->qt,getD_eq_getElem?_getD->qu,length_drop->qw,take_of_length_le->qx,getElem?_set_ne->qy,replicate_succ->qz,range->qG,mem_of_getElem?->qK,map_map->qM,getElem?_set_self->qN,mem_of_mem_take->qQ,flatten_cons->qW,append_assoc->qX,mem_append->qY,map_append->qZ,cons_append->q5,getElem?_of_mem->yb,getElem?_replicate->yg,nodup_cons->yh,length_nil->yi,drop_eq_getElem_cons->yt,all_cons->yw,filterMap_cons->yy,mem_range->yz,length->yE,zip_cons_cons->yF,map_take->yK,Nodup->yR,not_mem_nil->yU,all_map->yV,nil_append->ub,length_range->uh,mem_append_left->uD,eq_nil_of_length_eq_zero->uE,of_mem_zip->uF,take_succ_cons->uH,map_congr_left->uI,mem_filterMap->uQ,map_drop->uW,getElem?_take_of_lt->uX,getElem?_cons_succ->u2,drop_length->u3,map_nil->Oi,getElem?_eq_none->On,mem_of_mem_drop->Ou,drop_zero->Ov,getElem?_range->Oz,mem_singleton->OE,mem_replicate->OF,getElem?_drop->OG,contains_cons->OH,take_append->OX,mem_filter->O3,length_set->O4,mem_of_find?_eq_some->oy,getElem?_zip_eq_some->oz,any_cons->oJ,find?_cons_of_pos->o4,find?_cons_of_neg->o5,drop_of_length_le->o6,drop_eq_nil_of_le->o7,length_filter_le->vn,map_id->vA,map_replicate->vM,foldl->vN,take_sublist->vW,any_eq_false->vX,getElem_mem->Wb,cons_ne_nil->Wc,any_eq_true->We,foldl_cons->Wk,find?_some->Wl,filter_map->Wm,sum_cons->WE,find?->W6
open Bool renaming true->je,false->jj,and_eq_true->jF,false_ne_true->jI,eq_iff_iff->yu,true_and->yZ,not_eq_true'->ul,or_eq_true->uG,and_false->uR,false_and->om,and_true->oK,eq_false_iff->vY,or_false->WF,or_true->WR
open PySem.Heap renaming get?_push_of_some->ji,lt_size->jw,get?_push_size->jD,size_push->qU,FlyingW->yo,get?_update_other->uf,SameBut->ug,get?_update_self->ux,get?_some_iff->OD
open Option.some renaming inj->jx
open Nat renaming le_refl->jz,lt_of_lt_of_le->jA,le_trans->jK,ne_of_lt->jU,lt_irrefl->qV,not_lt->ym,zero_le->yr,ne_of_gt->yG,le_of_succ_le->yP,le_of_ble_eq_true->uz,le_of_lt->uM,le_of_eq->uN,le_succ->uV,lt_succ_self->Ob,add_comm->Om,lt_succ_of_lt->OV,min_eq_right->O1,min_eq_left->oh,add_assoc->oU,lt_trans->vm,log2_lt->vG,succ_ne_self->Wi,min_le_right->Wj,sub_zero->WW,mul_comm->WX,lt_or_ge->WY
open PySem.Str renaming ofString->jE,empty->uO,length->uU,ofString_eq_toList->vg,mk->WA
open PySem.Value renaming ref->jY,builtin->yI,none->ua,type->uv,bool->uw,str->uK,int->oE,float->vf,isStrOf->Wp,bytes->WM
open PySem.Builtin.Range renaming rangeSize->jZ,small->yv
open PySem.NameKind renaming cell->j6,free->qd
open Or renaming inl->j8,inr->qg
open False renaming elim->qi
open PyProof.Rows renaming envOfC->qm,boot_isinstance->qR,callWith_type1->ut,slot_tuple_getitem->Op,callWith_builtin1->Ot,cnt->oI,subscriptTail_builtinR->vV,boot_all->Wh,boot_tuple->WC,Subscript_->WD
open Ne renaming symm->qF
open True renaming intro->qJ
open ForInStep renaming yield->qT
open PySem.PyData renaming keyHash->q9,canLay0->yx,eqv->vz,canLayAll0->vF
open PySem.Obj renaming mapFields->ya
open Int renaming toNat_natCast->yj,toNat_of_nonneg->yX,emod_lt_of_pos->OL,emod_nonneg->oi,ediv_nonneg->Wr,mul_comm->WZ,ediv_one->W0,mul_one->W7
open PySem.F renaming excBase_ValueError->yp,plainAttrs_str->yC,plainAttrs_list->yY,args_str_split_2->OT,entry_str_split->OZ,type_list_append->O6,slot_str_split->O7,slot_list_append->O8,slot_int_rmul->WN
open PySem.SeqAt renaming canLay_of_shaped->yD,shaped->yS,EqAt->WU
open PySem.Builtin.Slice renaming slicePlaces->yJ,sliceAdjust->uC,sliceApplied->OC
open PySem.Builtin.Tuple renaming tupleExact->yN
open PySem.Builtin.List renaming listTooLong->yO,listFitsIndex->uy
open Sum renaming inr->uc,inl->ON
open PySem.Code renaming quiet_builtin->uP,isFrame->oZ,frames->WV
open PySem.W.Fast renaming te14364793385576792824->u8,te11892475500146522536->u9,te10156331382660048174->Oa,te6613529449190102663->Of,te5923862056798008813->Og,te4187177175401517315->Oh
open Char renaming toNat->Oj
open Array renaming length_toList->Ow,mk->OM,getElem?_eq_none->oV,append_assoc->vH,toList->WG
open PySem.Builtin.Str renaming occurrences->OW
open PySem.Data renaming fields->O0,cell->oS
open PySem.W.KIN renaming signs_num->O2
open PySem.W.Looks renaming here->O5
open PySem.Calls renaming Name_function_global->O9,evalArgs_plain->vi
open Prod.mk renaming injEq->oa
open PySem.Builtin.Int renaming intBits->ol
open PySem.Within renaming cons->oq
open PySem.EntryCells renaming newEntry->ot
open PyProof renaming noPylong_small->ou
open PySem.SeqAt.EqAt renaming str_int->oF,int_str->oG
open PySem.Around renaming under->oH,frames_deeper->o0
open PySem.W.Frag renaming In->oQ
open PySem.Txt renaming partition->oR,slice->oY,split->Wg,startswith->Wy
open PySem.Heap.Ns1 renaming of_empty->vh
open PySem.StrLaws renaming partsFrom->vq,occ_tight->vt,found_one->vv,At->Wz
open List.cons renaming injEq->vB
open PySem.Env renaming kindOf->vU
open Sum.inr renaming inj->Wn
open PySem.IsRange renaming new->Wq
open PySem.Walks renaming range->WK
open PySem.W.WShape renaming has->WL
open PySem.CmpOp renaming NotIn->WO
open Eq renaming trans->WQ
open PySem.W.WData renaming int->W5
open PySem.W (nsIn mg_of fnOf codeIn mg_none_of instObj emptyDict)
theorem ac(h:0=0\/0=0:=by first|exact .inl rfl|exact .inr rfl|assumption):True:=⟨⟩
def aa:=ac._auto_1
theorem ae(h:0=0:=by decide):True:=⟨⟩
def ad:=ae._auto_1
theorem ag(h:Nat->0=0:=by intro _;rfl):True:=⟨⟩
def af:=ag._auto_1
theorem ai(h:0=0:=by rfl):True:=⟨⟩
def ah:=ai._auto_1
theorem ak(h:0=0:=by decide +kernel):True:=⟨⟩
def aj:=ak._auto_1
abbrev al:=@List
abbrev am:=@Option
namespace L2
open PySem PySem.Spec PyProof.Rows
abbrev cQ:=Sum Int Str
noncomputable def J4:cQ->jc->Bool
 | .inl k,v=>Value.isInt k v
 | .inr x,v=>Wp x v
def Ar(w:jV):cQ->Int
 | .inl k=>hashInt k
 | .inr x=>hashStr w x
theorem VN:∀{k:cQ}{v:jc},J4 k v=je->(∃i t,k=ON i/\v=oE i t)\/(∃x t,k=uc x/\v=uK x t)
 | .inl i,v,h=>by
  obtain⟨t,e⟩:=Value.isInt_shape (k:=i) (v:=v) h;exact .inl ⟨i,t,rfl,e⟩
 | .inr x,v,h=>by
  obtain⟨t,e⟩:=Value.isStrOf_shape (x:=x) (v:=v) h;exact .inr ⟨x,t,rfl,e⟩
theorem As(x:Str)(t:Tok):J4 (.inr x) (.str x t)=true:=by simp [J4,Wp]
theorem Au(a b:Int):decide ((ON a:cQ)=ON b)=(a == b):=by
 by_cases e:a=b
 . subst e;simp
 . have h:¬(ON a:cQ)=ON b:=λq=>e (Sum.inl.inj q)
   rw [decide_eq_false h];exact(beq_eq_false_iff_ne.mpr e).symm
theorem Av(a b:Str):decide ((uc a:cQ)=uc b)=decide (a=b):=by
 by_cases e:a=b
 . subst e;simp
 . have h:¬(uc a:cQ)=uc b:=λq=>e (Wn q)
   rw [decide_eq_false h,decide_eq_false e]
theorem Aw(a:Int)(b:Str):decide ((ON a:cQ)=uc b)=false:=decide_eq_false (λq=>nomatch q)
theorem Ax(a:Str)(b:Int):decide ((uc a:cQ)=ON b)=false:=decide_eq_false (λq=>nomatch q)
def Qc(prog:jS)(w:jV):PySem.KeyKind prog w cQ where
 is:=J4
 hash:=Ar w
 inj:=λv a b ha hb=>by
  rcases VN ha with⟨i,t,rfl,rfl⟩|⟨x,t,rfl,rfl⟩
  . rcases VN hb with⟨j,u,rfl,e⟩|⟨y,u,rfl,e⟩
    . injection e with e1 _;rw [e1]
    . exact nomatch e
  . rcases VN hb with⟨j,u,rfl,e⟩|⟨y,u,rfl,e⟩
    . exact nomatch e
    . injection e with e1 _;rw [e1]
 byValue:=λk v h=>by
  rcases VN h with⟨i,t,rfl,rfl⟩|⟨x,t,rfl,rfl⟩<;>rfl
 pyHash:=λhv h=>by
  rcases VN hv with⟨i,t,rfl,rfl⟩|⟨x,t,rfl,rfl⟩
  . exact wpAny_pyHash_int h
  . exact wpAny_pyHash_str h
 eqBool:=λhu hv h=>by
  rcases VN hu with⟨i,t,rfl,rfl⟩|⟨x,t,rfl,rfl⟩
  . rcases VN hv with⟨j,u,rfl,rfl⟩|⟨y,u,rfl,rfl⟩
    . rw [Au]at h;exact wpAny_eqBool_int h
    . rw [Aw]at h;exact oG i t y u _ _ _ _ h
  . rcases VN hv with⟨j,u,rfl,rfl⟩|⟨y,u,rfl,rfl⟩
    . rw [Ax]at h;exact oF x t j u _ _ _ _ h
    . rw [Av]at h;exact wpAny_eqBool_str h
 «strs» := λk x t v h=>by
  rcases VN h with⟨i,u,rfl,e⟩|⟨y,u,rfl,e⟩
  . exact nomatch e
  . injection e with e1 _
    subst e1;cases v<;>rfl
theorem lf(prog:jS)(w:jV)(x:Str)(t:Tok):(Qc prog w).is (.inr x) (.str x t)=true:=As x t
inductive V where
 |non|bl (b:Bool)|int (i:Int)|str (x:Str)|byt (b:Array UInt8)|flt (b:UInt64)|ref (a:jf)|ty (n:String)
 deriving DecidableEq
def RelV:V->jc->Prop
 | .non,u=>u=ua
 | .bl b,u=>u=uw b
 | .int i,u=>∃t,u=oE i t
 | .str x,u=>∃t,u=uK x t
 | .byt b,u=>∃t,u=WM b t
 | .flt b,u=>∃t,u=vf b t
 | .ref a,u=>u=jY a
 | .ty n,u=>u=uv n
abbrev aR:al V->al jc->Prop:=Paired RelV
theorem aR.length{xs:al V}{us:al jc}(r:aR xs us):xs.length=us.length:=Paired.length r
theorem aR.get:∀{xs:al V}{us:al jc}{i:Nat}{x:V},aR xs us->xs[i]? = ja x->∃u,us[i]? = ja u/\RelV x u
 |_,_,_,_,.nil,e=>by simp at e
 |_,_,0,_,.cons r _,e=>by simp at e;subst e;exact⟨_,rfl,r⟩
 |_,_,i+1,x,.cons _ t,e=>by
  obtain⟨u,h1,h2⟩:=aR.get (i:=i) (x:=x) t (by simpa using e);exact⟨u,by simpa using h1,h2⟩
theorem aR.append:∀{xs ys:al V}{us ws:al jc},aR xs us->aR ys ws->aR (xs++ys) (us++ws):=by
 intro a b c d p s;induction p with
 |nil=>exact s
 |cons r t ih=>exact .cons r ih
theorem aR.take:∀{xs:al V}{us:al jc}(n:Nat),aR xs us->aR (xs.take n) (us.take n)
 |_,_,0,_ => .nil
 |_,_,_+1,.nil => .nil
 |_,_,n+1,.cons r t => .cons r (aR.take n t)
theorem aR.drop:∀{xs:al V}{us:al jc}(n:Nat),aR xs us->aR (xs.drop n) (us.drop n)
 |_,_,0,r=>r
 |_,_,_+1,.nil => .nil
 |_,_,n+1,.cons _ t=>aR.drop n t
def c9:am V->am jc->Prop
 |some v,ja u=>RelV v u
 |none,none=>True
 |_,_=>False
def KV{κ:Type}:al (κ×V)->al (κ×jc)->Prop:=Paired λ(p:κ×V) (q:κ×jc)=>p.1=q.1/\RelV p.2 q.2
def kV:cQ->V
 | .inl i => .int i
 | .inr x => .str x
inductive HO where
 |lst (xs:List V)
 |tup (xs:List V)
 |dK (kvs:List (cQ×V))|dT (kvs:List (List cQ×V))
 |set (S:Int->Bool) (n:Nat)
 |ins (C dx:jf) (fs:List (Str×V))
 |own (x:jf)
 |xd (fs:List (Str×V))
 |met (f x:jf)
 |rng (lo hi:Int)
 |frz (o:Obj) (u:HO)
 |tbl (ps:Array jc)
 |cod (q:Str)
 |fnc (c:jf) (q:Str)
 |ext (φ:jX->Prop)
abbrev Hp:=jf->am HO
def aV(H:Hp)(a:jf)(o:HO):Hp:=λb=>if b=a then ja o else H b
theorem ZF{o:HO}:aV H a o a=ja o:=by unfold aV;rw [if_pos rfl]
theorem Zn{H:Hp}{a b:jf}(h:b≠a):aV H a o b=H b:=by unfold aV;rw [if_neg h]
theorem Yq{H:Hp}{a b:jf}{o:HO}(h:H a=ja o)(h':H b=none):a≠b:=by
 intro e;subst e;rw [h]at h';cases h'
def dG(h:jX)(a:jf)(its:Array jc):Prop:=∃o,h.get? a=ja o/\o.cls = .type "tuple" /\ (∃n,o.data = .seq its n)/\o.dict=none
theorem dG.tup{h:jX}{a:jf}{its:Array jc}(x:dG h a its):IsTup h a its:=let⟨o,e,c,d,_⟩:=x;⟨o,e,c,d⟩
theorem dG.new(h:jX)(its:Array jc):dG (h.push { cls := .type "tuple",data := .seq its }) h.objs.size its:=⟨_,jD _ rfl,rfl,⟨_,rfl⟩,rfl⟩
section
variable(P:jS)(w:jV)
def aZ(H:Hp)(h:jX)(a:jf):HO->Prop
 | .lst xs=>xs.length<=jv/\∃(its:al jc) (n:Nat),aR xs its/\h.get? a=ja { cls := .type "list",data := .seq its.toArray n }
 | .tup xs=>xs.length<=jv/\∃its:al jc,aR xs its/\dG h a its.toArray
 | .dK kvs=>kvs.length<=jv/\(a == sysModules)=jj/\∃vs,KV kvs vs/\h.DictOf (Qc P w) a vs
 | .dT kvs=>kvs.length<=jv/\(a == sysModules)=jj/\∃xs:al (al cQ×jf×jc),
  Paired (λ(p:al cQ×V) (q:al cQ×jf×jc)=>p.1=q.1/\H q.2.1=ja (.tup (p.1.map kV))/\RelV p.2 q.2.2) kvs xs /\
  ∃o es ep,h.get? a=ja o/\o.ExactDict/\o.data = .dict es ep/\es.toList=xs.map (entryOfKey (tupleKind (Qc P w)))/\(xs.map (·.1)).Nodup
 | .set S n=>h.SetOf (intKind P w) a S n
 | .ins C dx fs=>H dx=ja (.own a)/\fs.length<=1000/\dx≠a/\h.get? a=ja (instObj C dx) /\
  ∃mA,h.Ns1 dx mA/\(∀f,c9 (fs.lookup f) (mA f))/\OJ mA (fs.map (·.1))
 | .own _=>∃o,h.get? a=ja o
 | .xd fs=>∃mA,h.Ns1 a mA/\∀f,c9 (fs.lookup f) (mA f)
 | .rng lo hi=>∃t u v,h.get? a=ja { cls := .type "range",data := .fields #[.int lo t,.int hi u,.int 1 v] }
 | .frz o u=>h.get? a=ja o/\aZ H h a u
 | .tbl ps=>∃qs:Array jc,h.get? a=ja (jW qs)/\TriplesOk qs.toList/\∀pos cv,codeAmong pos qs.toList=ja cv->∃c oc q u,cv = .ref c/\H c=ja (.frz oc (.cod q))/\ps[0]? = ja (.str q u)
 | .cod q=>h.CodeRec (.ref a) q
 | .fnc c q=>(∃o,h.get? a=ja o)/\∃oc,H c=ja (.frz oc (.cod q))
 | .met f x=>h.get? a=ja (OA (.ref f) (.ref x))
 | .ext φ=>φ h/\(∃o,h.get? a=ja o)/\∀h1 h2:jX,φ h1->(∀o,h1.get? a=ja o->h2.get? a=ja o)->φ h2
def bS(H:Hp)(h:jX):Prop:=∀a o,H a=ja o->aZ P w H h a o
end
section
variable{P:jS}{w:jV}{H H':Hp}{h h':jX}{a:jf}{o:HO}
theorem aZ.lt(x:aZ P w H h a o):a<h.objs.size:=by
 cases o with
 |lst xs=>obtain⟨_,_,_,_,e⟩:=x;exact jw e
 |tup xs=>obtain⟨_,_,_,p⟩:=x;exact p.tup.lt
 |dK kvs=>obtain⟨_,_,_,_,o,_,_,e,_⟩:=x;exact jw e
 |dT kvs=>obtain⟨_,_,_,_,o,_,_,e,_⟩:=x;exact jw e
 |set S n=>obtain⟨o,_,_,_,e,_⟩:=x;exact jw e
 |ins C dx fs=>obtain⟨_,_,_,e,_⟩:=x;exact jw e
 |own y=>obtain⟨_,e⟩:=x;exact jw e
 |xd fs=>obtain⟨_,⟨_,_,_,e,_⟩,_⟩:=x;exact jw e
 |rng lo hi=>obtain⟨_,_,_,e⟩:=x;exact jw e
 |frz ob u=>obtain⟨e,_⟩:=x;exact jw e
 |tbl ps=>obtain⟨_,e,_⟩:=x;exact jw e
 |cod q=>obtain⟨_,_,_,_,e,g,_⟩:=x;cases e;exact jw g
 |fnc c q=>obtain⟨⟨o,e⟩,_⟩:=x;exact jw e
 |met f y=>exact jw (show h.get? a=ja _ from x)
 |ext φ=>obtain⟨_,⟨_,e⟩,_⟩:=x;exact jw e
theorem Paired.mapP{α β:Type}{F G:α->β->Prop}:∀{l₁:al α}{l₂:al β},Paired F l₁ l₂->(∀a b,F a b->G a b)->Paired G l₁ l₂
 |_,_,.nil,_ => .nil
 |_,_,.cons r t,f => .cons (f _ _ r) (Paired.mapP t f)
theorem aZ.stay (x:aZ P w H h a o) (k:∀b u,(b=a\/H b=ja (.own a))->h.get? b=ja u->h'.get? b=ja u)
 (ho:∀b,H b=ja (.own a)->H' b=ja (.own a)) (ht:∀b xs,H b=ja (.tup xs)->H' b=ja (.tup xs))
 (hc:∀b ob q,H b=ja (.frz ob (.cod q))->H' b=ja (.frz ob (.cod q)):=by intro b' ob' q' e';first|exact e'|(rw [Zn (Yq e' (by assumption))];exact e')):aZ P w H' h' a o:=by
 induction o with
 |lst xs=>obtain⟨z,its,n,r,e⟩:=x;exact⟨z,its,n,r,k _ _ (.inl rfl) e⟩
 |tup xs=>obtain⟨z,its,r,ob,e,c⟩:=x;exact⟨z,its,r,ob,k _ _ (.inl rfl) e,c⟩
 |dK kvs=>obtain⟨z,y,vs,r,ob,es,ep,e,c⟩:=x;exact⟨z,y,vs,r,ob,es,ep,k _ _ (.inl rfl) e,c⟩
 |dT kvs=>
  obtain⟨z,y,xs,r,ob,es,ep,e,c⟩:=x;exact⟨z,y,xs,Paired.mapP r λp q z=>⟨z.1,ht _ _ z.2.1,z.2.2⟩,ob,es,ep,k _ _ (.inl rfl) e,c⟩
 |set S n=>obtain⟨ob,es,ep,t,e,c⟩:=x;exact⟨ob,es,ep,t,k _ _ (.inl rfl) e,c⟩
 |ins C dx fs=>
  obtain⟨d,z,ne,e,mA,⟨od,es,ep,e2,c⟩,r⟩:=x;exact⟨ho _ d,z,ne,k _ _ (.inl rfl) e,mA,⟨od,es,ep,k _ _ (.inr d) e2,c⟩,r⟩
 |own y=>obtain⟨ob,e⟩:=x;exact⟨ob,k _ _ (.inl rfl) e⟩
 |xd fs=>obtain⟨mA,⟨od,es,ep,e,c⟩,r⟩:=x;exact⟨mA,⟨od,es,ep,k _ _ (.inl rfl) e,c⟩,r⟩
 |rng lo hi=>obtain⟨t,u,v,e⟩:=x;exact⟨t,u,v,k _ _ (.inl rfl) e⟩
 |frz ob u ih=>obtain⟨e,q⟩:=x;exact⟨k _ _ (.inl rfl) e,ih q⟩
 |tbl ps=>
  obtain⟨qs,e,t,c⟩:=x;refine⟨qs,k _ _ (.inl rfl) e,t,λpos cv z => ?_⟩;obtain⟨c',oc,q,u,z1,z2,z3⟩:=c pos cv z;exact⟨c',oc,q,u,z1,hc _ _ _ z2,z3⟩
 |cod q=>
  obtain⟨c,o,vs,t,e,g,r⟩:=x;cases e;exact⟨_,o,vs,t,rfl,k _ _ (.inl rfl) g,r⟩
 |fnc c q=>obtain⟨⟨o,e⟩,oc,r⟩:=x;exact⟨⟨o,k _ _ (.inl rfl) e⟩,oc,hc _ _ _ r⟩
 |met f y=>
  have e:h.get? a=ja (OA (.ref f) (.ref y)):=x;show h'.get? a=ja (OA (.ref f) (.ref y));exact k a _ (.inl rfl) e
 |ext φ=>obtain⟨p,⟨o,e⟩,st⟩:=x;exact⟨st _ _ p λo q=>k _ _ (.inl rfl) q,⟨o,k _ _ (.inl rfl) e⟩,st⟩
theorem bS.lt(x:bS P w H h)(e:H a=ja o):a<h.objs.size:=(x a o e).lt
theorem bS.fresh(x:bS P w H h)(e:h.objs.size<=a):H a=none:=by
 cases q:H a with
 |none=>rfl
 |some u=>exact absurd (jA (x.lt q) e) (qV _)
theorem bS.kept(x:bS P w H h)(k:∀b u,h.get? b=ja u->h'.get? b=ja u):bS P w H h':=λa o e=>
 (x a o e).stay (λb u _ q=>k b u q) (λ_ q=>q) λ_ _ q=>q
theorem bS.laid(x:bS P w H h)(k:∀b u,h.get? b=ja u->h'.get? b=ja u)(hp:h.objs.size<=a)(new:aZ P w (aV H a o) h' a o):bS P w (aV H a o) h':=λb u e=>by
 have hn:=x.fresh hp
 by_cases hb:b=a
 . subst hb;rw [ZF]at e;cases e;exact new
 . rw [Zn hb]at e
   exact(x b u e).stay (λc v _ q=>k c v q) (λc q=>by rw [Zn (Yq q hn)];exact q) λc xs q=>by rw [Zn (Yq q hn)];exact q
end
def Rd(H:Hp)(a:jf)(u:HO):Prop:=H a=ja u\/∃o,H a=ja (.frz o u)
theorem Rd.ok{P:jS}{w:jV}{H:Hp}{h:jX}{a:jf}{u:HO}(r:Rd H a u)(x:bS P w H h):aZ P w H h a u:=by
 rcases r with r|⟨o,r⟩
 . exact x a u r
 . obtain⟨_,q⟩:=x a _ r
   exact q
def gT:am HO->Prop
 |some (.lst _)=>True
 |some (.dK _)=>True
 |some (.dT _)=>True
 |some (.set _ _)=>True
 |some (.ins _ _ _)=>True
 |some (.ext _)=>True
 |_=>False
section
variable{P:jS}{w:jV}{H:Hp}{h h':jX}{x e:jf}{o':HO}
theorem bS.write (ok:bS P w H h) (mu:gT (H x)) (he:e=x\/H e=ja (.own x)) (k:∀b u,b≠e->h.get? b=ja u->h'.get? b=ja u) (heo:∃u,h'.get? e=ja u)
 (new:aZ P w (aV H x o') h' x o'):bS P w (aV H x o') h':=λb u q=>by
 have nown:∀c y,H c=ja (.own y)->c≠x:=λc y r z=>by subst z;rw [r]at mu;exact mu
 have ntup:∀c xs,H c=ja (.tup xs)->c≠x:=λc xs r z=>by subst z;rw [r]at mu;exact mu
 by_cases hb:b=x
 . subst hb;rw [ZF]at q;cases q;exact new
 . rw [Zn hb]at q
   by_cases hbe:b=e
   . have q' : H b = ja (.own x) := by
      rcases he with z|z
      . exact absurd (hbe.trans z) hb
      . rw [hbe];exact z
     rw [q]at q';cases q';obtain⟨v,hv⟩:=heo;exact⟨v,by rw [hbe];exact hv⟩
   . refine(ok b u q).stay (λc v hc r=>k c v ?_ r) (λc r=>by rw [Zn (nown c b r)];exact r) (λc xs r=>by rw [Zn (ntup c xs r)];exact r) (λc ob y r=>by rw [Zn (λz=>by subst z;rw [r]at mu;exact mu)];exact r)
     rcases hc with rfl|hc
     . exact hbe
     . rintro rfl
       rcases he with z|z
       . exact nown c b hc z
       . rw [hc]at z;cases z;exact hb rfl
end
structure Un(fs ex:List jf)(H H':Hp)(h h':jX):Prop where
 keep:∀b o,h.get? b=ja o->H b=none->b∉fs->b∉ex->h'.get? b=ja o
 slot:∀b o,h.get? b=ja o->H b=none->b∈fs->b∉ex->∃sl,h'.get? b=ja { o with slots:=sl }
 free:∀b o,h.get? b=ja o->H b=none->b∉ex->H' b=none
 there:∀b o,h.get? b=ja o->b∉ex->∃o',h'.get? b=ja o'
 tups:∀b xs,H b=ja (.tup xs)->H' b=ja (.tup xs)
 frzs:∀b o u,H b=ja (.frz o u)->H' b=ja (.frz o u)
 tbls:∀b ps,H b=ja (.tbl ps)->∃more,H' b=ja (.tbl (ps++more))
section
variable{fs fs' ex ex':al jf}{H H1 H2:Hp}{h h1 h2 h':jX}{a x e:jf}{o:HO}
theorem Un.any(u:Un fs ex H H1 h h1){b:jf}{ob:Obj}(q:h.get? b=ja ob)(n:H b=none)(hx:b∉ex):∃sl,h1.get? b=ja { ob with slots:=sl }:=by
 by_cases hb:b∈fs
 . exact u.slot b ob q n hb hx
 . exact⟨ob.slots,u.keep b ob q n hb hx⟩
theorem Un.kept(k:∀b u,h.get? b=ja u->h'.get? b=ja u):Un fs ex H H h h':=
 ⟨λb ob q _ _ _=>k b ob q,λb ob q _ _ _=>⟨ob.slots,k b ob q⟩,λ_ _ _ n _=>n,λb ob q _=>⟨ob,k b ob q⟩,λ_ _ q=>q,λ_ _ _ q=>q,λ_ ps q=>⟨#[],by rw [q];simp⟩⟩
theorem Un.refl:Un fs ex H H h h:=Un.kept λ_ _ q=>q
theorem Un.laid(k:∀b u,h.get? b=ja u->h'.get? b=ja u)(hp:h.objs.size<=a)(hn:H a=none):Un fs ex H (aV H a o) h h' where
 keep:=λb u q _ _ _=>k b u q
 slot:=λb u q _ _ _=>⟨u.slots,k b u q⟩
 free:=λb u q n _=>by rw [Zn (jU (jA (jw q) hp))];exact n
 there:=λb u q _=>⟨u,k b u q⟩
 tups:=λb xs q=>by rw [Zn (Yq q hn)];exact q
 frzs:=λb u xs q=>by rw [Zn (Yq q hn)];exact q
 tbls:=λb ps q=>⟨#[],by rw [Zn (Yq q hn),q];simp⟩
theorem Un.write(mu:gT (H x))(he:e=x\/H e=ja (.own x))(k:∀b u,b≠e->h.get? b=ja u->h'.get? b=ja u)(heo:∃u,h'.get? e=ja u):Un fs ex H (aV H x o) h h':=by
 have hx:∀b,H b=none->b≠x:=λb n z=>by subst z;rw [n]at mu;exact mu
 have hb:∀b,H b=none->b≠e:=λb n z=>by
  subst z;rcases he with r|r
  . exact hx b n r
  . rw [n]at r;cases r
 have hm:∀b u,H b=ja u->¬gT (ja u)->b≠x:=λb u q nm z=>by subst z;rw [q]at mu;exact nm mu
 refine⟨λb u q n _ _=>k b u (hb b n) q,λb u q n _ _=>⟨u.slots,k b u (hb b n) q⟩,λb u q n _=>by rw [Zn (hx b n)];exact n,λb u q _ => ?_,
  λb xs q=>by rw [Zn (hm b _ q λz=>z)];exact q,λb u xs q=>by rw [Zn (hm b _ q λz=>z)];exact q,λb ps q=>⟨#[],by rw [Zn (hm b _ q λz=>z),q];simp⟩⟩
 by_cases hbe:b=e
 . subst hbe;exact heo
 . exact⟨u,k b u hbe q⟩
end
noncomputable def fL(h:jX)(H:Hp):al jf:=(qG h.objs.size).filter λa=>(H a).isSome
def VP(h:jX)(H:Hp):jX:=vJ h (fL h H)
theorem Ay(h:jX)(H:Hp):(VP h H).objs.size=h.objs.size:=oP _ _
theorem Az{h:jX}{H:Hp}{o:Obj}(e:h.get? b=ja o)(n:H b=none):(VP h H).get? b=ja o:=
 y0 _ e λhm=>by
  have q:(H b).isSome=true:=(O3.mp hm).2;rw [n]at q;simp at q
theorem AA{h:jX}{H:Hp}{o:Obj}(e:(VP h H).get? b=ja o):h.get? b=ja o/\H b=none:=by
 have e':h.get? b=ja o:=uo (fL h H) e;refine⟨e',?_⟩;cases q:H b with
 |none=>rfl
 |some x=>
  have hm:b∈fL h H:=List.mem_filter.mpr ⟨yz.mpr (jw e'),by simp [q]⟩;have z:(VP h H).get? b=none:=u7 (fL h H) hm;rw [z]at e;cases e
structure Mod(K:jb)(mg:Str->Option jc)(base:jX):Prop where
 kin:K.In base
 glob:base.Ns mainGlobals mg
 blt:∃mb,base.Ns builtinsNs mb/\∀x:Str,x ≠ "__name__" -> mb x=bootBuiltins x
 nolimit:base.NoLimit
structure Cx where
 prog:jS
 w:jV
 K:jb
 mg:Str->Option jc
 base:jX
 A:qe
 N:List Str
 s₀:jg
 H₀:Hp
 env:Env
 outer:List Env
 stack:List Env
 ex:List jf
 fn:Str->Bool
 calm:Bool
 pn:List (jf×Obj)
 xe:jc->jg->Prop
 fz:List (jf×Obj×Str):=[]
def bI(l:al Env):al jf:=l.filterMap (·.frame)
abbrev Cx.fs(X:Cx):al jf:=bI X.outer
def fZ(sc:qH)(x:Str):Prop:=sc.names.lookup x=ja .local\/sc.names.lookup x=ja .cell\/sc.names.lookup x=ja .free
def Loc(sc:qH)(x:Str):Prop:=sc.names.lookup x=ja .local\/sc.names.lookup x=ja .cell
def ro(env:Env)(h:jX)(m:Str->am jc)(x:Str)(u:jc):Prop:=
 (env.kindOf x=ja .local/\m x=ja u)\/((env.kindOf x=ja .cell\/env.kindOf x=ja .free)/\∃c,env.cells.lookup x=ja c/\h.IsCell c (ja u))
def YV(K:jb):al (jf×Str):=K.filterMap λp=>match p.2.cls,p.2.dict with
 | .str q _,ja P=>ja (P,q)
 |_,_=>none
def lg(K:jb)(H:Hp):Prop:=∀q∈YV K,∃more,H q.1=ja (.tbl (#[.str q.2 0]++more))
structure Cx.Ok(X:Cx):Prop where
 mod:Mod X.K X.mg X.base
 kind:X.env.scope.kind = .function
 glob:X.env.globals=mainGlobals
 blt:X.env.builtins=builtinsNs
 above:X.s₀.heap.objs.size<=X.env.locals
 inj:∀x y c,X.env.cells.lookup x=ja c->X.env.cells.lookup y=ja c->x=y
 has:∀x,(X.env.kindOf x=ja .cell\/X.env.kindOf x=ja .free)->∃c,X.env.cells.lookup x=ja c
 cab:∀x c,X.fn x=je->X.env.cells.lookup x=ja c->X.s₀.heap.objs.size<=c
 hd:X.calm=je->X.A.handled=none
 frames:X.A.frames=ja X.stack
 stk:X.stack=X.outer\/(X.stack=X.env::X.outer/\X.env.frame=ja X.env.locals)
 exf:∀b∈X.ex,b≠X.env.locals/\∀x c,X.env.cells.lookup x=ja c->c≠b
 bs:∀b o,X.base.get? b=ja o->X.s₀.heap.get? b=ja o/\X.H₀ b=none
 bsz:X.base.objs.size<=X.s₀.heap.objs.size
 noex:∀b o,X.base.get? b=ja o->b∉X.ex
 exfs:∀b∈X.ex,b∉X.fs
 funs:X.s₀.heap.FunFrames X.base X.outer
 frf:∀b∈X.fs,X.H₀ b=none
 tb:lg X.K X.H₀
structure Inv(X:Cx)(pins:List (jf×Obj))(σ:List (Option V))(H:Hp)(s:jg):Prop where
 ok:X.Ok
 os:s.os=X.s₀.os
 bare:AllBare s.gens
 base:Un X.fs X.ex X.H₀ H X.s₀.heap s.heap
 loc:∃m,s.heap.Ns X.env.locals m/\∀(i:Nat)(x:Str)(v:V),X.N[i]? = ja x->σ[i]? = ja (ja v)->fZ X.env.scope x->∃u,RelV v u/\ro X.env s.heap m x u
 cell:∀x c,X.env.cells.lookup x=ja c->∃v,s.heap.IsCell c v
 free:H X.env.locals=none
 freeC:∀x c,X.env.cells.lookup x=ja c->H c=none
 pin:∀p∈X.pn++pins,s.heap.get? p.1=ja p.2/\H p.1=none/\p.1≠X.env.locals/\p.1∉X.fs/\∀v,p.2.data ≠ .cell v
 hok:bS X.prog X.w H s.heap
 len:σ.length=X.N.length
 fzs:∀q∈X.fz,H q.1=ja (.frz q.2.1 (.cod q.2.2))
section
variable{X:Cx}{pins:al (jf×Obj)}{σ:al (am V)}{H H':Hp}{s:jg}{h':jX}
theorem Cx.Ok.nofr(ok:X.Ok){b:jf}{o:Obj}(e:X.base.get? b=ja o):b∉X.fs:=λhb=>by
 have:=(ok.funs.mem hb).1;rw [e]at this;cases this
theorem Inv.bs(I:Inv X pins σ H s):∀b o,X.base.get? b=ja o->s.heap.get? b=ja o/\H b=none:=λb o e=>
 ⟨I.base.keep b o (I.ok.bs b o e).1 (I.ok.bs b o e).2 (I.ok.nofr e) (I.ok.noex b o e),I.base.free b o (I.ok.bs b o e).1 (I.ok.bs b o e).2 (I.ok.noex b o e)⟩
theorem Inv.bk(I:Inv X pins σ H s):∀b o,X.base.get? b=ja o->s.heap.get? b=ja o:=λb o e=>(I.bs b o e).1
theorem Inv.mod(I:Inv X pins σ H s):Mod X.K X.mg X.base:=I.ok.mod
theorem Inv.kIn(I:Inv X pins σ H s):X.K.In s.heap:=I.ok.mod.kin.keeps I.bk
theorem Inv.nolimit(I:Inv X pins σ H s):s.heap.NoLimit:=I.ok.mod.nolimit.keeps I.bk
theorem Inv.lt(I:Inv X pins σ H s):X.env.locals<s.heap.objs.size:=let⟨_,hn,_⟩:=I.loc;hn.lt
theorem Inv.sz(I:Inv X pins σ H s):X.s₀.heap.objs.size<=s.heap.objs.size:=jK I.ok.above (uM I.lt)
theorem Inv.nofs(I:Inv X pins σ H s){a:jf}(h:s.heap.objs.size<=a):a∉X.fs:=λhb=>by
 obtain⟨_,o,ho,_⟩:=I.ok.funs.mem hb;exact absurd (jA (jw ho) (jK I.sz h)) (qV _)
theorem Inv.cne(I:Inv X pins σ H s):∀x c,X.env.cells.lookup x=ja c->c≠X.env.locals:=λx c e z=>by
 obtain⟨v,o,ho,hd⟩:=I.cell x c e;obtain⟨m,⟨o',es,ep,ho',hd',_⟩,_⟩:=I.loc;rw [z,ho']at ho;cases ho;rw [hd']at hd;cases hd
theorem Inv.funs(I:Inv X pins σ H s):s.heap.FunFrames X.base X.outer:=by
 have all:∀(l:al Env),(∀b∈bI l,b∈X.fs)->X.s₀.heap.FunFrames X.base l->s.heap.FunFrames X.base l:=by
  intro l
  induction l with
  |nil=>intro _ _;trivial
  |cons env r ih=>
   intro hs hl;obtain⟨hk,⟨L,o,hf,hn,ho,hd⟩,hr⟩:=hl;have hL:L∈X.fs:=hs L (by unfold bI;rw [yy,hf];exact jr);obtain⟨sl,e⟩:=I.base.slot L o ho (I.ok.frf L hL) hL λz=>I.ok.exfs L z hL
   exact⟨hk,⟨L,_,hf,hn,e,hd⟩,ih (λb hb=>hs b (by unfold bI;rw [yy,hf];exact jq _ hb)) hr⟩
 exact all X.outer (λ_ hb=>hb) I.ok.funs
theorem Inv.stack(I:Inv X pins σ H s):s.heap.FunFrames X.base X.stack:=by
 rcases I.ok.stk with e|⟨e,hf⟩
 . rw [e];exact I.funs
 . rw [e]
   obtain⟨m,hn,_⟩:=I.loc;refine .cons (by rw [I.ok.kind];decide) hf hn ?_ I.funs;exact Heap.get?_none_of_le (jK I.ok.bsz I.ok.above)
theorem Inv.stkSub(I:Inv X pins σ H s):∀b∈bI X.stack,b∈X.env.locals::X.fs:=λb hb=>by
 rcases I.ok.stk with e|⟨e,hf⟩
 . rw [e]at hb;exact jq _ hb
 . rw [e]at hb
   unfold bI at hb;rw [yy,hf]at hb;exact hb
theorem Inv.stkFree(I:Inv X pins σ H s):∀b∈bI X.stack,H b=none:=λb hb=>by
 rcases jp.mp (I.stkSub b hb)with e|hb
 . rw [e];exact I.free
 . obtain⟨_,o,ho,_⟩:=I.ok.funs.mem hb
   exact I.base.free b o ho (I.ok.frf b hb) λz=>I.ok.exfs b z hb
theorem Inv.step {g':Array GenState} {t':Nat} {d':Drawn} {ch:al jf} (I:Inv X pins σ H s)
 (hch:∀b∈ch,(b∈X.ex\/X.s₀.heap.objs.size<=b)/\b≠X.env.locals/\(∀x c,X.env.cells.lookup x=ja c->c≠b)/\∀p∈X.pn++pins,p.1≠b)
 (keep:∀b o,b≠X.env.locals->b∉X.fs->b∉ch->s.heap.get? b=ja o->H b=none->h'.get? b=ja o)
 (slot:∀b o,b≠X.env.locals->b∈X.fs->b∉ch->s.heap.get? b=ja o->H b=none->∃sl,h'.get? b=ja { o with slots:=sl }) (free:∀b o,b∉ch->s.heap.get? b=ja o->H b=none->H' b=none)
 (there:∀b o,b∉ch->s.heap.get? b=ja o->∃o',h'.get? b=ja o')
 (tups:∀b xs,H b=ja (.tup xs)->H' b=ja (.tup xs)) (frzs:∀b o u,H b=ja (.frz o u)->H' b=ja (.frz o u)) (tbls:∀b ps,H b=ja (.tbl ps)->∃more,H' b=ja (.tbl (ps++more)))
 (ns:∀m,s.heap.Ns X.env.locals m->h'.Ns X.env.locals m) (hok:bS X.prog X.w H' h') (hg:AllBare g') :
 Inv X pins σ H' { s with heap:=h',gens:=g',drawn:=d',toks:=t' }:=by
 have neL:∀b o,X.s₀.heap.get? b=ja o->b≠X.env.locals:=λb o e=>jU (jA (jw e) I.ok.above)
 have neC:∀b o,X.s₀.heap.get? b=ja o->b∉X.ex->b∉ch:=λb o e hx hb=>by
  rcases(hch b hb).1 with z|z
  . exact hx z
  . exact absurd (jA (jw e) z) (qV _)
 have cellK:∀x c,X.env.cells.lookup x=ja c->∀v,s.heap.IsCell c v->h'.IsCell c v:=λx c e v ⟨o,ho,hd⟩=>by
  have nch:c∉ch:=λz=>(hch c z).2.2.1 x c e rfl
  by_cases hc:c∈X.fs
  . obtain⟨sl,q⟩:=slot c o (I.cne x c e) hc nch ho (I.freeC x c e)
    exact⟨_,q,hd⟩
  . exact⟨o,keep c o (I.cne x c e) hc nch ho (I.freeC x c e),hd⟩
 refine⟨I.ok,I.os,hg,⟨λb o e n hb hx => ?_,λb o e n hb hx => ?_,λb o e n hx => ?_,λb o e hx => ?_,λb xs e=>tups b xs (I.base.tups b xs e),λb o xs e=>frzs b o xs (I.base.frzs b o xs e),λb ps e => ?_⟩,?_,λx c e => ?_,?_,λx c e => ?_,λp hp => ?_,hok,I.len,λq hq=>frzs _ _ _ (I.fzs q hq)⟩
 . exact keep b o (neL b o e) hb (neC b o e hx) (I.base.keep b o e n hb hx) (I.base.free b o e n hx)
 . obtain⟨sl,e1⟩:=I.base.slot b o e n hb hx
   obtain⟨sl',e2⟩:=slot b _ (neL b o e) hb (neC b o e hx) e1 (I.base.free b o e n hx);exact⟨sl',e2⟩
 . obtain⟨o',e1⟩:=I.base.there b o e hx
   exact free b o' (neC b o e hx) e1 (I.base.free b o e n hx)
 . obtain⟨o',e1⟩:=I.base.there b o e hx
   exact there b o' (neC b o e hx) e1
 . obtain⟨m1,e1⟩:=I.base.tbls b ps e
   obtain⟨m2,e2⟩:=tbls b _ e1;exact⟨m1++m2,by rw [e2,vH]⟩
 . obtain⟨m,hn,hl⟩:=I.loc
   refine⟨m,ns m hn,λi x v e1 e2 e3 => ?_⟩;obtain⟨u,r,l⟩:=hl i x v e1 e2 e3;refine⟨u,r,?_⟩;rcases l with l|⟨k,c,e,z⟩
   . exact .inl l
   . exact .inr ⟨k,c,e,cellK x c e _ z⟩
 . obtain⟨v,z⟩:=I.cell x c e
   exact⟨v,cellK x c e v z⟩
 . obtain⟨m,⟨o,_,_,ho,_⟩,_⟩:=I.loc
   exact free _ o (λz=>(hch _ z).2.1 rfl) ho I.free
 . obtain⟨v,o,ho,hd⟩:=I.cell x c e
   exact free c o (λz=>(hch c z).2.2.1 x c e rfl) ho (I.freeC x c e)
 . obtain⟨e,n,ne,nf,d⟩:=I.pin p hp
   have nch:p.1∉ch:=λz=>(hch p.1 z).2.2.2 p hp rfl
   exact⟨keep p.1 p.2 ne nf nch e n,free p.1 p.2 nch e n,ne,nf,d⟩
theorem Inv.un{t':Nat}(I:Inv X pins σ H s)(u:Un X.fs [] H H' s.heap h')(hok:bS X.prog X.w H' h'):Inv X pins σ H' { s with heap:=h',toks:=t' }:=by
 obtain⟨m,⟨o,es,ep,ho,r⟩,_⟩:=id I.loc;obtain⟨sl,hL⟩:=u.any ho I.free (by simp)
 exact I.step (g':=s.gens) (d':=s.drawn) (ch:=[]) (λ_ z=>nomatch z) (λb o _ hb _ e n=>u.keep b o e n hb (by simp)) (λb o _ hb _ e n=>u.slot b o e n hb (by simp)) (λb o _ e n=>u.free b o e n (by simp)) (λb o _ e=>u.there b o e (by simp)) u.tups u.frzs u.tbls (λm' hm=>by
  obtain⟨o',es',ep',ho',r'⟩:=hm;rw [ho]at ho';cases ho';exact⟨_,es',ep',hL,r'⟩) hok I.bare
theorem Inv.call {g':Array GenState} {t':Nat} {d':Drawn} {ch:al jf} (I:Inv X pins σ H s) (u:Un (bI X.stack) ch H H' s.heap h') (hok:bS X.prog X.w H' h') (hg:AllBare g')
 (hch:∀b∈ch,(b∈X.ex\/X.s₀.heap.objs.size<=b)/\b≠X.env.locals/\(∀x c,X.env.cells.lookup x=ja c->c≠b)/\∀p∈X.pn++pins,p.1≠b) :
 Inv X pins σ H' { s with heap:=h',gens:=g',drawn:=d',toks:=t' }:=by
 obtain⟨m,⟨o,es,ep,ho,r⟩,_⟩:=id I.loc;obtain⟨sl,hL⟩:=u.any ho I.free λz=>(hch _ z).2.1 rfl
 exact I.step (ch:=ch) hch (λb o hL hb hc e n=>u.keep b o e n (λz=>(jp.mp (I.stkSub b z)).elim hL hb) hc) (λb o _ _ hc e n=>u.any e n hc) (λb o hc e n=>u.free b o e n hc) (λb o hc e=>u.there b o e hc) u.tups u.frzs u.tbls (λm' hm=>by
  obtain⟨o',es',ep',ho',r'⟩:=hm;rw [ho]at ho';cases ho';exact⟨_,es',ep',hL,r'⟩) hok hg
theorem Inv.turned {t':Nat} {it:jf} (I:Inv X pins σ H s) (k:∀b o,b≠it->s.heap.get? b=ja o->h'.get? b=ja o) (hn:H it=none) (hL:it≠X.env.locals)
 (h1:it∈X.ex\/X.s₀.heap.objs.size<=it) (h2:∀x c,X.env.cells.lookup x=ja c->c≠it) (h3:∀p∈X.pn++pins,p.1≠it):Inv X pins σ H { s with heap:=h',toks:=t' }:=by
 have nit:∀b u,H b=ja u->b≠it:=λb u e z=>by rw [z,hn]at e;cases e
 refine I.step (g':=s.gens) (d':=s.drawn) (ch:=[it]) (λb hb => ?_) (λb o _ _ hc e _=>k b o (λz=>hc (by simp [z])) e) (λb o _ _ hc e _=>⟨o.slots,k b o (λz=>hc (by simp [z])) e⟩) (λ_ _ _ _ n=>n)
  (λb o hc e=>⟨o,k b o (λz=>hc (by simp [z])) e⟩) (λ_ _ e=>e) (λ_ _ _ e=>e) (λb ps e=>⟨#[],by rw [e];simp⟩) (λm hm => ?_) (λb u e => ?_) I.bare
 . have e:b=it:=by simpa using hb
   subst e;exact⟨h1,hL,h2,h3⟩
 . obtain⟨o,es,ep,ho,r⟩:=hm
   exact⟨o,es,ep,k _ o (qF hL) ho,r⟩
 . refine(I.hok b u e).stay (λc v hc q=>k c v ?_ q) (λ_ q=>q) λ_ _ q=>q
   rcases hc with z|z
   . rw [z];exact nit b u e
   . exact nit c _ z
theorem Inv.tok(I:Inv X pins σ H s)(t:Nat):Inv X pins σ H { s with toks:=t }:=I.un (h':=s.heap) (t':=t) Un.refl I.hok
theorem Inv.kept{t':Nat}(I:Inv X pins σ H s)(k:∀b u,s.heap.get? b=ja u->h'.get? b=ja u):Inv X pins σ H { s with heap:=h',toks:=t' }:=I.un (Un.kept k) (I.hok.kept k)
theorem Inv.laid{a:jf}{o:HO}{t':Nat}(I:Inv X pins σ H s)(k:∀b u,s.heap.get? b=ja u->h'.get? b=ja u)(hp:s.heap.objs.size<=a)(new:aZ X.prog X.w (aV H a o) h' a o) :
 Inv X pins σ (aV H a o) { s with heap:=h',toks:=t' }:=I.un (Un.laid k hp (I.hok.fresh hp)) (I.hok.laid k hp new)
theorem Inv.write {x e:jf} {o:HO} {t':Nat} (I:Inv X pins σ H s) (mu:gT (H x)) (he:e=x\/H e=ja (.own x)) (k:∀b u,b≠e->s.heap.get? b=ja u->h'.get? b=ja u) (heo:∃u,h'.get? e=ja u)
 (new:aZ X.prog X.w (aV H x o) h' x o):Inv X pins σ (aV H x o) { s with heap:=h',toks:=t' }:=I.un (Un.write mu he k heo) (I.hok.write mu he k heo new)
theorem Inv.pins_of{pins':al (jf×Obj)}(I:Inv X pins σ H s)(h:∀p∈pins',s.heap.get? p.1=ja p.2/\H p.1=none/\p.1≠X.env.locals/\p.1∉X.fs/\∀v,p.2.data ≠ .cell v):Inv X pins' σ H s:=
 ⟨I.ok,I.os,I.bare,I.base,I.loc,I.cell,I.free,I.freeC,λp hp=>(qY.mp hp).elim (λz=>I.pin p (uD _ z)) (h p),I.hok,I.len,I.fzs⟩
theorem lh{N:al Str}(hN:N.Nodup){i j:Nat}{x:Str}(a:N[i]? = ja x)(b:N[j]? = ja x):i=j:=by
 obtain⟨h1,e1⟩:=jL.mp a;obtain⟨h2,e2⟩:=jL.mp b;exact(List.getElem_inj hN).mp (e1.trans e2.symm)
theorem rq {M:Model} {E:jc->jg->Prop} {i:Nat} {x:Str} {v:V} {Q:Unit->jg->Prop} (I:Inv X pins σ H s) (hN:X.N.Nodup) (hi:X.N[i]? = ja x) (hx:Loc X.env.scope x) (r:RelV v u)
 (h:∀s',Inv X pins (σ.set i (ja v)) H s'->(∃a,ug a s.heap s'.heap/\(a=X.env.locals\/X.env.cells.lookup x=ja a))->Q () s') (hf:autoParam (X.fn x=je\/X.env.scope.names.lookup x=ja .local) aa):jJ M A (storeName X.env x u) Q E s:=by
 obtain⟨m,hn,hl⟩:=id I.loc;have hcls:(X.env.scope.kind == .class||(X.env.scope.kind == .module&&X.env.locals != X.env.globals))=false:=by rw [I.ok.kind];rfl
 have hiσ:i<σ.length:=by rw [I.len];exact(jL.mp hi).1
 have cne:=I.cne
 have tracked:∀{a:jf}{h':jX},(∃o,s.heap.get? a=ja o/\H a=none)->ug a s.heap h'->bS X.prog X.w H h':=λ{a h'} ha hs b ob e=>by
  obtain⟨_,_,hfree⟩:=ha;refine(I.hok b ob e).stay (λc w' hc q=>(hs.2 c ?_).trans q) (λ_ q=>q) λ_ _ q=>q
  rintro rfl
  rcases hc with rfl|hc
  . rw [hfree]at e;cases e
  . rw [hfree]at hc;cases hc
 rcases hx with hk|hk
 . refine wpAny_storeName_local hk hn (λh' hn' hs => ?_) hcls
   obtain⟨oL,_,_,hoL,_⟩:=id hn;refine h _ ⟨I.ok,I.os,I.bare,⟨λb o e n hb hx => ?_,λb o e n hb hx => ?_,I.base.free,λb o e hx => ?_,I.base.tups,I.base.frzs,I.base.tbls⟩,⟨_,hn',λj y v' e1 e2 e3 => ?_⟩,λy c e => ?_,I.free,I.freeC,λp hp => ?_,tracked ⟨oL,hoL,I.free⟩ hs,by simpa using I.len,I.fzs⟩ ⟨_,hs,.inl rfl⟩
   . exact(hs.2 b (jU (jA (jw e) I.ok.above))).trans (I.base.keep b o e n hb hx)
   . obtain⟨sl,e1⟩:=I.base.slot b o e n hb hx
     exact⟨sl,(hs.2 b (jU (jA (jw e) I.ok.above))).trans e1⟩
   . obtain⟨o',e1⟩:=I.base.there b o e hx
     exact⟨o',(hs.2 b (jU (jA (jw e) I.ok.above))).trans e1⟩
   . by_cases hj:j=i
     . subst hj
       rw [hi]at e1;cases e1;rw [qN hiσ]at e2;cases e2;exact⟨u,r,.inl ⟨hk,by simp⟩⟩
     . rw [qy (qF hj)]at e2
       obtain⟨u',r',q⟩:=hl j y v' e1 e2 e3;refine⟨u',r',?_⟩;rcases q with⟨k,e⟩|⟨k,c,e,z⟩
       . refine .inl ⟨k,?_⟩
         have:y≠x:=λe=>hj (lh hN e1 (e▸hi))
         simp [this,e]
       . exact .inr ⟨k,c,e,z.sameBut hs (cne y c e)⟩
   . obtain⟨w',z⟩:=I.cell y c e
     exact⟨w',z.sameBut hs (cne y c e)⟩
   . obtain⟨e,n,ne,nf,d⟩:=I.pin p hp
     exact⟨(hs.2 p.1 ne).trans e,n,ne,nf,d⟩
 . have hfn : X.fn x = je := by
    rcases hf with z|z
    . exact z
    . rw [z]at hk;cases hk
   obtain⟨c,hc⟩:=I.ok.has x (.inl hk);obtain⟨w',z⟩:=I.cell x c hc;refine wpAny_storeName_cell I.ok.kind hk hc z (λh' hc' hs => ?_);obtain⟨oc,hoc,hocd⟩:=id z;refine h { s with heap:=h' } ⟨I.ok,I.os,I.bare,⟨λb o e n hb hx => ?_,λb o e n hb hx => ?_,I.base.free,λb o e hx => ?_,I.base.tups,I.base.frzs,I.base.tbls⟩,⟨m,hn.sameBut hs (qF (cne x c hc)),λj y v' e1 e2 e3 => ?_⟩,λy c' e => ?_,I.free,I.freeC,λp hp => ?_,tracked ⟨oc,hoc,I.freeC x c hc⟩ hs,by simpa using I.len,I.fzs⟩ ⟨c,hs,.inr hc⟩
   . exact(hs.2 b (jU (jA (jw e) (I.ok.cab x c hfn hc)))).trans (I.base.keep b o e n hb hx)
   . obtain⟨sl,e1⟩:=I.base.slot b o e n hb hx
     exact⟨sl,(hs.2 b (jU (jA (jw e) (I.ok.cab x c hfn hc)))).trans e1⟩
   . obtain⟨o',e1⟩:=I.base.there b o e hx
     exact⟨o',(hs.2 b (jU (jA (jw e) (I.ok.cab x c hfn hc)))).trans e1⟩
   . by_cases hj:j=i
     . subst hj
       rw [hi]at e1;cases e1;rw [qN hiσ]at e2;cases e2;exact⟨u,r,.inr ⟨.inl hk,c,hc,hc'⟩⟩
     . rw [qy (qF hj)]at e2
       obtain⟨u',r',q⟩:=hl j y v' e1 e2 e3;refine⟨u',r',?_⟩;rcases q with q|⟨k,c',e,z'⟩
       . exact .inl q
       . refine .inr ⟨k,c',e,z'.sameBut hs ?_⟩
         rintro rfl
         exact hj (lh hN e1 (I.ok.inj _ _ _ e hc▸hi))
   . by_cases hcc:c'=c
     . subst hcc;exact⟨_,hc'⟩
     . obtain⟨w2,z2⟩:=I.cell y c' e
       exact⟨w2,z2.sameBut hs hcc⟩
   . obtain⟨e,n,ne,nf,d⟩:=I.pin p hp
     refine⟨(hs.2 p.1 ?_).trans e,n,ne,nf,d⟩;intro q;rw [q,hoc]at e;have q':oc=p.2:=jx e;exact d w' (by rw [<-q'];exact hocd)
theorem li {M:Model} {E:jc->jg->Prop} {i:Nat} {x:Str} {v:V} {Q:Unit->jg->Prop} (I:Inv X pins σ H s) (hN:X.N.Nodup) (hi:X.N[i]? = ja x) (hx:Loc X.env.scope x) (r:RelV v u)
 (h:∀s',Inv X pins (σ.set i (ja v)) H s'->Q () s') (hf:autoParam (X.fn x=je\/X.env.scope.names.lookup x=ja .local) aa):jJ M A (storeName X.env x u) Q E s:=
 rq I hN hi hx r (λs' I' _=>h s' I') hf
theorem Inv.call' {s':jg} {ch:al jf} (I:Inv X pins σ H s) (ho:s'.os=s.os) (u:Un (bI X.stack) ch H H' s.heap s'.heap) (hok:bS X.prog X.w H' s'.heap) (hg:AllBare s'.gens)
 (hch:∀b∈ch,(b∈X.ex\/X.s₀.heap.objs.size<=b)/\b≠X.env.locals/\(∀x c,X.env.cells.lookup x=ja c->c≠b)/\∀p∈X.pn++pins,p.1≠b):Inv X pins σ H' s':=by
 obtain⟨h',g',d',t',o'⟩:=s';have e:o'=s.os:=ho;subst e;exact I.call (g':=g') (t':=t') (d':=d') u hok hg hch
end
abbrev XK:=jc->am jf->Hp->Prop
abbrev St:=al (am V)
abbrev VK:=V->Hp->Prop
abbrev TE:=St->Hp->VK->Prop
abbrev TT:=St->Hp->(Bool->Hp->Prop)->Prop
abbrev TA:=St->Hp->(al V->Hp->Prop)->Prop
structure Ends where
 nx:St->Hp->Prop
 rt:VK
 bk:St->Hp->Prop:=λ_ _=>False
 ct:St->Hp->Prop:=λ_ _=>False
abbrev TS:=Ends->St->Hp->Prop
def EP(X:Cx)(pins:al (jf×Obj))(σ:St)(Q:VK)(u:jc)(s':jg):Prop:=∃v H',Inv X pins σ H' s'/\RelV v u/\Q v H'
def TP(X:Cx)(pins:al (jf×Obj))(σ:St)(Q:Bool->Hp->Prop)(b:Bool)(s':jg):Prop:=∃H',Inv X pins σ H' s'/\Q b H'
def AP(X:Cx)(pins:al (jf×Obj))(σ:St)(Q:al V->Hp->Prop)(us:al jc)(s':jg):Prop:=∃vs H',Inv X pins σ H' s'/\aR vs us/\Q vs H'
def SP(X:Cx)(pins:al (jf×Obj))(D:Ends)(f:Flow)(s':jg):Prop:=
 match f with
 | .next=>∃σ' H',Inv X pins σ' H' s'/\D.nx σ' H'
 | .brk=>∃σ' H',Inv X pins σ' H' s'/\D.bk σ' H'
 | .cont=>∃σ' H',Inv X pins σ' H' s'/\D.ct σ' H'
 | .ret u=>∃v σ' H',Inv X pins σ' H' s'/\RelV v u/\D.rt v H'
def PE(X:Cx)(e:qA)(t:TE):Prop:=
 ∀(pins:al (jf×Obj))(s:jg)(σ:St)(H:Hp)(Q:VK),Inv X pins σ H s->t σ H Q->jJ (model X.prog X.w) X.A (eval e X.env) (EP X pins σ Q) X.xe s
def PT(X:Cx)(e:qA)(t:TT):Prop:=
 ∀(pins:al (jf×Obj))(s:jg)(σ:St)(H:Hp)(Q:Bool->Hp->Prop),Inv X pins σ H s->t σ H Q->jJ (model X.prog X.w) X.A (isTrue e X.env (eval e X.env)) (TP X pins σ Q) X.xe s
def PW(X:Cx)(e:qA)(t:TT):Prop:=
 ∀(whole:Sem jc)(pins:al (jf×Obj))(s:jg)(σ:St)(H:Hp)(Q:Bool->Hp->Prop),Inv X pins σ H s->t σ H Q->jJ (model X.prog X.w) X.A (isTrue e X.env whole) (TP X pins σ Q) X.xe s
theorem PW.pt{X:Cx}{e:qA}{t:TT}(h:PW X e t):PT X e t:=h _
def PA(X:Cx)(es:al qA)(t:TA):Prop:=
 ∀(pos:Pos)(pins:al (jf×Obj))(s:jg)(σ:St)(H:Hp)(Q:al V->Hp->Prop),Inv X pins σ H s->t σ H Q->jJ (model X.prog X.w) X.A (spliced (backTo pos (starEach es X.env))) (AP X pins σ Q) X.xe s
def PS(X:Cx)(st:qv)(t:TS):Prop:=
 ∀(pins:al (jf×Obj))(s:jg)(σ:St)(H:Hp)(D:Ends),Inv X pins σ H s->t D σ H->jJ (model X.prog X.w) X.A (exec st X.env) (SP X pins D) X.xe s
def cK(X:Cx)(st:al qv)(t:TS):Prop:=
 ∀(pins:al (jf×Obj))(s:jg)(σ:St)(H:Hp)(D:Ends),Inv X pins σ H s->t D σ H->jJ (model X.prog X.w) X.A (execs st X.env) (SP X pins D) X.xe s
theorem aW{α:Type}{t:Sem α}{Q Q':α->jg->Prop}{M:Model}{E:jc->jg->Prop}(h:jJ M A t Q E s)(hQ:∀a s,Q a s->Q' a s):jJ M A t Q' E s:=j7 h hQ λ_ _ x=>x
section
variable{X:Cx}
def Xu(i:Nat):TE:=λσ H Q=>∃v,σ[i]? = ja (ja v)/\Q v H
def tC(v:V):TE:=λ_ H Q=>Q v H
theorem lj {i:Nat} {x:Str} (hN:X.N[i]? = ja x) (hv:fZ X.env.scope x) (hd:autoParam ((x == ("__debug__" : Str))=false) ad) (hcd:autoParam ((x == ("__classdict__" : Str))=false) ad):PE X (.Name x pos) (Xu i):=by
 intro pins s σ H Q I h;obtain⟨v,e,h⟩:=h;obtain⟨m,hn,hl⟩:=I.loc;obtain⟨u,r,l⟩:=hl i x v hN e hv;have fin:EP X pins σ Q u s:=⟨v,H,I,r,h⟩
 rcases l with⟨hk,hm⟩|⟨hk,c,hc,hcell⟩
 . exact Wv (wpAny_loadName_local I.ok.kind hk hn hm fin) hd
 . rcases hk with hk|hk
   . exact Wv (wpAny_loadName_cell I.ok.kind hk hc hcell fin) hd
   . exact Wv (wpAny_loadName_free I.ok.kind hk hc hcell fin hcd) hd
theorem ZR{i j pos}:PE X (.Constant (.int i) j pos) (tC (.int i)):=λ_ _ _ H _ I h=>wpAny_Constant_int ⟨.int i,H,I.tok _,⟨_,rfl⟩,h⟩
theorem J5{b j pos}:PE X (.Constant (.bool b) j pos) (tC (.bl b)):=λ_ _ _ H _ I h=>Constant_bool ⟨.bl b,H,I,rfl,h⟩
theorem rA{j pos}:PE X (.Constant .none j pos) (tC .non):=λ_ _ _ H _ I h=>Constant_none ⟨.non,H,I,rfl,h⟩
theorem AB{x j pos}:PE X (.Constant (.str x) j pos) (tC (.str x)):=λ_ _ _ H _ I h=>Calls.Constant_str ⟨.str x,H,I.tok _,⟨_,rfl⟩,h⟩
def Gl(X:Cx)(x:Str):Prop:=X.env.kindOf x=ja .globalImplicit
theorem X8 {E:jc->jg->Prop} {x:Str} {u:jc} {Q:jc->jg->Prop} (I:Inv X pins σ H s) (hg:Gl X x) (hm:X.mg x=ja u) (h:Q u s)
 (hd:autoParam ((x == ("__debug__" : Str))=false) ad):jJ (model X.prog X.w) X.A (eval (.Name x pos) X.env) Q E s:=
 O9 I.ok.kind hg (Calls.loadGlobal_global (by rw [I.ok.glob];exact I.mod.glob.keeps I.bk) hm h) hd
theorem Qd {E:jc->jg->Prop} {x:Str} {u:jc} {Q:jc->jg->Prop} (I:Inv X pins σ H s) (hg:Gl X x) (hm:X.mg x=none) (hv:bootBuiltins x=ja u) (h:Q u s)
 (hn:x ≠ "__name__" := by decide) (hd:autoParam ((x == ("__debug__" : Str))=false) ad):jJ (model X.prog X.w) X.A (eval (.Name x pos) X.env) Q E s:=by
 obtain⟨mb,h1,h2⟩:=I.mod.blt;exact O9 I.ok.kind hg (Calls.loadGlobal_builtin (by rw [I.ok.glob];exact I.mod.glob.keeps I.bk) hm (by rw [I.ok.blt];exact h1.keeps I.bk) ((h2 x hn).trans hv) h) hd
theorem XY {x:Str} {u:jc} (hg:Gl X x) (hm:X.mg x=ja u) (r:RelV v u) (hd:autoParam ((x == ("__debug__" : Str))=false) ad):PE X (.Name x pos) (tC v):=
 λ_ _ _ H _ I h=>X8 I hg hm ⟨v,H,I,r,h⟩ hd
theorem QV {x:Str} {u:jc} (hg:Gl X x) (hm:X.mg x=none) (hv:bootBuiltins x=ja u) (r:RelV v u) (hn:x ≠ "__name__" := by decide) (hd:autoParam ((x == ("__debug__" : Str))=false) ad):PE X (.Name x pos) (tC v):=
 λ_ _ _ H _ I h=>Qd I hg hm hv ⟨v,H,I,r,h⟩ hn hd
variable{a b:qA}{ta tb:TE}{pos:Pos}
def PC(X:Cx)(op:CmpOp)(a b:qA)(t:TE):Prop:=
 ∀(pins:al (jf×Obj))(s:jg)(σ:St)(H:Hp)(Q:VK),Inv X pins σ H s->t σ H Q ->
  jJ (model X.prog X.w) X.A (eval a X.env) (λv s₁=>jJ (model X.prog X.w) X.A (eval b X.env) (λu s₂=>jJ (model X.prog X.w) X.A (qL op v u) (EP X pins σ Q) X.xe s₂) X.xe s₁) X.xe s
theorem rB(b:qA){op:CmpOp}(h:op ≠ .In)(h2:op ≠ .NotIn):behindInMarks op b=false:=by
 have e1:(op == CmpOp.In)=false:=by cases op<;>first|rfl|exact absurd rfl h
 have e2:(op == WO)=false:=by cases op<;>first|rfl|exact absurd rfl h2
 cases b<;>simp [behindInMarks,e1,e2]
def rC(ta:TE):TE:=λσ H Q=>ta σ H λx H1=>Q (.bl (decide (x = .non))) H1
theorem RelV.none_iff{x:V}{v:jc}(r:RelV x v):(v == ua)=decide (x = .non):=by
 cases x with
 |non=>cases r;rfl
 |bl _=>cases r;rfl
 |int _=>obtain⟨t,rfl⟩:=r;rfl
 |str _=>obtain⟨t,rfl⟩:=r;rfl
 |byt _=>obtain⟨t,rfl⟩:=r;rfl
 |flt _=>obtain⟨t,rfl⟩:=r;rfl
 |ref _=>cases r;rfl
 |ty _=>cases r;rfl
theorem lr{j pos'}(ha:PE X a ta):PC X .Is a (.Constant .none j pos') (rC ta):=by
 intro pins s σ H Q I h;refine aW (ha pins s σ H _ I h) λv s1 z=>?_;obtain⟨x,H1,I1,r1,q1⟩:=z
 exact Constant_none (is_none_gen ⟨.bl _,H1,I1,by rw [r1.none_iff];rfl,q1⟩)
def tB(t:TE):TT:=λσ H Q=>t σ H λx H1=>∃c,x = .bl c/\Q c H1
theorem AC{op:CmpOp}(h:PC X op a b t)(h1:behindInMarks op b=false:=by first|exact rB _ (by decide) (by decide)|rfl):PE X (.Compare a [op] [b] pos) t:=λpins s σ H Q I hw=>wpAny_Compare1 (h pins s σ H Q I hw) h1
theorem ls{op:CmpOp}(h:PC X op a b t)(h1:behindInMarks op b=false:=by first|exact rB _ (by decide) (by decide)|rfl):PT X (.Compare a [op] [b] pos) (tB t):=by
 intro pins s σ H Q I hw;refine v7 (aW (h pins s σ H _ I hw) λv s1 h1=>aW h1 λu s2 h2=>aW h2 λc s3 z=>?_) h1;obtain⟨x,H1,I1,r1,q1⟩:=z;obtain⟨d,rfl,q⟩:=q1;cases r1;exact yn ⟨H1,I1,q⟩
theorem AD{e:qA}(h:PE X e t)(he:autoParam (∀whole,isTrue e X.env whole=(do let v <-whole;standAt e.pos;holding [v] (truthy v))) af):PT X e (tB t):=by
 intro pins s σ H Q I hw;refine isTrue_plain (aW (h pins s σ H _ I hw) λv s1 z=>?_) (he _);obtain⟨x,H1,I1,r1,q1⟩:=z;obtain⟨d,rfl,q⟩:=q1;cases r1;exact yn ⟨H1,I1,q⟩
variable{tA tB':TT}{rest:al qA}
def rD(t u:TT):TT:=λσ H Q=>t σ H λc H1=>if c=je then u σ H1 Q else Q jj H1
def rE(t u:TT):TT:=λσ H Q=>t σ H λc H1=>if c=je then Q je H1 else u σ H1 Q
def rF(t:TT):TT:=λσ H Q=>t σ H λc H1=>Q (!c) H1
theorem rG(ha:PT X a tA):PW X (.BoolOp .And [a] pos) tA:=by
 intro wh pins s σ H Q I h;refine isTrue_and (aW (ha pins s σ H Q I h) λc s1 e => ?_);cases c with
 |true=>exact isTrue_and_nil e
 |false=>exact e
theorem rH(ha:PT X a tA):PW X (.BoolOp .Or [a] pos) tA:=by
 intro wh pins s σ H Q I h;refine isTrue_or (aW (ha pins s σ H Q I h) λc s1 e => ?_);cases c with
 |false=>exact isTrue_or_nil e
 |true=>exact e
theorem rJ(ha:PT X a tA)(hb:PW X (.BoolOp .And (b::rest) pos) tB'):PW X (.BoolOp .And (a::b::rest) pos) (rD tA tB'):=by
 intro wh pins s σ H Q I h;refine isTrue_and (aW (ha pins s σ H _ I h) λc s1 z=>?_);obtain⟨H1,I1,q1⟩:=z;cases c with
 |true=>exact hb wh pins s1 σ H1 Q I1 q1
 |false=>exact⟨H1,I1,q1⟩
theorem rK(ha:PT X a tA)(hb:PW X (.BoolOp .Or (b::rest) pos) tB'):PW X (.BoolOp .Or (a::b::rest) pos) (rE tA tB'):=by
 intro wh pins s σ H Q I h;refine isTrue_or (aW (ha pins s σ H _ I h) λc s1 z=>?_);obtain⟨H1,I1,q1⟩:=z;cases c with
 |true=>exact⟨H1,I1,q1⟩
 |false=>exact hb wh pins s1 σ H1 Q I1 q1
theorem AE(ha:PT X a tA):PT X (.UnaryOp .Not a pos) (rF tA):=by
 intro pins s σ H Q I h;exact isTrue_not (ha pins s σ H (λc H1=>Q (!c) H1) I h)
def rL(ta tb:TE):TE:=λσ H Q=>ta σ H λx H1=>∃c,x = .bl c/\if c=je then tb σ H1 Q else Q (.bl jj) H1
def rM(ta tb:TE):TE:=λσ H Q=>ta σ H λx H1=>∃c,x = .bl c/\if c=je then Q (.bl je) H1 else tb σ H1 Q
def rN(ta:TE):TE:=λσ H Q=>ta σ H λx H1=>∃c,x = .bl c/\Q (.bl (!c)) H1
theorem rO{op}(h:PE X a t):PE X (.BoolOp op [a] pos) t:=λpins s σ H Q I hw=>BoolOp_one (h pins s σ H Q I hw)
theorem AF(ha:PE X a ta)(hb:PE X (.BoolOp .And (b::rest) pos) tb):PE X (.BoolOp .And (a::b::rest) pos) (rL ta tb):=by
 intro pins s σ H Q I h;refine BoolOp_and (aW (ha pins s σ H _ I h) λv s1 z=>?_);obtain⟨x,H1,I1,r1,q1⟩:=z;obtain⟨c,rfl,q1⟩:=q1;cases r1;refine yn ?_;cases c with
 |true=>exact hb pins s1 σ H1 Q I1 q1
 |false=>exact⟨.bl jj,H1,I1,rfl,q1⟩
theorem AG(ha:PE X a ta)(hb:PE X (.BoolOp .Or (b::rest) pos) tb):PE X (.BoolOp .Or (a::b::rest) pos) (rM ta tb):=by
 intro pins s σ H Q I h;refine BoolOp_or (aW (ha pins s σ H _ I h) λv s1 z=>?_);obtain⟨x,H1,I1,r1,q1⟩:=z;obtain⟨c,rfl,q1⟩:=q1;cases r1;refine yn ?_;cases c with
 |false=>exact hb pins s1 σ H1 Q I1 q1
 |true=>exact⟨.bl je,H1,I1,rfl,q1⟩
theorem AH(ha:PE X a ta):PE X (.UnaryOp .Not a pos) (rN ta):=by
 intro pins s σ H Q I h;refine UnaryOp_ (aW (ha pins s σ H _ I h) λv s1 z=>?_);obtain⟨x,H1,I1,r1,q1⟩:=z;obtain⟨c,rfl,q1⟩:=q1;cases r1;exact not_of (yn ⟨.bl (!c),H1,I1,rfl,q1⟩)
def rP(t:TT)(ta tb:TE):TE:=λσ H Q=>t σ H λc H1=>if c=je then ta σ H1 Q else tb σ H1 Q
theorem AI(hc:PT X c tA)(ha:PE X a ta)(hb:PE X b tb):PE X (.IfExp c a b pos) (rP tA ta tb):=by
 intro pins s σ H Q I h;refine wpAny_IfExp (aW (hc pins s σ H _ I h) λd s1 z=>?_);obtain⟨H1,I1,q1⟩:=z;cases d with
 |true=>exact ha pins s1 σ H1 Q I1 q1
 |false=>exact hb pins s1 σ H1 Q I1 q1
end
def bv(K:jb)(H:Hp)(a:jf)(xs:al V):Prop:=
 Rd H a (.lst xs) \/
  ∃(o:Obj) (its:Array jc) (n:Nat),K.lookup a=ja o/\o.cls = .type "list" /\ o.dict=none/\o.data = .seq its n/\its.size<=jv/\aR xs its.toList
def cm(K:jb)(H:Hp)(a:jf)(xs:al V):Prop:=
 Rd H a (.tup xs) \/
  ∃(o:Obj) (its:Array jc) (n:Nat),K.lookup a=ja o/\o.cls = .type "tuple" /\ o.data = .seq its n/\its.size<=jv/\aR xs its.toList
noncomputable def AJ:jc->am V
 | .none=>ja .non
 | .bool b=>ja (.bl b)
 | .int i _=>ja (.int i)
 | .str x _=>ja (.str x)
 | .bytes b _=>ja (.byt b)
 | .float b _=>ja (.flt b)
 | .ref a=>ja (.ref a)
 | .type n=>ja (.ty n)
 |_=>none
theorem RelV.abs{x:V}{u:jc}(r:RelV x u):AJ u=ja x:=by
 cases x with
 |non=>cases r;rfl
 |bl _=>cases r;rfl
 |int _=>obtain⟨t,rfl⟩:=r;rfl
 |str _=>obtain⟨t,rfl⟩:=r;rfl
 |byt _=>obtain⟨t,rfl⟩:=r;rfl
 |flt _=>obtain⟨t,rfl⟩:=r;rfl
 |ref _=>cases r;rfl
 |ty _=>cases r;rfl
theorem RelV.inj{x y:V}{u:jc}(r:RelV x u)(q:RelV y u):x=y:=jx (r.abs.symm.trans q.abs)
theorem aR.inj:∀{xs ys:al V}{us:al jc},aR xs us->aR ys us->xs=ys:=by
 intro xs ys us p;induction p generalizing ys with
 |nil=>intro q;cases q;rfl
 |cons r t ih=>
  intro q;cases q with
  |cons r' t'=>rw [r.inj r',ih t']
section
variable{X:Cx}{pins:al (jf×Obj)}{σ:St}{H:Hp}{s:jg}{a:jf}{xs ys:al V}
theorem bv.of{K:jb}(h:H a=ja (.lst xs)):bv K H a xs := .inl (.inl h)
theorem cm.of{K:jb}(h:H a=ja (.tup xs)):cm K H a xs := .inl (.inl h)
theorem Inv.list(I:Inv X pins σ H s)(h:bv X.K H a xs):∃its:al jc,aR xs its/\PlainL s.heap a its.toArray/\xs.length<=jv:=by
 rcases h with h|⟨o,its,n,hk,hc,hd,hs,hz,r⟩
 . obtain⟨z,its,n,r,e⟩:=h.ok I.hok
   exact⟨its,r,⟨_,n,e,rfl,rfl,rfl⟩,z⟩
 . refine⟨its.toList,r,⟨o,n,I.kIn a o hk,hc,hd,by simpa using hs⟩,?_⟩
   have e:=r.length;simp only [Ow]at e;omega
theorem Inv.tuple(I:Inv X pins σ H s)(h:cm X.K H a xs):∃its:al jc,aR xs its/\IsTup s.heap a its.toArray/\xs.length<=jv:=by
 rcases h with h|⟨o,its,n,hk,hc,hs,hz,r⟩
 . obtain⟨z,its,r,p⟩:=h.ok I.hok
   exact⟨its,r,p.tup,z⟩
 . refine⟨its.toList,r,⟨o,I.kIn a o hk,hc,n,by simpa using hs⟩,?_⟩
   have e:=r.length;simp only [Ow]at e;omega
theorem Inv.list_inj(I:Inv X pins σ H s)(h:bv X.K H a xs)(h':bv X.K H a ys):xs=ys:=by
 obtain⟨its,r,⟨o,n,e,_,_,d⟩,_⟩:=I.list h;obtain⟨its',r',⟨o',n',e',_,_,d'⟩,_⟩:=I.list h';rw [e]at e';cases e';rw [d]at d';injection d' with d1 _
 have:its=its':=by simpa using congrArg WG d1
 subst this;exact r.inj r'
theorem Inv.tuple_inj(I:Inv X pins σ H s)(h:cm X.K H a xs)(h':cm X.K H a ys):xs=ys:=by
 obtain⟨its,r,⟨o,e,_,n,d⟩,_⟩:=I.tuple h;obtain⟨its',r',⟨o',e',_,n',d'⟩,_⟩:=I.tuple h';rw [e]at e';cases e';rw [d]at d';injection d' with d1 _
 have:its=its':=by simpa using congrArg WG d1
 subst this;exact r.inj r'
end
noncomputable abbrev Cx.wish(X:Cx)(E:jc->jg->Prop):Cx:={ X with xe:=E }
abbrev Cx.nox(X:Cx):Cx:=X.wish λ_ _=>False
theorem Cx.Ok.wish{X:Cx}(ok:X.Ok)(E:jc->jg->Prop):(X.wish E).Ok:=
 ⟨ok.mod,ok.kind,ok.glob,ok.blt,ok.above,ok.inj,ok.has,ok.cab,ok.hd,ok.frames,ok.stk,ok.exf,ok.bs,ok.bsz,ok.noex,ok.exfs,ok.funs,ok.frf,ok.tb⟩
theorem Cx.Ok.unwish{X:Cx}{E:jc->jg->Prop}(ok:(X.wish E).Ok):X.Ok:=
 ⟨ok.mod,ok.kind,ok.glob,ok.blt,ok.above,ok.inj,ok.has,ok.cab,ok.hd,ok.frames,ok.stk,ok.exf,ok.bs,ok.bsz,ok.noex,ok.exfs,ok.funs,ok.frf,ok.tb⟩
section
variable{X:Cx}{pins:al (jf×Obj)}{σ:St}{H:Hp}{s:jg}{E:jc->jg->Prop}
theorem Inv.wish(I:Inv X pins σ H s)(E:jc->jg->Prop):Inv (X.wish E) pins σ H s:=⟨I.ok.wish E,I.os,I.bare,I.base,I.loc,I.cell,I.free,I.freeC,I.pin,I.hok,I.len,I.fzs⟩
theorem Inv.unwish(I:Inv (X.wish E) pins σ H s):Inv X pins σ H s:=⟨I.ok.unwish,I.os,I.bare,I.base,I.loc,I.cell,I.free,I.freeC,I.pin,I.hok,I.len,I.fzs⟩
theorem SP.unwish{D:Ends}{f:Flow}{s':jg}(h:SP (X.wish E) pins D f s'):SP X pins D f s':=by
 cases f with
 |next=>obtain⟨σ',H',I,q⟩:=h;exact⟨σ',H',I.unwish,q⟩
 |brk=>obtain⟨σ',H',I,q⟩:=h;exact⟨σ',H',I.unwish,q⟩
 |cont=>obtain⟨σ',H',I,q⟩:=h;exact⟨σ',H',I.unwish,q⟩
 |ret u=>obtain⟨v,σ',H',I,r,q⟩:=h;exact⟨v,σ',H',I.unwish,r,q⟩
theorem cK.nox{st:al qv}{t:TS}(h:cK X.nox st t):cK X st t:=λpins s σ H D I hw=>
 j7 (h pins s σ H D (I.wish _) hw) (λ_ _ q=>q.unwish) λ_ _ z=>qi z
end
section
variable{X:Cx}{st:qv}{rest:al qv}{t u:TS}{e:qA}{te:TE}{pos:Pos}
def fM:TS:=λD σ H=>D.nx σ H
def VQ(t u:TS):TS:=λD σ H=>t { D with nx:=u D } σ H
theorem Qe:cK X [] fM:=λ_ _ σ H _ I h=>uT ⟨σ,H,I,h⟩
theorem ZC(h1:PS X st t)(h2:cK X rest u):cK X (st::rest) (VQ t u):=by
 intro pins s σ H D I h;refine Oo (aW (h1 pins s σ H { D with nx:=u D } I h) λf s1 q => ?_);cases f with
 |next=>
  obtain⟨σ',H',I',q⟩:=q;exact h2 pins s1 σ' H' D I' q
 |ret v=>exact q
 |brk=>exact q
 |cont=>exact q
theorem YR(h1:PS X st t):cK X [st] t:=by
 intro pins s σ H D I h;refine Oo (aW (h1 pins s σ H D I h) λf s1 q => ?_);cases f with
 |next=>exact uT q
 |ret v=>exact q
 |brk=>exact q
 |cont=>exact q
theorem Inv.quiet{pins:al (jf×Obj)}{σ:St}{H:Hp}{s:jg}(I:Inv X pins σ H s):interactive X.env=false:=by simp [interactive,I.ok.kind]
def XN(te:TE):TS:=λD σ H=>te σ H λ_ H1=>D.nx σ H1
theorem YF(he:PE X e te)(hs:autoParam (swapsWith e none pos.line X.env=pure false) ah):PS X (.Expr e pos) (XN te):=by
 intro pins s σ H D I h;exact wpAny_Expr_any (aW (he pins s σ H _ I h) λv s1 ⟨x,H1,I1,r1,q1⟩=>⟨σ,H1,I1,q1⟩) I.quiet hs
def QW(te:TE):TS:=λD σ H=>te σ H D.rt
theorem Qf(he:PE X e te):PS X (.Return (ja e) pos) (QW te):=by
 intro pins s σ H D I h;exact WI (aW (he pins s σ H _ I h) λv s1 ⟨x,H1,I1,r1,q1⟩=>⟨x,σ,H1,I1,r1,q1⟩)
def Qg(c:TT)(t u:TS):TS:=λD σ H=>c σ H λb H1=>if b=je then t D σ H1 else u D σ H1
theorem Qh(hc:PT X c tc)(ha:cK X a t)(hb:cK X b u):PS X (.If c a b pos) (Qg tc t u):=by
 intro pins s σ H D I h;refine wpAny_If (aW (hc pins s σ H _ I h) λd s1 z=>?_);obtain⟨H1,I1,q1⟩:=z;cases d with
 |true=>exact ha pins s1 σ H1 D I1 q1
 |false=>exact hb pins s1 σ H1 D I1 q1
end
abbrev TG:=V->St->Hp->(St->Hp->Prop)->Prop
abbrev gn:=al V->St->Hp->(St->Hp->Prop)->Prop
def PG(X:Cx)(target:qA)(t:TG):Prop:=
 ∀(pins:al (jf×Obj))(s:jg)(σ:St)(H:Hp)(v:V)(u:jc)(Q:St->Hp->Prop),Inv X pins σ H s->RelV v u->t v σ H Q ->
  jJ (model X.prog X.w) X.A (assign target X.env u) (λ_ s'=>∃σ' H',Inv X pins σ' H' s'/\Q σ' H') X.xe s
def gC(X:Cx)(ts:al qA)(t:gn):Prop:=
 ∀(pins:al (jf×Obj))(s:jg)(σ:St)(H:Hp)(vs:al V)(us:al jc)(Q:St->Hp->Prop),Inv X pins σ H s->aR vs us->t vs σ H Q ->
  jJ (model X.prog X.w) X.A (assignInOrder ((assignEach ts X.env).map (·.2)) us) (λ_ s'=>∃σ' H',Inv X pins σ' H' s'/\Q σ' H') X.xe s
section
variable{X:Cx}{pos:Pos}
def Uh(i:Nat):TG:=λv σ H Q=>Q (σ.set i (ja v)) H
theorem Ui{i:Nat}{x:Str}(hN:X.N.Nodup)(hi:autoParam (X.N[i]? = ja x) ah)(hx:Loc X.env.scope x:=by first|exact j8 rfl|exact qg rfl)(hf:autoParam (X.fn x=je\/X.env.scope.names.lookup x=ja .local) aa):PG X (.Name x pos) (Uh i):=by
 intro pins s σ H v u Q I r h;exact WH (li I hN hi hx r (λs' I'=>⟨_,H,I',h⟩) hf)
def gD:gn:=λvs σ H Q=>vs=[]/\Q σ H
def rQ(t:TG)(u:gn):gn:=λvs σ H Q=>∃v r,vs=v::r/\t v σ H λσ' H'=>u r σ' H' Q
theorem rR:gC X [] gD:=by
 intro pins s σ H vs us Q I r h;obtain⟨e,h⟩:=h;subst e;cases r;exact assignInOrder_nil ⟨σ,H,I,h⟩
theorem lu {e:qA} {es:al qA} (h1:PG X e t) (h2:gC X es u)
 (hs:autoParam ((assignEach (e::es) X.env).map (·.2)=assign e X.env::(assignEach es X.env).map (·.2)) ah):gC X (e::es) (rQ t u):=by
 intro pins s σ H vs us Q I r h;obtain⟨v,vr,e1,h⟩:=h;subst e1;cases r with
 |cons r rr=>
  rw [hs];refine assignInOrder_cons (aW (h1 pins s σ H _ _ _ I r h) λ_ s1 z=>?_);obtain⟨σ1,H1,I1,q1⟩:=z;exact h2 pins s1 σ1 H1 _ _ Q I1 rr q1
def lv(K:jb)(n:Nat)(t:gn):TG:=λv σ H Q=>∃a xs,v = .ref a/\cm K H a xs/\xs.length=n/\t xs σ H Q
theorem AK {k:Nat} {n:Nat} (hc:X.calm=je) (h:gC X es t)
 (hn:autoParam ((assignEach es X.env).length=n) ah) (hst:autoParam ((assignEach es X.env).findIdx? (·.1)=none) ah):PG X (.Tuple es k pos) (lv X.K n t):=by
 intro pins s σ H v u Q I r hw;obtain⟨a,xs,e1,hq,hl,hw⟩:=hw;subst e1;cases r;obtain⟨its,rv,ht,hz⟩:=I.tuple hq;refine assign_Tuple_tuple (I.ok.hd hc) ht (by simp [hn,<-hl,rv.length]) hst λh' hx => ?_
 have I1:Inv X pins σ H { s with heap:=h' }:=I.kept (t':=s.toks) λb o e=>hx b o (jU (jw e)) e
 exact h pins _ σ H xs _ Q I1 (by simpa using rv) hw
def Uj(te:TE)(g:TG):TS:=λD σ H=>te σ H λx H1=>g x σ H1 D.nx
theorem AL {tg e:qA} (he:PE X e te) (hg:PG X tg g) (hs:autoParam (swapsWithSole [tg] e pos.line X.env=pure false) ah) (hw:autoParam (swappedStores [tg] e X.env=pure none) ah)
 (h1:autoParam ((assignEach [tg] X.env).map (·.2)=[assign tg X.env]) ah):PS X (.Assign [tg] e pos) (Uj te g):=by
 intro pins s σ H D I h;refine wpAny_Assign_stores (aW (he pins s σ H _ I h) λv s1 z=>?_) hs hw;obtain⟨x,H1,I1,r1,q1⟩:=z;rw [h1];exact aW (hg pins s1 σ H1 x v _ I1 r1 q1) λ_ s2 q=>q
theorem Y7{i:Nat}{x:Str}(hN:X.N.Nodup)(hi:X.N[i]? = ja x)(hx:Loc X.env.scope x)(he:PE X e te)(hs:autoParam (swapsWith e (ja (.Name x pos')) pos.line X.env=pure false) ah)(hf:autoParam (X.fn x=je\/X.env.scope.names.lookup x=ja .local) aa) :
 PS X (.Assign [.Name x pos'] e pos) (Uj te (Uh i)):=by
 intro pins s σ H D I h;refine wpAny_Assign_Name (aW (he pins s σ H _ I h) λv s1 z=>?_) hs;obtain⟨y,H1,I1,r1,q1⟩:=z;exact li I1 hN hi hx r1 (λs2 I2=>⟨_,H1,I2,q1⟩) hf
end
structure It where
 go:Nat->Hp->Prop
 yld:Nat->Hp->V->Hp->Prop
 stop:Nat->Hp->Prop
def XA(X:Cx)(pins:al (jf×Obj))(H:Hp)(b:jf):Prop:=
 H b=none/\b≠X.env.locals/\b∉X.fs/\(b∈X.ex\/X.s₀.heap.objs.size<=b)/\(∀x c,X.env.cells.lookup x=ja c->c≠b)/\∀p∈X.pn++pins,p.1≠b
theorem Inv.fpOk{X:Cx}{pins:al (jf×Obj)}{σ:St}{H H':Hp}{s:jg}{b:jf}(I:Inv X pins σ H s)(hb:s.heap.objs.size<=b)(hn:H' b=none):XA X pins H' b:=by
 refine⟨hn,yG (jA I.lt hb),I.nofs hb,.inr (jK I.sz hb),λx c e z => ?_,λp hp z => ?_⟩
 . obtain⟨v,q⟩:=I.cell x c e
   exact absurd (jA q.lt (by rw [z];exact hb)) (qV _)
 . exact absurd (jA (jw (I.pin p hp).1) (by rw [z];exact hb)) (qV _)
structure db(P:jS)(w:jV)(K:jb)(tg:qA)(J:It)(fp:List jf)(it:jf)(tn:Nat->jX->Prop):Prop where
 mem:it∈fp
 obj:∀i h,tn i h->∀b∈fp,∃o,h.get? b=ja o/\∀v,o.data ≠ .cell v
 keep:∀i h h',tn i h->(∀b∈fp,∀o,h.get? b=ja o->h'.get? b=ja o)->tn i h'
 item:∀(X:Cx),X.prog=P->X.w=w->X.K=K->X.calm=je->∀(i:Nat)(pins:List (jf×Obj))(s:jg)(σ:St)(H:Hp)(E:jc->jg->Prop),Inv X pins σ H s->(∀b∈fp,XA X pins H b)->tn i s.heap->J.go i H ->
  jJ (model P w) X.A (pyNext (.ref it)) (λr s1=>∃u,r=ja u /\
   jJ (model P w) X.A (letOwnedTupleGo tg (.ref it) u) (λ_ s2=>∃x H',Inv X pins σ H' s2/\RelV x u/\J.yld i H x H'/\tn (i+1) s2.heap/\∀b∈fp,H' b=none) E s1) E s
 done:∀(X:Cx),X.prog=P->X.w=w->X.K=K->X.calm=je->∀(i:Nat)(pins:List (jf×Obj))(s:jg)(σ:St)(H:Hp)(E:jc->jg->Prop),Inv X pins σ H s->(∀b∈fp,XA X pins H b)->tn i s.heap->J.stop i H ->
  jJ (model P w) X.A (pyNext (.ref it)) (λr s1=>r=none/\Inv X pins σ H s1) E s
 self:∀(A:qe)(i:Nat)(s:jg)(Q:jc->jg->Prop)(E:jc->jg->Prop),tn i s.heap->Q (.ref it) s->jJ (model P w) A (pyIter (.ref it)) Q E s
abbrev TI:=St->Hp->(It->Hp->Prop)->Prop
def rS(X:Cx)(pins:al (jf×Obj))(σ:St)(tg:qA)(R:It->Hp->Prop)(itv:jc)(s2:jg):Prop:=
 ∃(it:jf) (fp:al jf) (tn:Nat->jX->Prop) (J:It) (H':Hp),itv = .ref it/\Inv X pins σ H' s2/\db X.prog X.w X.K tg J fp it tn/\tn 0 s2.heap/\(∀b∈fp,XA X pins H' b)/\R J H'
def PI(X:Cx)(tg iter:qA)(wi:TI):Prop:=
 ∀(pins:al (jf×Obj))(s:jg)(σ:St)(H:Hp)(R:It->Hp->Prop),Inv X pins σ H s->wi σ H R ->
  jJ (model X.prog X.w) X.A (eval iter X.env) (λv s1=>jJ (model X.prog X.w) X.A (pyIter v) (rS X pins σ tg R) X.xe s1) X.xe s
theorem QX {M:Model} {E:jc->jg->Prop} {s:jg} {o:Obj} {n:String} {Q:Unit->jg->Prop} (ho:s.heap.get? it=ja o) (hc:o.cls = .type n) (hd:o.data = .fields vs)
 (hn:["enumerate", "zip", "dict_itemiterator", "dict_reverseitemiterator", "odict_iterator", "itertools.zip_longest", "itertools.pairwise"].contains n=jj) (hQ:Q () s):jJ M A (letOwnedTupleGo tg (.ref it) u) Q E s:=by
 unfold letOwnedTupleGo
 cases tg<;>first
  |exact jB hQ
  | (cases u <;> first
      |exact jB hQ
      | (refine jl (wpAny_load ho ?_)
         rw [hc,hd];show jJ M A (if(["enumerate", "zip", "dict_itemiterator", "dict_reverseitemiterator", "odict_iterator", "itertools.zip_longest", "itertools.pairwise"].contains n&&vs[0]? == ja (rawInt _))=je then _ else _) Q E s;rw [if_neg (by intro h;rw [hn,om]at h;cases h)];exact jB hQ))
def lx(K:jb)(a:jf):It:=
 ⟨λi H=>∃xs x,bv K H a xs/\xs[i]? = ja x,λi H x H'=>H'=H/\∀xs,bv K H a xs->xs[i]? = ja x,λi H=>∃xs,bv K H a xs/\xs.length<=i⟩
def gU(K:jb)(a:jf):It:=
 ⟨λi H=>∃xs x,cm K H a xs/\xs[i]? = ja x,λi H x H'=>H'=H/\∀xs,cm K H a xs->xs[i]? = ja x,λi H=>∃xs,cm K H a xs/\xs.length<=i⟩
def gW(lo:Int)(n:Nat):It:=⟨λi _=>i<n,λi H x H'=>H'=H/\x = .int (lo+i),λi _=>n<=i⟩
theorem AM{K:jb}(a it:jf):db P w K tg (lx K a) [it] it (λi h=>h.IsListIter it a i) where
 mem:=by simp
 obj:=λi h st b hb=>by
  have e:b=it:=by simpa using hb
  subst e;obtain⟨o,e,c,d⟩:=st;exact⟨o,e,λv z=>by rw [d]at z;cases z⟩
 keep:=λi h h' st k=>st.at λo e=>k it (by simp) o e
 item:=by
  intro X hP hw hK hc i pins s σ H E I hf st hg;subst hP hw hK;obtain⟨xs,x,hq,hx⟩:=hg;obtain⟨its,rv,p,hz⟩:=I.list hq;obtain⟨u,hu,ru⟩:=rv.get hx;obtain⟨f0,f1,f2,f3,f4,f5⟩:=hf it (by simp);refine wpAny_pyNext_list_item st p.isList (x:=u) (by simpa using hu) λh' st' sb => ?_
  have I1:Inv X pins σ H { s with heap:=h' }:=I.turned (t':=s.toks) (λb o hb e=>(sb.2 b hb).trans e) f0 f1 f3 f4 f5;obtain⟨o,e,c,d⟩:=id st';exact⟨u,rfl,QX (s:={ s with heap:=h' }) e c d (by decide) ⟨x,H,I1,ru,⟨rfl,λys hy=>by rw [I.list_inj hy hq];exact hx⟩,st',λb hb=>(hf b hb).1⟩⟩
 done:=by
  intro X hP hw hK hc i pins s σ H E I hf st hg;subst hP hw hK;obtain⟨xs,hq,hx⟩:=hg;obtain⟨its,rv,p,hz⟩:=I.list hq;obtain⟨f0,f1,f2,f3,f4,f5⟩:=hf it (by simp);have hl:=rv.length;exact wpAny_pyNext_list_end (I.ok.hd hc) st p.isList (by simp;omega) λh' eb=>⟨rfl,I.turned (t':=s.toks) (λb o hb e=>eb b o hb e) f0 f1 f3 f4 f5⟩
 self:=λ_ _ _ _ _ st h=>wpAny_pyIter_listiter st h
theorem rT{K:jb}(a it:jf):db P w K tg (gU K a) [it] it (λi h=>h.IsTupleIter it a i) where
 mem:=by simp
 obj:=λi h st b hb=>by
  have e:b=it:=by simpa using hb
  subst e;obtain⟨o,e,c,d⟩:=st;exact⟨o,e,λv z=>by rw [d]at z;cases z⟩
 keep:=λi h h' st k=>st.at λo e=>k it (by simp) o e
 item:=by
  intro X hP hw hK hc i pins s σ H E I hf st hg;subst hP hw hK;obtain⟨xs,x,hq,hx⟩:=hg;obtain⟨its,rv,p,hz⟩:=I.tuple hq;obtain⟨u,hu,ru⟩:=rv.get hx;obtain⟨f0,f1,f2,f3,f4,f5⟩:=hf it (by simp);refine wpAny_pyNext_tuple_item st (show s.heap.IsTuple a its.toArray from p) (x:=u) (by simpa using hu) λh' st' sb => ?_
  have I1:Inv X pins σ H { s with heap:=h' }:=I.turned (t':=s.toks) (λb o hb e=>(sb.2 b hb).trans e) f0 f1 f3 f4 f5;obtain⟨o,e,c,d⟩:=id st';exact⟨u,rfl,QX (s:={ s with heap:=h' }) e c d (by decide) ⟨x,H,I1,ru,⟨rfl,λys hy=>by rw [I.tuple_inj hy hq];exact hx⟩,st',λb hb=>(hf b hb).1⟩⟩
 done:=by
  intro X hP hw hK hc i pins s σ H E I hf st hg;subst hP hw hK;obtain⟨xs,hq,hx⟩:=hg;obtain⟨its,rv,p,hz⟩:=I.tuple hq;obtain⟨f0,f1,f2,f3,f4,f5⟩:=hf it (by simp);have hl:=rv.length;exact wpAny_pyNext_tuple_end (I.ok.hd hc) st (show s.heap.IsTuple a its.toArray from p) (by simp;omega) λh' eb=>⟨rfl,I.turned (t':=s.toks) (λb o hb e=>eb b o hb e) f0 f1 f3 f4 f5⟩
 self:=λ_ _ _ _ _ st h=>wpAny_pyIter_tupleiter st h
theorem AN{K:jb}(it:jf)(lo:Int)(n:Nat):db P w K tg (gW lo n) [it] it (λi h=>IsRangeIter h it (lo+(i:Nat)*1) ((n:Int)-(i:Nat)) 1) where
 mem:=by simp
 obj:=λi h st b hb=>by
  have e:b=it:=by simpa using hb
  subst e
  exact⟨_,st,λv z=>by
   have z':O0 _=oS v:=z;cases z'⟩
 keep:=λi h h' st k=>k it (by simp) _ st
 item:=by
  intro X hP hw hK hc i pins s σ H E I hf st hg;subst hP hw hK;obtain⟨f0,f1,f2,f3,f4,f5⟩:=hf it (by simp);have W:=WK (prog:=X.prog) (w:=X.w) (I.ok.hd hc) it lo 1 n;refine W.item i s _ _ hg st λv h' tk hv st' kk => ?_
  obtain⟨t,rfl⟩:=hv;have I1:Inv X pins σ H { s with heap:=h',toks:=tk }:=I.turned (λb o hb e=>kk b o (by simpa using hb) e) f0 f1 f3 f4 f5;refine⟨_,rfl,QX (s:={ s with heap:=h',toks:=tk }) (n:="range_iterator") st' rfl rfl (by decide) ⟨.int (lo+i),H,I1,⟨t,?_⟩,⟨rfl,rfl⟩,st',λb hb=>(hf b hb).1⟩⟩;rw [W7]
 done:=by
  intro X hP hw hK hc i pins s σ H E I hf st hg;subst hP hw hK;obtain⟨f0,f1,f2,f3,f4,f5⟩:=hf it (by simp);exact vO (I.ok.hd hc) st (by have:n<=i:=hg;omega) λh' eb=>⟨rfl,I.turned (t':=s.toks) (λb o hb e=>eb b o hb e) f0 f1 f3 f4 f5⟩
 self:=λ_ _ _ _ _ st h=>vQ st h
section
variable{X:Cx}{tg:qA}
def AO(K:jb)(tl:TE):TI:=λσ H R=>tl σ H λx H1=>∃a,x = .ref a/\(∃xs,cm K H1 a xs)/\R (gU K a) H1
theorem AQ(hl:PE X l tl):PI X tg l (AO X.K tl):=by
 intro pins s σ H R I h;refine aW (hl pins s σ H _ I h) λv s1 z=>?_;obtain⟨x,H1,I1,r1,q1⟩:=z
 obtain⟨a,e,⟨xs,hq⟩,q⟩:=q1;subst e;cases r1;obtain⟨its,rv,p,hz⟩:=I1.tuple hq;refine Ws (show s1.heap.IsTuple a its.toArray from p) ?_;refine⟨s1.heap.objs.size,[s1.heap.objs.size],_,_,H1,rfl,I1.kept (t':=s1.toks) λb o e=>ji _ e,rT a _,⟨_,jD _ rfl,rfl,rfl⟩,λb hb => ?_,q⟩;have e:b=s1.heap.objs.size:=by simpa using hb
 subst e;exact I1.fpOk (jz _) (I1.hok.fresh (jz _))
theorem AR {s:jg} {R:It->Hp->Prop} {E:jc->jg->Prop} {lo hi:Int} {tk:Nat} (I:Inv X pins σ H s) (h1 : -(2 ^ 62)<=lo) (h2:lo<2 ^ 62) (h3 : -(2 ^ 62)<=hi) (h4:hi<2 ^ 62)
 (q:R (gW lo (hi-lo).toNat) H):jJ (model X.prog X.w) X.A (pyIter (.ref s.heap.objs.size)) (rS X pins σ tg R) E { s with heap:=s.heap.push { cls := .type "range",data := .fields #[.int lo t,.int hi u,.int 1 v] },toks:=tk }:=by
 refine Wt (Wq ..) (small_one h1 h2 h3 h4) ?_;have I1:Inv X pins σ H { s with heap:=s.heap.push { cls := .type "range",data := .fields #[.int lo t,.int hi u,.int 1 v] },toks:=tk }:=I.kept λb o e=>ji _ e
 refine⟨(s.heap.push { cls := .type "range",data := .fields #[.int lo t,.int hi u,.int 1 v] }).objs.size,[(s.heap.push { cls := .type "range",data := .fields #[.int lo t,.int hi u,.int 1 v] }).objs.size],_,_,H,rfl,
  I1.kept (t':=tk) λb o e=>ji _ e,AN _ lo (hi-lo).toNat,?_,λb hb => ?_,q⟩
 . have e1:lo+((0:Nat):Int)*1=lo:=by simp
   have e2:(((hi-lo).toNat:Nat):Int)-((0:Nat):Int)=jZ lo hi 1:=by rw [rangeSize_one];split<;>omega
   show IsRangeIter _ _ (lo+((0:Nat):Int)*1) ((((hi-lo).toNat:Nat):Int)-((0:Nat):Int)) 1;rw [e1,e2];exact jD _ rfl
 . have e:b=(s.heap.push { cls := .type "range",data := .fields #[.int lo t,.int hi u,.int 1 v] }).objs.size:=by simpa using hb
   subst e;exact I1.fpOk (jz _) (I1.hok.fresh (jz _))
def rV(ta:TA):TI:=λσ H R=>ta σ H λvs H1=>∃j:Int,vs=[.int j] /\ -(2 ^ 62)<=j/\j<2 ^ 62/\R (gW 0 j.toNat) H1
theorem AS {a:qA} (hg:Gl X "range") (hm:X.mg "range" = none) (ha:PA X [a] ta) (hs:autoParam (starEach [a] X.env=[(jj,eval a X.env)]) ah):PI X tg (.Call (.Name "range" p) [a] [] pos) (rV ta):=by
 intro pins s σ H R I h;refine Call_ (Qd I hg hm boot_range (ut (aW (ha pos pins s σ H _ I h) λus s1 z=>?_) hs rfl));obtain⟨vs,H1,I1,r1,q1⟩:=z;obtain⟨j,e,q1,q2,q⟩:=q1;subst e;cases r1 with
 |cons r rr=>
  cases rr;obtain⟨t,rfl⟩:=r;exact call_range_1 (AR I1 (by omega) (by omega) q1 q2 (by simpa using q))
def J6(wi:TI)(g:TG)(tb:TS):TS:=λD σ H=>wi σ H λJ H1=>∃W:Nat->Nat->St->Hp->Prop,(∃m,W 0 m σ H1)/\∀i m σ H,W i m σ H ->
 (J.stop i H/\D.nx σ H)\/(J.go i H/\∃N:St->Hp->Prop,(∀σ' H',N σ' H'->∃m',m'<m/\W (i+1) m' σ' H')/\∀x H',J.yld i H x H'->g x σ H' λσ2 H2=>tb { D with nx:=N,ct:=N,bk:=D.nx } σ2 H2)
def Vp(fp:al jf)(h:jX):al (jf×Obj):=fp.filterMap λb=>(h.get? b).map λo=>(b,o)
theorem J7{fp:al jf}{h:jX}{b:jf}{o:Obj}(hb:b∈fp)(e:h.get? b=ja o):(b,o)∈Vp fp h:=uQ.mpr ⟨b,hb,by rw [e];rfl⟩
theorem rW{fp:al jf}{h:jX}{p:jf×Obj}(hp:p∈Vp fp h):p.1∈fp/\h.get? p.1=ja p.2:=by
 obtain⟨b,hb,e⟩:=List.mem_filterMap.mp hp;cases q:h.get? b with
 |none=>rw [q]at e;cases e
 |some o=>
  rw [q]at e;have e':(b,o)=p:=jx e;subst e';exact⟨hb,q⟩
theorem Inv.pinned{pins:al (jf×Obj)}{σ:St}{H:Hp}{s:jg}{fp:al jf}(I:Inv X pins σ H s)(hf:∀b∈fp,XA X pins H b)(ho:∀b∈fp,∃o,s.heap.get? b=ja o/\∀v,o.data ≠ .cell v):Inv X (pins++Vp fp s.heap) σ H s:=
 I.pins_of λp hp=>(qY.mp hp).elim (λz=>I.pin p (jO _ z)) λz=>by
  obtain⟨hb,e⟩:=rW z;obtain⟨f0,f1,f2,_⟩:=hf p.1 hb;obtain⟨o,e',d⟩:=ho p.1 hb;rw [e]at e';cases e';exact⟨e,f0,f1,f2,d⟩
theorem Inv.unpinned{pins pl:al (jf×Obj)}{σ:St}{H:Hp}{s:jg}(I:Inv X (pins++pl) σ H s):Inv X pins σ H s:=I.pins_of λp hp=>I.pin p (jO _ (uD _ hp))
theorem rX (hp:PassesOwn (model X.prog X.w) X.A X.env X.xe) (hc:X.calm=je) (hi:PI X tg iter wi) (hg:PG X tg g) (hb:cK X body tb)
 (hs:autoParam (∀x,foldedSetIterable iter X.env x=pure x) af):PS X (.For tg iter body [] pos) (J6 wi g tb):=by
 intro pins s σ H D I h;refine wpAny_For (aW (hi pins s σ H _ I h) λv s1 h1=>aW h1 λitv s2 h2 => ?_) hs;obtain⟨it,fp,tn,J,H2,e,I2,T,st2,f2,W,⟨m0,w0⟩,turn⟩:=h2;subst e;have stat:∀{H':Hp},(∀b∈fp,H' b=none)->∀b∈fp,XA X pins H' b:=λhn b hb=>⟨hn b hb,(f2 b hb).2⟩
 refine codeAny_forLoop_any (λn s'=>∃i σ' H',Inv X pins σ' H' s'/\tn i s'.heap/\(∀b∈fp,H' b=none)/\W i n σ' H') ?_ m0 ⟨0,σ,H2,I2,st2,λb hb=>(f2 b hb).1,w0⟩
 rintro n s3 ⟨i,σ3,H3,I3,st3,fr3,w3⟩
 rcases turn i n σ3 H3 w3 with⟨stop,qn⟩|⟨go,N,hN,step⟩
 . refine uS hp (aW (T.done X rfl rfl rfl hc i pins s3 σ3 H3 X.xe I3 (stat fr3) st3 stop) λr s4 z=>?_);obtain⟨hr,I4⟩:=z
   subst hr;exact uT ⟨σ3,H3,I4,qn⟩
 . refine uS hp (aW (T.item X rfl rfl rfl hc i pins s3 σ3 H3 X.xe I3 (stat fr3) st3 go) λr s4 z=>?_);obtain⟨u,hr,h4⟩:=z
   subst hr;refine uS hp (aW h4 λ_ s5 z=>?_);obtain⟨x,H5,I5,r5,y5,st5,fr5⟩:=z;have I5':=I5.pinned (stat fr5) (T.obj _ _ st5);refine uS hp (aW (hg _ s5 σ3 H5 x u _ I5' r5 (step x H5 y5)) λ_ s6 z=>?_);obtain⟨σ6,H6,I6,q6⟩:=z;refine uS hp (aW (hb _ s6 σ6 H6 _ I6 q6) λf s7 q7 => ?_)
   have again:∀{σ7:St}{H7:Hp},Inv X (pins++Vp fp s5.heap) σ7 H7 s7->N σ7 H7->∃m,m<n/\∃i σ' H',Inv X pins σ' H' s7/\tn i s7.heap/\(∀b∈fp,H' b=none)/\W i m σ' H':=λ{σ7 H7} I7 n7=>by
    obtain⟨m',hm,w7⟩:=hN σ7 H7 n7;refine⟨m',hm,i+1,σ7,H7,I7.unpinned,T.keep _ _ _ st5 λb hb o e=>(I7.pin (b,o) (jO _ (jO _ (J7 hb e)))).1,λb hb => ?_,w7⟩;obtain⟨o,e,d⟩:=T.obj _ _ st5 b hb;exact(I7.pin (b,o) (jO _ (jO _ (J7 hb e)))).2.1
   cases f with
   |next=>obtain⟨σ7,H7,I7,n7⟩:=q7;exact again I7 n7
   |cont=>obtain⟨σ7,H7,I7,n7⟩:=q7;exact again I7 n7
   |brk=>obtain⟨σ7,H7,I7,q7⟩:=q7;exact⟨σ7,H7,I7.unpinned,q7⟩
   |ret v=>obtain⟨x7,σ7,H7,I7,r7,q7⟩:=q7;exact⟨x7,σ7,H7,I7.unpinned,r7,q7⟩
end
abbrev R2:=V->V->Hp->VK->Prop
def bK(X:Cx)(f:jc->jc->Sem jc)(r:R2):Prop:=
 ∀(pins:al (jf×Obj))(s:jg)(σ:St)(H:Hp)(x y:V)(v u:jc)(Q:VK),Inv X pins σ H s->RelV x v->RelV y u->r x y H Q ->
  jJ (model X.prog X.w) X.A (f v u) (EP X pins σ Q) X.xe s
def ly(X:Cx)(f:jc->Sem jc)(r:V->Hp->VK->Prop):Prop:=
 ∀(pins:al (jf×Obj))(s:jg)(σ:St)(H:Hp)(x:V)(v:jc)(Q:VK),Inv X pins σ H s->RelV x v->r x H Q ->
  jJ (model X.prog X.w) X.A (f v) (EP X pins σ Q) X.xe s
def bg(X:Cx)(f:jc)(r:al V->Hp->VK->Prop):Prop:=
 ∀(pins:al (jf×Obj))(s:jg)(σ:St)(H:Hp)(xs:al V)(us:al jc)(Q:VK),Inv X pins σ H s->aR xs us->r xs H Q ->
  jJ (model X.prog X.w) X.A (call f us) (EP X pins σ Q) X.xe s
def gb(r:R2)(ta tb:TE):TE:=λσ H Q=>ta σ H λx H1=>tb σ H1 λy H2=>r x y H2 Q
def rY(r:V->Hp->VK->Prop)(ta:TE):TE:=λσ H Q=>ta σ H λx H1=>r x H1 Q
def rI(C:Int->Int->Prop)(g:Int->Int->V):R2:=λx y H Q=>∃i j,x = .int i/\y = .int j/\C i j/\Q (g i j) H
def eh(g:Int->Int->V):R2:=λx y H Q=>∃i j,x = .int i/\y = .int j/\Q (g i j) H
def rU(g:Int->V):V->Hp->VK->Prop:=λx H Q=>∃i,x = .int i/\Q (g i) H
section
variable{X:Cx}{a b c:qA}{ta tb tc:TE}{pos:Pos}
theorem lz (ha:PE X a ta) (hb:PE X b tb) {R:V->V->Hp->Prop} (I:Inv X pins σ H s)
 (h:ta σ H λx H1=>tb σ H1 λy H2=>R x y H2) {Q:jc->jg->Prop} {f:jc->jc->Sem jc}
 (hf:∀v u s2 x y H2,Inv X pins σ H2 s2->RelV x v->RelV y u->R x y H2->jJ (model X.prog X.w) X.A (f v u) Q X.xe s2) :
 jJ (model X.prog X.w) X.A (eval a X.env) (λv s₁=>jJ (model X.prog X.w) X.A (eval b X.env) (λu s₂=>jJ (model X.prog X.w) X.A (f v u) Q X.xe s₂) X.xe s₁) X.xe s:=by
 refine aW (ha pins s σ H _ I h) λv s1 z=>?_;obtain⟨x,H1,I1,r1,q1⟩:=z
 refine aW (hb pins s1 σ H1 _ I1 q1) λu s2 z=>?_;obtain⟨y,H2,I2,r2,q2⟩:=z
 exact hf v u s2 x y H2 I2 r1 r2 q2
theorem Uk{op:Operator}{r:R2}(ho:bK X (yl op) r)(ha:PE X a ta)(hb:PE X b tb):PE X (.BinOp a op b pos) (gb r ta tb):=by
 intro pins s σ H Q I h;exact wpAny_BinOp (lz ha hb I h λv u s2 x y H2 I2 rx ry q=>ho pins s2 σ H2 x y v u Q I2 rx ry q)
theorem lA{op:UnaryOp}{r:V->Hp->VK->Prop}(ho:ly X (unaryOp op) r)(ha:PE X a ta):PE X (.UnaryOp op a pos) (rY r ta):=by
 intro pins s σ H Q I h;exact UnaryOp_ (aW (ha pins s σ H _ I h) λv s1 ⟨x,H1,I1,r1,q1⟩=>ho pins s1 σ H1 x v Q I1 r1 q1)
theorem gX {f:jc->jc->Sem jc} {C:Int->Int->Prop} {g:Int->Int->Int}
 (rule:∀(i j:Int)(t u:Tok)(s:jg)(Q:jc->jg->Prop)(E:jc->jg->Prop),C i j->Q (.int (g i j) s.toks) { s with toks:=s.toks+1 }->jJ (model X.prog X.w) X.A (f (.int i t) (.int j u)) Q E s) :
 bK X f (rI C λi j => .int (g i j)):=by
 intro pins s σ H x y v u Q I rx ry h;obtain⟨i,j,rfl,rfl,hc,q⟩:=h;obtain⟨t,rfl⟩:=rx;obtain⟨t',rfl⟩:=ry;exact rule i j t t' s _ _ hc ⟨.int (g i j),H,I.tok _,⟨_,rfl⟩,q⟩
theorem rZ {f:jc->jc->Sem jc} {g:Int->Int->Int}
 (rule:∀(i j:Int)(t u:Tok)(s:jg)(Q:jc->jg->Prop)(E:jc->jg->Prop),Q (.int (g i j) s.toks) { s with toks:=s.toks+1 }->jJ (model X.prog X.w) X.A (f (.int i t) (.int j u)) Q E s) :
 bK X f (eh λi j => .int (g i j)):=by
 intro pins s σ H x y v u Q I rx ry h;obtain⟨i,j,rfl,rfl,q⟩:=h;obtain⟨t,rfl⟩:=rx;obtain⟨t',rfl⟩:=ry;exact rule i j t t' s _ _ ⟨.int (g i j),H,I.tok _,⟨_,rfl⟩,q⟩
theorem lB {f:jc->jc->Sem jc} {g:Int->Int->Bool}
 (rule:∀(i j:Int)(t u:Tok)(s:jg)(Q:jc->jg->Prop)(E:jc->jg->Prop),Q (.bool (g i j)) s->jJ (model X.prog X.w) X.A (f (.int i t) (.int j u)) Q E s) :
 bK X f (eh λi j => .bl (g i j)):=by
 intro pins s σ H x y v u Q I rx ry h;obtain⟨i,j,rfl,rfl,q⟩:=h;obtain⟨t,rfl⟩:=rx;obtain⟨t',rfl⟩:=ry;exact rule i j t t' s _ _ ⟨.bl (g i j),H,I,rfl,q⟩
def ZM(i j:Int):Prop:=0<j/\j<1073741824
def sd(i j:Int):Prop:=0<=j/\j<=1000000/\i.natAbs<2 ^ 64
def a3(i j:Int):Prop:=(-(2 ^ 64)<i/\i<2 ^ 64)\/(-(2 ^ 64)<j/\j<2 ^ 64)
theorem a3.ok{i j:Int}(h:a3 i j):IntMulOk i j:=by
 rcases h with⟨h1,h2⟩|⟨h1,h2⟩
 . exact .of_left (intBits_le_64 h1 h2)
 . exact .of_right (intBits_le_64 h1 h2)
theorem eR:bK X (yl .Add) (eh λi j => .int (i+j)):=rZ λ_ _ _ _ _ _ _ q=>add_int q
theorem se:bK X (yl .Sub) (eh λi j => .int (i-j)):=rZ λ_ _ _ _ _ _ _ q=>sub_int q
theorem gc:bK X (yl .Mult) (rI a3 λi j => .int (i*j)):=gX λ_ _ _ _ _ _ _ hc q=>mul_int q hc.ok
theorem AT:bK X (yl .FloorDiv) (rI ZM λi j => .int (i / j)):=gX λi j _ _ _ _ _ hc q=>by
 have h1:(0:Int)<j:=hc.1;have h2:j<1073741824:=hc.2;exact floordiv_int (by omega) (by rw [Int.fdiv_eq_ediv_of_nonneg i (by omega)];exact q) (.inl (ou (by omega)))
theorem AU:bK X (yl .Mod) (rI (λ_ j=>0<j) λi j => .int (i % j)):=gX λi j _ _ _ _ _ hc q=>by
 have h1:(0:Int)<j:=hc;exact mod_int' (by omega) (by rw [Int.fmod_eq_emod_of_nonneg i (by omega)];exact q)
theorem AW {f:jc->Sem jc} {g:Int->Int}
 (rule:∀(i:Int)(t:Tok)(s:jg)(Q:jc->jg->Prop)(E:jc->jg->Prop),Q (.int (g i) s.toks) { s with toks:=s.toks+1 }->jJ (model X.prog X.w) X.A (f (.int i t)) Q E s) :
 ly X f (rU λi => .int (g i)):=by
 intro pins s σ H x v Q I rx h;obtain⟨i,rfl,q⟩:=h;obtain⟨t,rfl⟩:=rx;exact rule i t s _ _ ⟨.int (g i),H,I.tok _,⟨_,rfl⟩,q⟩
theorem lC:ly X (unaryOp .USub) (rU λi => .int (-i)):=AW λ_ _ _ _ _ q=>neg_int q
end
noncomputable def Vq:V->V->Bool
 | .non,.non=>je | .non,.int _=>je | .int _,.non=>je | .non,.bl _=>je | .bl _,.non=>je | .non,.str _=>je | .str _,.non=>je
 | .int _,.int _=>je | .bl _,.bl _=>je | .str _,.str _=>je | .byt _,.byt _=>je
 | .int _,.str _=>je | .str _,.int _=>je | .bl _,.str _=>je | .str _,.bl _=>je
 |_,_=>jj
def AX:R2:=λx y H Q=>Vq x y=je/\Q (.bl (decide (x=y))) H
def AY:R2:=λx y H Q=>Vq x y=je/\Q (.bl (!decide (x=y))) H
theorem sf{i j:Int}:decide (V.int i=V.int j)=(i == j):=by
 rw [yu];simp
theorem si{i j:Bool}:decide (V.bl i=V.bl j)=(i == j):=by
 rw [yu];simp
theorem sj{i j:Str}:decide (V.str i=V.str j)=(i == j):=by
 rw [yu];simp
theorem sk{i j:Array UInt8}:decide (V.byt i=V.byt j)=(i.toList == j.toList):=by
 rw [yu];cases i;cases j;simp
section
variable{X:Cx}{a b c:qA}{ta tb tc:TE}{pos:Pos}
theorem Yc{Q:VK}{k k':Bool}(I:Inv X pins σ H s)(q:Q (.bl k) H)(e:k=k'):EP X pins σ Q (.bool k') s:=by
 subst e;exact⟨.bl k,H,I,rfl,q⟩
theorem AZ:bK X (qL .Eq) AX:=by
 intro pins s σ H x y v u Q I rx ry h;obtain⟨hs,q⟩:=h;cases x with
 |non=>
  cases rx;cases y with
  |non=>cases ry;exact PySem.EqNone.eq_none_none (Yc I q (by simp))
  |bl j=>cases ry;exact PySem.EqNone.eq_none_bool (Yc I q (by simp))
  |int j=>obtain⟨t',rfl⟩:=ry;exact PySem.EqNone.eq_none_int (Yc I q (by simp))
  |str j=>obtain⟨t',rfl⟩:=ry;exact PySem.EqNone.eq_none_str (Yc I q (by simp))
  |_=>exact absurd (show jj=je from hs) jI
 |bl i=>
  cases rx;cases y with
  |non=>cases ry;exact PySem.EqNone.eq_bool_none (Yc I q (by simp))
  |bl j=>cases ry;exact eq_bool (Yc I q si)
  |str j=>obtain⟨t',rfl⟩:=ry;exact PySem.EqMixed.eq_bool_str (Yc I q (by simp))
  |_=>exact absurd (show jj=je from hs) jI
 |int i=>
  obtain⟨t,rfl⟩:=rx;cases y with
  |non=>cases ry;exact PySem.EqNone.eq_int_none (Yc I q (by simp))
  |int j=>obtain⟨t',rfl⟩:=ry;exact eq_int (Yc I q sf)
  |str j=>obtain⟨t',rfl⟩:=ry;exact PySem.EqMixed.eq_int_str (Yc I q (by simp))
  |_=>exact absurd (show jj=je from hs) jI
 |str i=>
  obtain⟨t,rfl⟩:=rx;cases y with
  |non=>cases ry;exact PySem.EqNone.eq_str_none (Yc I q (by simp))
  |bl j=>cases ry;exact PySem.EqMixed.eq_str_bool (Yc I q (by simp))
  |int j=>obtain⟨t',rfl⟩:=ry;exact PySem.EqMixed.eq_str_int (Yc I q (by simp))
  |str j=>obtain⟨t',rfl⟩:=ry;exact eq_str (Yc I q sj)
  |_=>exact absurd (show jj=je from hs) jI
 |byt i=>
  obtain⟨t,rfl⟩:=rx;cases y with
  |byt j=>obtain⟨t',rfl⟩:=ry;exact PySem.W.eq_bytes (Yc I q sk)
  |_=>exact absurd (show jj=je from hs) jI
 |_=>cases y<;>exact absurd (show jj=je from hs) jI
theorem A0:bK X (qL .NotEq) AY:=by
 intro pins s σ H x y v u Q I rx ry h;obtain⟨hs,q⟩:=h;cases x with
 |non=>
  cases rx;cases y with
  |non=>cases ry;exact PySem.EqNone.ne_none_none (Yc I q (by simp))
  |bl j=>cases ry;exact PySem.EqNone.ne_none_bool (Yc I q (by simp))
  |int j=>obtain⟨t',rfl⟩:=ry;exact PySem.EqNone.ne_none_int (Yc I q (by simp))
  |str j=>obtain⟨t',rfl⟩:=ry;exact PySem.EqNone.ne_none_str (Yc I q (by simp))
  |_=>exact absurd (show jj=je from hs) jI
 |bl i=>
  cases rx;cases y with
  |non=>cases ry;exact PySem.EqNone.ne_bool_none (Yc I q (by simp))
  |bl j=>cases ry;exact ne_bool (Yc I q (congrArg not si))
  |str j=>obtain⟨t',rfl⟩:=ry;exact PySem.EqMixed.ne_bool_str (Yc I q (by simp))
  |_=>exact absurd (show jj=je from hs) jI
 |int i=>
  obtain⟨t,rfl⟩:=rx;cases y with
  |non=>cases ry;exact PySem.EqNone.ne_int_none (Yc I q (by simp))
  |int j=>obtain⟨t',rfl⟩:=ry;exact ne_int (Yc I q (congrArg not sf))
  |str j=>obtain⟨t',rfl⟩:=ry;exact PySem.EqMixed.ne_int_str (Yc I q (by simp))
  |_=>exact absurd (show jj=je from hs) jI
 |str i=>
  obtain⟨t,rfl⟩:=rx;cases y with
  |non=>cases ry;exact PySem.EqNone.ne_str_none (Yc I q (by simp))
  |bl j=>cases ry;exact PySem.EqMixed.ne_str_bool (Yc I q (by simp))
  |int j=>obtain⟨t',rfl⟩:=ry;exact PySem.EqMixed.ne_str_int (Yc I q (by simp))
  |str j=>obtain⟨t',rfl⟩:=ry;exact ne_str (Yc I q (congrArg not sj))
  |_=>exact absurd (show jj=je from hs) jI
 |byt i=>
  obtain⟨t,rfl⟩:=rx;cases y with
  |byt j=>obtain⟨t',rfl⟩:=ry;exact PySem.W.ne_bytes (Yc I q (congrArg not sk))
  |_=>exact absurd (show jj=je from hs) jI
 |_=>cases y<;>exact absurd (show jj=je from hs) jI
theorem A1:bK X (qL .Lt) (eh λi j => .bl (decide (i<j))):=lB λ_ _ _ _ _ _ _ q=>lt_int q
theorem QY:bK X (qL .LtE) (eh λi j => .bl (decide (i<=j))):=lB λ_ _ _ _ _ _ _ q=>le_int q
theorem A5:bK X (qL .Gt) (eh λi j => .bl (decide (j<i))):=lB λ_ _ _ _ _ _ _ q=>gt_int q
theorem A6:bK X (qL .In) (λx y H Q=>∃i j,x = .str i/\y = .str j/\Q (.bl (!(OW j i 0 j.length 1).isEmpty)) H):=by
 intro pins s σ H x y v u Q I rx ry h;obtain⟨i,j,rfl,rfl,q⟩:=h;obtain⟨t,rfl⟩:=rx;obtain⟨t',rfl⟩:=ry;exact in_str (Yc I q rfl)
theorem A7:bK X (qL .NotIn) (λx y H Q=>∃i j,x = .str i/\y = .str j/\Q (.bl (!(!(OW j i 0 j.length 1).isEmpty))) H):=by
 intro pins s σ H x y v u Q I rx ry h;obtain⟨i,j,rfl,rfl,q⟩:=h;obtain⟨t,rfl⟩:=rx;obtain⟨t',rfl⟩:=ry;exact notIn_str (Yc I q rfl)
theorem bK.or{f:jc->jc->Sem jc}{r r':R2}(h:bK X f r)(h':bK X f r'):bK X f (λx y H Q=>r x y H Q\/r' x y H Q):=by
 intro pins s σ H x y v u Q I rx ry q;rcases q with q|q
 . exact h pins s σ H x y v u Q I rx ry q
 . exact h' pins s σ H x y v u Q I rx ry q
theorem XO(b:qA){op:CmpOp}(h:autoParam (op ≠ .In) ad)(h2:autoParam (op ≠ .NotIn) ad):behindInMarks op b=false:=by
 have e1:(op == CmpOp.In)=false:=by cases op<;>first|rfl|exact absurd rfl h
 have e2:(op == WO)=false:=by cases op<;>first|rfl|exact absurd rfl h2
 cases b<;>simp [behindInMarks,e1,e2]
theorem QZ{op:CmpOp}{r:R2}(ho:bK X (qL op) r)(ha:PE X a ta)(hb:PE X b tb)(hm:behindInMarks op b=jj):PE X (.Compare a [op] [b] pos) (gb r ta tb):=by
 intro pins s σ H Q I h;exact wpAny_Compare1 (lz ha hb I h λv u s2 x y H2 I2 rx ry q=>ho pins s2 σ H2 x y v u Q I2 rx ry q) hm
def so(t:TE):TT:=λσ H Q=>t σ H λx H'=>∃k,x = .bl k/\Q k H'
theorem X9{op:CmpOp}{r:R2}(ho:bK X (qL op) r)(ha:PE X a ta)(hb:PE X b tb)(hm:behindInMarks op b=jj):PT X (.Compare a [op] [b] pos) (so (gb r ta tb)):=by
 intro pins s σ H Q I h
 refine v7 (aW (ha pins s σ H _ I h) λv s1 ⟨x,H1,I1,r1,q1⟩=>aW (hb pins s1 σ H1 _ I1 q1) λu s2 ⟨y,H2,I2,r2,q2⟩=>
  aW (ho pins s2 σ H2 x y v u _ I2 r1 r2 q2) λc s3 ⟨z,H3,I3,r3,k,e,q3⟩ => ?_) hm
 subst e;cases r3;exact yn ⟨H3,I3,q3⟩
def sq(r r':R2)(ta tb tc:TE):TE:=λσ H Q=>ta σ H λx H1=>tb σ H1 λy H2=>r x y H2 λz H3=>∃k,z = .bl k /\
 (if k=je then tc σ H3 λw' H4=>r' y w' H4 Q else Q (.bl jj) H3)
theorem sr {op op':CmpOp} {r r':R2} (ho:bK X (qL op) r) (ho':bK X (qL op') r') (ha:PE X a ta) (hb:PE X b tb) (hc:PE X c tc)
 (hm:lastMarks [op,op'] [b,c]=false:=by with_unfolding_all rfl):PE X (.Compare a [op,op'] [b,c] pos) (sq r r' ta tb tc):=by
 intro pins s σ H Q I h
 refine Compare_chain (aW (ha pins s σ H _ I h) λv s1 ⟨x,H1,I1,r1,q1⟩=>chain_link (aW (hb pins s1 σ H1 _ I1 q1) λu s2 ⟨y,H2,I2,r2,q2⟩=>
  aW (ho pins s2 σ H2 x y v u _ I2 r1 r2 q2) λd s3 ⟨z,H3,I3,r3,k,e,q3⟩ => ?_)) hm
 subst e;cases r3;refine yn ?_;cases k with
 |false=>exact ite_ff ⟨.bl jj,H3,I3,rfl,q3⟩
 |true=>exact ite_tt (chain_last (aW (hc pins s3 σ H3 _ I3 q3) λw' s4 ⟨z',H4,I4,r4,q4⟩=>ho' pins s4 σ H4 y z' u w' Q I4 r2 r4 q4))
theorem Q0:(jv:Nat)<2 ^ 63:=by rw [jo];decide
theorem A8:bK X (yl .Add) (λx y H Q=>∃i j,x = .str i/\y = .str j/\i.length+j.length<=jv/\Q (.str (i++j)) H):=by
 intro pins s σ H x y v u Q I rx ry h;obtain⟨i,j,rfl,rfl,hz,q⟩:=h;obtain⟨t,rfl⟩:=rx;obtain⟨t',rfl⟩:=ry;exact add_str (λt' tk=>⟨.str (i++j),H,I.tok _,⟨_,rfl⟩,q⟩) hz
theorem YW{x:V}{us:al jc}(r:aR [x] us):∃u,us=[u]/\RelV x u:=by
 cases r with
 |cons r1 r2=>cases r2;exact⟨_,rfl,r1⟩
theorem UI{x y:V}{us:al jc}(r:aR [x,y] us):∃u w',us=[u,w']/\RelV x u/\RelV y w':=by
 cases r with
 |cons r1 r2=>
  cases r2 with
  |cons r3 r4=>cases r4;exact⟨_,_,rfl,r1,r3⟩
theorem A9(hc:X.calm=je):bg X (.builtin "max") (λxs H Q=>∃i j,xs=[.int i,.int j]/\Q (.int (if j>i then j else i)) H):=by
 intro pins s σ H xs us Q I r h;obtain⟨i,j,rfl,q⟩:=h;obtain⟨u,w',rfl,⟨t,rfl⟩,⟨t',rfl⟩⟩:=UI r;refine max_two_ints (I.ok.hd hc) λh' tk k=>⟨_,H,I.kept k,?_,q⟩
 by_cases hj:j>i
 . rw [if_pos hj,if_pos hj];exact⟨_,rfl⟩
 . rw [if_neg hj,if_neg hj];exact⟨_,rfl⟩
theorem Ba(hc:X.calm=je):bg X (.builtin "min") (λxs H Q=>∃i j,xs=[.int i,.int j]/\Q (.int (if j<i then j else i)) H):=by
 intro pins s σ H xs us Q I r h;obtain⟨i,j,rfl,q⟩:=h;obtain⟨u,w',rfl,⟨t,rfl⟩,⟨t',rfl⟩⟩:=UI r;refine min_two_ints (I.ok.hd hc) λh' tk k=>⟨_,H,I.kept k,?_,q⟩
 by_cases hj:j<i
 . rw [if_pos hj,if_pos hj];exact⟨_,rfl⟩
 . rw [if_neg hj,if_neg hj];exact⟨_,rfl⟩
theorem Bb:bg X (.type "int") (λxs H Q=>(∃i,xs=[.int i]/\Q (.int i) H)\/∃k,xs=[.bl k]/\Q (.int (if k then 1 else 0)) H):=by
 intro pins s σ H xs us Q I r h;rcases h with⟨i,rfl,q⟩|⟨k,rfl,q⟩
 . obtain⟨u,rfl,t,rfl⟩:=YW r
   exact call_int_int ⟨.int i,H,I,⟨_,rfl⟩,q⟩
 . obtain⟨u,rfl,r1⟩:=YW r
   cases r1;exact call_int_bool ⟨.int (if k then 1 else 0),H,I.tok _,⟨_,rfl⟩,q⟩
theorem Bc:bg X (.type "str") (λxs H Q=>∃i,xs=[.int i]/\i.natAbs.log2<1920/\Q (.str (toString i)) H):=by
 intro pins s σ H xs us Q I r h;obtain⟨i,rfl,hz,q⟩:=h;obtain⟨u,rfl,t,rfl⟩:=YW r;exact PySem.P.str_of_int hz ⟨.str _,H,I.tok _,⟨_,rfl⟩,q⟩
end
structure em(h:jX)(x dx C:jf)(mA:Str->Option jc):Prop where
 obj:h.get? x=ja (instObj C dx)
 ns:h.Ns1 dx mA
 ne:dx≠x
theorem ss{h:jX}{mA:Str->am jc}(n:h.Ns1 dx mA):∃od,h.get? dx=ja od/\∀name,OY name od=ja (mA name):=by
 obtain⟨o,es,ep,ho,hd,hk,_,hm⟩:=n;refine⟨o,ho,λname => ?_⟩;have e:=hm name;unfold nsFind findBy at e;rw [<-Array.find?_toList]at e;unfold OY;rw [hd];dsimp only
 split
 . rename_i y q
   rw [q]at e;exact congrArg ja e
 . rename_i q
   rw [q]at e
   have a:es.toList.any (·.refKey)=false:=by
    rw [vX];intro y hy;obtain⟨z,t,hkey⟩:=hk y (Array.mem_toList_iff.mp hy);simp [DictEntry.refKey,hkey]
   have a':¬es.toList.any (·.refKey)=true:=by rw [a];exact jI
   rw [if_neg a'];exact congrArg ja e
theorem em.look{h:jX}{x dx C:jf}{mA:Str->am jc}(I:em h x dx C mA):∃od,vT h x (instObj C dx) C (ja od)/\∀name,OY name od=ja (mA name):=
 let⟨od,ho,hl⟩:=ss I.ns
 ⟨od,⟨I.obj,rfl,rfl,ho⟩,hl⟩
section
variable{prog:jS}{w:jV}{A:qe}{E:jc->jg->Prop}{s:jg}{K:jb}{x dx C f:jf}{mA:Str->am jc}{name:Str}{v:jc}
theorem Be {expr:Bool} {Q:jc->jg->Prop} (X:K.In s.heap) (I:em s.heap x dx C mA) (hg:qO K C name=je) (hh:qr K C=je)
 (ha:jm K (.ref C) name=ja none) (hv:mA name=ja v) (hv':vE v=je) (h:Q v { s with toks:=s.toks+1 }) :
 jJ (model prog w) A (getAttr (.ref x) name expr) Q E s:=by
 obtain⟨od,J,hl⟩:=I.look;exact PySem.W.get_value X J (PySem.W.plainGet_of hg).1 (oX hh ha rfl (by rw [hl,hv])) hv' h
theorem Bf {ns:al Str} {Q:Unit->jg->Prop} (X:K.In s.heap) (I:em s.heap x dx C mA)
 (hs:jm K (.ref C) "__setattr__" = ja (ja (.builtin "object.__setattr__"))) (hp:qS K C=je) (ht:OP K C name=ja none) (hh:qr K C=je)
 (hw:OJ mA ns) (hsz:ns.length<=jv)
 (h:∀h',em h' x dx C (λy=>if y=name then ja v else mA y)->ug dx s.heap h'->Q () { s with heap:=h',toks:=s.toks+2 }) :
 jJ (model prog w) A (setAttr (.ref x) name v) Q E s:=by
 obtain⟨od,J,hl⟩:=I.look;refine vo X J hs (PySem.W.osa_open (s:={ s with toks:=s.toks+1 }) (r:=none) X J hp ht λb => ?_);obtain⟨cd,hc,hd'⟩:=OK hh;have hx:s.heap.get? x=ja ⟨.ref C,ja dx,.plain,#[]⟩:=I.obj;refine jl (jB (jl (jl (o9 hx (jl (O5 (s:={ s with toks:=s.toks+1 }) (oW X hc) ?_))))))
 rw [hd'];refine jB (a:=ja dx) (jl (jB (jl ?_)));refine wpAny_nsSet1 (s:={ s with toks:=s.toks+1 }) I.ns λh' hn2 hs2 => ?_
 obtain⟨oD,esD,epD,hoD,hdD,hcD⟩:=hn2.count (oq name v hw);refine jl (WS hoD (by rw [hdD];exact WT (jK hcD (by rw [jh];omega))) ?_);exact jB (h _ ⟨(hs2.2 _ (qF I.ne)).trans I.obj,hn2,I.ne⟩ hs2)
theorem Bg {R:WB->jg->Prop} {vs:al jc} {kw:al (Str×jc)} (X:K.In s.heap) (hm:yf K C=je)
 (hi:jm K (.ref C) "__init__" = ja (ja (.ref f))) (hf:PySem.W.typeIn K (.ref f)=ja (.type "function"))
 (h:codeAny (model prog w) (A.under (.builtin "type.__call__" ⟨.ref C::vs,kw⟩)) (.call (.ref f) ⟨.ref (s.heap.objs.size+1)::vs,kw⟩) (PySem.W.InitBack (s.heap.objs.size+1) R)
   { s with heap:=(s.heap.push emptyDict).push (instObj C s.heap.objs.size) }) :
 codeAny (model prog w) A (.call (.ref C) ⟨vs,kw⟩) R s:=by
 obtain⟨hh,g,d,t,os⟩:=s;exact PySem.W.make_core (PySem.W.makes_of X hm) (PySem.W.looks_findIn X hi) (λself=>vK X self hf) (.inl rfl) h
end
def YX(f:Str)(v:V):al (Str×V)->al (Str×V)
 | []=>[(f,v)]
 |(g,x)::r=>if g=f then(g,v)::r else(g,x)::YX f v r
theorem su(f g:Str)(v:V):∀fs:al (Str×V),(YX f v fs).lookup g=if g=f then ja v else fs.lookup g
 | []=>by
  show jG g [(f,v)]=_
  by_cases h:g=f
  . have hb:(g == f)=true:=beq_iff_eq.mpr h
    simp only [jG,hb,if_pos h]
  . have hb:(g == f)=false:=beq_eq_false_iff_ne.mpr h
    simp only [jG,hb,if_neg h]
 |(k,x)::r=>by
  have ih:=su f g v r;rw [show YX f v ((k,x)::r)=(if k=f then(k,v)::r else(k,x)::YX f v r)from rfl]
  by_cases hk:k=f
  . rw [if_pos hk]
    by_cases h:g=k
    . have hb:(g == k)=true:=beq_iff_eq.mpr h
      simp only [jG,hb,if_pos (h.trans hk)]
    . have hb:(g == k)=false:=beq_eq_false_iff_ne.mpr h
      simp only [jG,hb,if_neg (λe:g=f=>h (e.trans hk.symm))]
  . rw [if_neg hk]
    by_cases h:g=k
    . have hb:(g == k)=true:=beq_iff_eq.mpr h
      simp only [jG,hb,if_neg (λe:g=f=>hk (h.symm.trans e))]
    . have hb:(g == k)=false:=beq_eq_false_iff_ne.mpr h
      simp only [jG,hb];exact ih
theorem lD(f:Str)(v:V):∀fs:al (Str×V),f∈(YX f v fs).map (·.1)/\∀g,g∈fs.map (·.1)->g∈(YX f v fs).map (·.1)
 | []=>⟨by simp [YX],λg h=>by simp at h⟩
 |(k,x)::r=>by
  obtain⟨i1,i2⟩:=lD f v r;rw [show YX f v ((k,x)::r)=(if k=f then(k,v)::r else(k,x)::YX f v r)from rfl]
  by_cases hk:k=f
  . rw [if_pos hk]
    subst hk;exact⟨by simp,λg h=>by simpa using h⟩
  . rw [if_neg hk]
    refine⟨?_,λg h => ?_⟩
    . rw [jy]
      exact jq _ i1
    . rw [jy]at h ⊢
      rcases jp.mp h with e|e
      . exact List.mem_cons.mpr (.inl e)
      . exact jq _ (i2 g e)
theorem sv(f:Str)(v:V):∀fs:al (Str×V),(YX f v fs).length<=fs.length+1
 | []=>by simp [YX]
 |(k,x)::r=>by
  have ih:=sv f v r;rw [show YX f v ((k,x)::r)=(if k=f then(k,v)::r else(k,x)::YX f v r)from rfl]
  by_cases hk:k=f
  . rw [if_pos hk,jh,jh];omega
  . rw [if_neg hk,jh,jh];omega
theorem c9.some_of{v:V}{o:am jc}(r:c9 (ja v) o):∃u,o=ja u/\RelV v u:=by
 cases o with
 |none=>exact(show False from r).elim
 |some u=>exact⟨u,rfl,r⟩
theorem sw(r:RelV v u):vE u=true:=by
 cases v with
 |non=>cases(show u=ua from r);rfl
 |bl b=>cases(show u=uw b from r);rfl
 |int i=>obtain⟨t,e⟩:=(show ∃t,u=oE i t from r);cases e;rfl
 |str x=>obtain⟨t,e⟩:=(show ∃t,u=uK x t from r);cases e;rfl
 |byt b=>obtain⟨t,e⟩:=(show ∃t,u=WM b t from r);cases e;rfl
 |flt b=>obtain⟨t,e⟩:=(show ∃t,u=vf b t from r);cases e;rfl
 |ref a=>cases(show u=jY a from r);rfl
 |ty n=>cases(show u=uv n from r);rfl
section
variable{P:jS}{w:jV}{H H':Hp}{h h':jX}{a C dx:jf}{fs fs':al (Str×V)}
theorem lE(hok:bS P w H h)(e:H a=ja (.ins C dx fs)):∃mA,em h a dx C mA/\(∀f,c9 (fs.lookup f) (mA f))/\OJ mA (fs.map (·.1))/\fs.length<=1000/\H dx=ja (.own a):=by
 obtain⟨d,z,ne,ob,mA,n,r,q⟩:=(show aZ P w H h a (.ins C dx fs)from hok a _ e)
 exact⟨mA,⟨ob,n,ne⟩,r,q,z,d⟩
end
structure dC(K:jb)(C:jf):Prop where
 pg:qO K C uO=je
 hd:qr K C=je
 po:qS K C=je
 sa:jm K (.ref C) "__setattr__" = ja (ja (.builtin "object.__setattr__"))
theorem dC.get{K:jb}{C:jf}(c:dC K C)(f:Str):qO K C f=true:=c.pg
def cx(K:jb)(C:jf)(f:Str):Prop:=jm K (.ref C) f=ja none
theorem cx.taker{K:jb}{C:jf}{f:Str}(n:cx K C f):OP K C f=ja none:=by
 unfold OP;rw [show jm K (.ref C) f=ja none from n];rfl
section
variable{X:Cx}{pins:al (jf×Obj)}{σ:St}{H:Hp}{s:jg}{a C dx:jf}{fs:al (Str×V)}{f:Str}{v:V}{A:qe}{E:jc->jg->Prop}
theorem Bh {b:Bool} {Q:jc->jg->Prop} (I:Inv X pins σ H s) (e:H a=ja (.ins C dx fs)) (c:dC X.K C) (n:cx X.K C f) (l:fs.lookup f=ja v)
 (h:∀u s',Inv X pins σ H s'->RelV v u->Q u s'):jJ (model X.prog X.w) A (getAttr (.ref a) f b) Q E s:=by
 obtain⟨mA,O,r,_,_,_⟩:=lE I.hok e;obtain⟨u,hu,ru⟩:=c9.some_of (v:=v) (o:=mA f) (by rw [<-l];exact r f);exact Be I.kIn O (c.get f) c.hd n hu (sw ru) (h u _ (I.tok _) ru)
theorem Bi {Q:Unit->jg->Prop} (I:Inv X pins σ H s) (e:H a=ja (.ins C dx fs)) (c:dC X.K C) (n:cx X.K C f) (hl:fs.length<1000) (ry:RelV y u)
 (h:∀s',Inv X pins σ (aV H a (.ins C dx (YX f y fs))) s'->Q () s'):jJ (model X.prog X.w) A (setAttr (.ref a) f u) Q E s:=by
 obtain⟨mA,O,r,wi,_,ho⟩:=lE I.hok e;have hz:(fs.map (·.1)).length<=jv:=by rw [jk,jo];omega
 refine Bf I.kIn O c.sa c.po n.taker c.hd wi hz λh' O' sb=>h _ ?_
 have hd:∃o,h'.get? dx=ja o:=let⟨o,_,_,e',_⟩:=O'.ns;⟨o,e'⟩
 refine I.write (x:=a) (e:=dx) (by rw [e];exact qJ) (.inr ho) (λb q hb z=>(sb.2 b hb).trans z) hd ?_;refine⟨by rw [Zn O.ne];exact ho,?_,O.ne,O'.obj,_,O'.ns,λg => ?_,λg hg => ?_⟩
 . have:=sv f y fs;omega
 . show c9 ((YX f y fs).lookup g) (if g=f then ja u else mA g)
   rw [su]
   by_cases q:g=f
   . rw [if_pos q,if_pos q];exact ry
   . rw [if_neg q,if_neg q];exact r g
 . by_cases q:g=f
   . rw [q];exact(lD f y fs).1
   . refine(lD f y fs).2 g (wi g λz=>hg ?_)
     show(if g=f then ja u else mA g)=none;rw [if_neg q];exact z
theorem Inv.made(I:Inv X pins σ H s):Inv X pins σ (aV (aV H s.heap.objs.size (.own (s.heap.objs.size+1))) (s.heap.objs.size+1) (.ins C s.heap.objs.size []))
 { s with heap:=(s.heap.push emptyDict).push (instObj C s.heap.objs.size) }:=by
 have e1:(s.heap.push emptyDict).get? s.heap.objs.size=ja emptyDict:=jD s.heap rfl
 have e2:((s.heap.push emptyDict).push (instObj C s.heap.objs.size)).get? (s.heap.objs.size+1)=ja (instObj C s.heap.objs.size):=by
  have:=jD (s.heap.push emptyDict) (o:=instObj C s.heap.objs.size) rfl
  rwa [qU]at this
 have e3:(s.heap.push emptyDict).Ns s.heap.objs.size (λ_=>none):=⟨emptyDict,#[],_,e1,rfl,(λe he=>absurd he (by simp)),λ_=>rfl⟩
 have I1:=I.laid (a:=s.heap.objs.size) (o:=.own (s.heap.objs.size+1)) (h':=s.heap.push emptyDict) (t':=s.toks) (λb u q=>ji _ q) (jz _) ⟨_,e1⟩;refine I1.laid (a:=s.heap.objs.size+1) (o:=.ins C s.heap.objs.size []) (t':=s.toks) (λb u q=>ji _ q) (uN (qU _ _)) ?_;have ne:s.heap.objs.size≠s.heap.objs.size+1:=jU (Ob _)
 refine⟨by rw [Zn ne,ZF],yr _,ne,e2,λ_=>none,(vh e3).at λo q=>ji _ q,λ_=>qJ,λy hy=>absurd rfl hy⟩
theorem sx {Q:jc->jg->Prop} (hb:attributeBase e f env (eval e env)=eval e env)
 (h:jJ (model prog w) A (eval e env) (λo s₁=>jJ (model prog w) A (getAttr o f je) Q E s₁) E s):jJ (model prog w) A (eval (.Attribute e f pos) env) Q E s:=
 Attribute_any_ h (by rw [arm_eval_Attribute,hb])
end
def lF(K:jb)(ta:TE)(f:Str):TE:=λσ H Q=>ta σ H λx H1=>∃a C dx fs v,x = .ref a/\H1 a=ja (.ins C dx fs)/\dC K C/\cx K C f/\fs.lookup f=ja v/\Q v H1
def sy(K:jb)(ta tv:TE)(f:Str):TS:=λD σ H=>tv σ H λy H1=>ta σ H1 λx H2=>∃a C dx fs,x = .ref a/\H2 a=ja (.ins C dx fs)/\dC K C/\cx K C f/\fs.length<1000 /\
 D.nx σ (aV H2 a (.ins C dx (YX f y fs)))
section
variable{X:Cx}{o e value:qA}{f:Str}{pos pos' tpos:Pos}{ta tv:TE}
theorem Bj(he:PE X e ta)(hb:attributeBase e f X.env (eval e X.env)=eval e X.env):PE X (.Attribute e f pos) (lF X.K ta f):=by
 intro pins s σ H Q I h;refine sx hb (aW (he pins s σ H _ I h) λu s1 z=>?_);obtain⟨x,H1,I1,rx,a,C,dx,fs,v,ex,ea,c,n,l,q⟩:=z;subst ex;obtain rfl:u=jY a:=rx;exact Bh I1 ea c n l λu' s2 I2 ru=>⟨v,H1,I2,ru,q⟩
theorem XQ(ha:PE X o ta)(hv:PE X value tv)(hs:swapsWith value (ja (.Attribute o f pos')) pos.line X.env=pure jj):PS X (.Assign [.Attribute o f pos'] value pos) (sy X.K ta tv f):=by
 intro pins s σ H D I h;refine oj (aW (hv pins s σ H _ I h) λu s1 ⟨y,H1,I1,ry,q⟩=>aW (ha pins s1 σ H1 _ I1 q) λov s2 z=>?_) hs;obtain⟨x,H2,I2,rx,a,C,dx,fs,ex,ea,c,n,l,q2⟩:=z;subst ex;obtain rfl:ov=jY a:=rx;exact Bi I2 ea c n l ry λs3 I3=>⟨σ,_,I3,q2⟩
end
section
variable{X:Cx}{pins:al (jf×Obj)}{σ:St}{H:Hp}{s:jg}{A:qe}{E:jc->jg->Prop}{Q:jc->jg->Prop}{c:jc}{b:Bool}
inductive cy(K:jb)(H:Hp):V->jc->Prop where
 |non:cy K H .non (.type "NoneType")
 |bl (x:Bool):cy K H (.bl x) (.type "bool")
 |int (i:Int):cy K H (.int i) (.type "int")
 |str (x:Str):cy K H (.str x) (.type "str")
 |flt (x:UInt64):cy K H (.flt x) (.type "float")
 |lst {a:jf} {xs:List V} (e:H a=ja (.lst xs)):cy K H (.ref a) (.type "list")
 |frz {a:jf} {o:Obj} {xs:List V} (e:H a=ja (.frz o (.lst xs))):cy K H (.ref a) (.type "list")
 |tup {a:jf} {xs:List V} (e:H a=ja (.tup xs)):cy K H (.ref a) (.type "tuple")
 |dK {a:jf} {kvs:List (cQ×V)} (e:H a=ja (.dK kvs)):cy K H (.ref a) (.type "dict")
 |dT {a:jf} {kvs:List (List cQ×V)} (e:H a=ja (.dT kvs)):cy K H (.ref a) (.type "dict")
 |ins {a C dx:jf} {fs:List (Str×V)} (e:H a=ja (.ins C dx fs)) (cl:dC K C) (ha:jm K (.ref C) "__class__" = ja (ja (.builtin "object.__class__")))
  (hn:yH K (.builtin "object.__class__") "__get__" = ja (ja (.builtin "getset_descriptor.__get__"))) (htk:OO K (.builtin "object.__class__")=ja je)
  (hm:qE K C (.type "object")=ja je):cy K H (.ref a) (.ref C)
theorem Bk{u t:jc}(I:Inv X pins σ H s)(rx:RelV x u)(ty:cy X.K H x t)(e:ju X.K t c=ja b)(h:∀tk,Q (.bool b) { s with toks:=tk }) :
 jJ (model X.prog X.w) A (call (.builtin "isinstance") [u,c]) Q E s:=by
 cases ty with
 |non=>cases(show u=ua from rx);exact qC PySem.W.kitx_none I.kIn qJ e (λz=>nomatch z) h
 |bl y=>cases(show u=uw y from rx);exact qC PySem.W.kitx_bool I.kIn qJ e (λz=>nomatch z) h
 |int i=>obtain⟨t,q⟩:=(show ∃t,u=oE i t from rx);cases q;exact qC PySem.W.kitx_int I.kIn qJ e (λz=>nomatch z) h
 |str y=>obtain⟨t,q⟩:=(show ∃t,u=uK y t from rx);cases q;exact qC PySem.W.kitx_str I.kIn qJ e (λz=>nomatch z) h
 |flt y=>obtain⟨t,q⟩:=(show ∃t,u=vf y t from rx);cases q;exact qC PySem.W.kitx_float I.kIn qJ e (λz=>nomatch z) h
 | @lst a xs ea=>
  cases(show u=jY a from rx);obtain⟨_,_,n,_,h1⟩:=(show aZ X.prog X.w H s.heap a (.lst xs)from I.hok a _ ea)
  exact qC OB I.kIn ⟨_,h1,rfl⟩ e (λz=>nomatch z) h
 | @frz a ob xs ea=>
  cases(show u=jY a from rx);obtain⟨_,_,_,n,_,h1⟩:=(show aZ X.prog X.w H s.heap a (.frz ob (.lst xs))from I.hok a _ ea)
  exact qC OB I.kIn ⟨_,h1,rfl⟩ e (λz=>nomatch z) h
 | @tup a xs ea=>
  cases(show u=jY a from rx);obtain⟨_,_,_,p⟩:=(show aZ X.prog X.w H s.heap a (.tup xs)from I.hok a _ ea)
  obtain⟨o,h1,h2,_⟩:=p;exact qC PySem.W.kitx_tuple I.kIn ⟨o,h1,h2⟩ e (λz=>nomatch z) h
 | @dK a kvs ea=>
  cases(show u=jY a from rx);obtain⟨_,_,vs,_,p⟩:=(show aZ X.prog X.w H s.heap a (.dK kvs)from I.hok a _ ea)
  obtain⟨o,es,ep,h1,h2,_⟩:=p;exact qC vp I.kIn ⟨o,h1,h2.1⟩ e (λz=>nomatch z) h
 | @dT a kvs ea=>
  cases(show u=jY a from rx);obtain⟨_,_,xs,_,o,es,ep,h1,h2,_⟩:=(show aZ X.prog X.w H s.heap a (.dT kvs)from I.hok a _ ea)
  exact qC vp I.kIn ⟨o,h1,h2.1⟩ e (λz=>nomatch z) h
 | @ins a C dx fs ea cl ha hn htk hm=>
  cases(show u=jY a from rx);obtain⟨mA,O,_⟩:=lE I.hok ea;obtain⟨od,J,_⟩:=O.look;exact qC (PySem.W.kitx_own (cl.get _) cl.hd ha hn htk hm) I.kIn J e (λz=>nomatch z) h
end
structure a4(k:Nat)(A:qe):Prop where
 hd:A.handled=none
 dp:A.depth+3*k+5<recursionLimit
 un:A.units+16*k+200<cLine
theorem a4.mono{j k:Nat}{A:qe}(r:a4 k A)(h:j<=k):a4 j A:=⟨r.hd,by have:=r.dp;omega,by have:=r.un;omega⟩
theorem a4.deeper{k:Nat}{A:qe}(r:a4 (k+1) A)(env:Env):a4 k (A.deeper env):=
 ⟨r.hd,by have:=r.dp;show A.depth+1+3*k+5<_;omega,by have:=r.un;show A.units+3+16*k+200<_;omega⟩
theorem Bl{A:qe}{us:al jc}{kw:al (Str×jc)}:(A.under (.builtin "type.__call__" ⟨.ref C::us,kw⟩)).depth=A.depth+1:=by
 first|rfl|simp [oH,Code.weight,Code.isCreation,Code.isGuard,Code.isCaller,WV,oZ,guardIds]
theorem Bm{A:qe}{us:al jc}{kw:al (Str×jc)}:(A.under (.builtin "type.__call__" ⟨.ref C::us,kw⟩)).units=A.units+1:=by
 first|rfl|simp [oH,Code.cUnits,WV,oZ]
theorem a4.make{k:Nat}{A:qe}(r:a4 (k+1) A)(C:jf)(us:al jc)(kw:al (Str×jc)):a4 k (A.under (.builtin "type.__call__" ⟨.ref C::us,kw⟩)):=
 ⟨r.hd,by have:=r.dp;rw [Bl];omega,by have:=r.un;rw [Bm];omega⟩
theorem a4.depth{k:Nat}{A:qe}(r:a4 k A):A.depth<recursionLimit:=by have:=r.dp;omega
theorem a4.units{k:Nat}{A:qe}(r:a4 k A):A.units+64<cLine:=by have:=r.un;omega
def cF:TA:=λ_ H Q=>Q [] H
def YG(ta:TE)(tr:TA):TA:=λσ H Q=>ta σ H λx H1=>tr σ H1 λxs H2=>Q (x::xs) H2
section
variable{X:Cx}{e:qA}{es:al qA}{te:TE}{t:TA}{pos:Pos}
theorem Zk:PA X [] cF:=λ_ _ _ _ H Q I h=>Calls.spliced_nil ⟨[],H,I,.nil,h⟩
theorem Zc(ha:PE X e te)(hr:PA X es t)(hs:autoParam (starEach (e::es) X.env=(jj,eval e X.env)::starEach es X.env) ah):PA X (e::es) (YG te t):=by
 intro pos pins s σ H Q I h;rw [hs];show jJ _ _ (spliced ((jj,eval e X.env)::backTo pos (starEach es X.env))) _ _ s;refine Calls.spliced_cons (aW (ha pins s σ H _ I h) λu s1 z=>?_);obtain⟨x,H1,I1,r1,q1⟩:=z;exact aW (hr pos pins s1 σ H1 _ I1 q1) λus s2 ⟨xs,H2,I2,r2,q2⟩=>⟨x::xs,H2,I2,.cons r1 r2,q2⟩
def lG(t:TA):TE:=λσ H Q=>t σ H λxs H1=>xs.length<=jv/\∀p,H1 p=none->Q (.ref p) (aV H1 p (.tup xs))
def sA(t:TA):TE:=λσ H Q=>t σ H λxs H1=>xs.length<=jv/\∀p,H1 p=none->Q (.ref p) (aV H1 p (.lst xs))
theorem Q1{x1}(h:PA X es t):PE X (.Tuple es x1 pos) (lG t):=by
 intro pins s σ H Q I hq;refine wpAny_Tuple_spliced (aW (h pos pins s σ H _ I hq) λus s1 ⟨xs,H1,I1,r,z,q⟩=>⟨by rw [<-r.length];exact z,?_⟩);have hf:H1 s1.heap.objs.size=none:=I1.hok.fresh (jz _);refine⟨.ref s1.heap.objs.size,aV H1 s1.heap.objs.size (.tup xs),I1.laid (t':=s1.toks) (λb u e=>ji _ e) (jz _) ?_,rfl,q _ hf⟩;exact⟨z,us,r,⟨_,jD _ rfl,rfl,⟨_,rfl⟩,rfl⟩⟩
theorem UJ(h:PA X es t):PE X (.List es pos) (sA t):=by
 intro pins s σ H Q I hq;refine wpAny_List_spliced (aW (h pos pins s σ H _ I hq) λus s1 ⟨xs,H1,I1,r,z,q⟩=>⟨by rw [<-r.length];exact z,?_⟩);have hf:H1 s1.heap.objs.size=none:=I1.hok.fresh (jz _);refine⟨.ref s1.heap.objs.size,aV H1 s1.heap.objs.size (.lst xs),I1.laid (t':=s1.toks) (λb u e=>ji _ e) (jz _) ?_,rfl,q _ hf⟩;exact⟨z,us,0,r,jD _ rfl⟩
end
abbrev Sp:=al V->Hp->VK->XK->Prop
abbrev dq:=al Env->Hp->jg->XK->jc->jg->Prop
structure dh(P:jS)(w:jV)(K:jb)(mg:Str->Option jc)(base:jX)(A:qe)(outer:List Env)(s:jg)(H:Hp):Prop where
 frames:A.frames=ja outer
 mod:Mod K mg base
 bs:∀b o,base.get? b=ja o->s.heap.get? b=ja o/\H b=none
 bsz:base.objs.size<=s.heap.objs.size
 funs:s.heap.FunFrames base outer
 frf:∀b∈bI outer,H b=none
 hok:bS P w H s.heap
 bare:AllBare s.gens
 tb:lg K H
def CE(outer:al Env)(P:jS)(w:jV)(H:Hp)(s:jg)(Q:VK)(u:jc)(s':jg):Prop:=
 ∃v H',s'.os=s.os/\AllBare s'.gens/\Un (bI outer) [] H H' s.heap s'.heap/\bS P w H' s'.heap/\RelV v u/\Q v H'
def CR(CX:dq)(outer:al Env)(P:jS)(w:jV)(H:Hp)(s:jg)(Q:VK)(E:XK)(r:WB)(s':jg):Prop:=
 match r with
 | .ok (.ret u)=>CE outer P w H s Q u s'
 | .ok _=>False
 | .error e=>CX outer H s E e s'
structure aO(P:jS)(w:jV)(K:jb)(mg:Str->Option jc)(base:jX)(CX:dq)(k:Nat)(f:jf)(fd:qI)(ps:List Str)(sp:Sp):Prop where
 len:∀vs H Q E,sp vs H Q E->vs.length=ps.length
 run:∀(A:qe)(outer:List Env)(s:jg)(H:Hp)(args:Args)(us:List jc)(vs:List V)(Q:VK)(E:XK),a4 k A->dh P w K mg base A outer s H->BindsTo s fd args (ps.zip us)->aR vs us->sp vs H Q E ->
  codeAny (model P w) A (.call (.ref f) args) (CR CX outer P w H s Q E) s
theorem aO.mono{P:jS}{w:jV}{K:jb}{mg:Str->am jc}{base:jX}{CX:dq}{j k:Nat}{f:jf}{fd:qI}{ps:al Str}{sp:Sp}(F:aO P w K mg base CX j f fd ps sp)(h:j<=k) :
 aO P w K mg base CX k f fd ps sp:=⟨F.len,λA outer s H args us vs Q E hr=>F.run A outer s H args us vs Q E (hr.mono h)⟩
theorem aO.imp {P:jS} {w:jV} {K:jb} {mg:Str->am jc} {base:jX} {CX:dq} {k:Nat} {f:jf} {fd:qI} {ps:al Str} {sp sp':Sp} (F:aO P w K mg base CX k f fd ps sp)
 (h:∀vs H Q E,sp' vs H Q E->sp vs H Q E):aO P w K mg base CX k f fd ps sp':=
 ⟨λvs H Q E q=>F.len vs H Q E (h _ _ _ _ q),λA outer s H args us vs Q E hr he hb hv hs=>F.run A outer s H args us vs Q E hr he hb hv (h _ _ _ _ hs)⟩
theorem dh.make{P:jS}{w:jV}{K:jb}{mg:Str->am jc}{base:jX}{A:qe}{outer:al Env}{s:jg}{H:Hp}(e:dh P w K mg base A outer s H)(C:jf)(us:al jc)(kw:al (Str×jc)) :
 dh P w K mg base (A.under (.builtin "type.__call__" ⟨.ref C::us,kw⟩)) outer s H:=⟨by first|exact e.frames|(simpa [oH,Code.envs,oZ,pushEnvs]using e.frames),e.mod,e.bs,e.bsz,e.funs,e.frf,e.hok,e.bare,e.tb⟩
section
variable{X:Cx}{pins:al (jf×Obj)}{σ:St}{H:Hp}{s s':jg}
theorem Inv.tabs(I:Inv X pins σ H s):lg X.K H:=λq hq=>by
 obtain⟨m1,e1⟩:=I.ok.tb q hq;obtain⟨m2,e2⟩:=I.base.tbls _ _ e1;exact⟨m1++m2,by rw [e2,vH]⟩
theorem Inv.env0(I:Inv X pins σ H s):dh X.prog X.w X.K X.mg X.base X.A X.stack s H:=
 ⟨I.ok.frames,I.ok.mod,I.bs,jK I.ok.bsz I.sz,I.stack,I.stkFree,I.hok,I.bare,I.tabs⟩
theorem Inv.after{Q:VK}{u:jc}(I:Inv X pins σ H s)(h:CE X.stack X.prog X.w H s Q u s'):EP X pins σ Q u s':=by
 obtain⟨v,H',os,bare,un,hok,r,q⟩:=h;obtain⟨hh,g,d,t,os'⟩:=s';obtain rfl:os'=s.os:=os;exact⟨v,H',I.call (h':=hh) (g':=g) (d':=d) (t':=t) (ch:=[]) un hok bare (λb z=>absurd z (by simp)),r,q⟩
end
def XB(sp:Sp)(dvs:al V)(E:XK)(t:TA):TE:=λσ H Q=>t σ H λvs H1=>sp (vs++dvs) H1 Q E
def J8(C:jf)(sp:Sp)(dvs:al V)(E:XK)(t:TA):TE:=λσ H Q=>t σ H λvs H1=>∀x dx,H1 x=none->H1 dx=none->dx≠x ->
 sp (.ref x::(vs++dvs)) (aV (aV H1 dx (.own x)) x (.ins C dx [])) (λv H2=>v = .non/\Q (.ref x) H2) E
def Binds(K:jb)(fd:qI)(ps:al Str)(ds:al jc):Prop:=
 ∀(s:jg)(us:al jc),K.In s.heap->(us++ds).length=ps.length->BindsTo s fd ⟨us,[]⟩ (ps.zip (us++ds))
theorem Binds.all{K:jb}{fd:qI}{ps:al Str}(h:∀us:al jc,us.length=ps.length->bindArgs fd ⟨us,[]⟩=pure (ps.zip us)):Binds K fd ps []:=λs us _ hl=>by
 rw [qh]at hl ⊢;exact .of_eq (h us hl)
def Xc(CX:dq)(X:Cx)(E:XK):Prop:=∀(pins:al (jf×Obj))(σ:St)(H:Hp)(s:jg)(e:jc)(s':jg),Inv X pins σ H s->CX X.stack H s E e s'->X.xe e s'
section
variable{X:Cx}{CX:dq}{k:Nat}{f C:jf}{fd:qI}{ps:al Str}{sp:Sp}{dvs:al V}{ds:al jc}{E:XK}{x m:Str}{p pos apos:Pos}{e o:qA}{es:al qA}{ta:TE}{t:TA}
theorem lH {vs:al V} (F:aO X.prog X.w X.K X.mg X.base CX k f fd ps sp) (hr:a4 k X.A) (hb:Binds X.K fd ps ds) (hd:aR dvs ds) (hx:Xc CX X E)
 (I:Inv X pins σ H s) (r:aR vs us) (h:sp (vs++dvs) H Q E):jJ (model X.prog X.w) X.A (call (.ref f) us) (EP X pins σ Q) X.xe s:=by
 have r2:aR (vs++dvs) (us++ds):=r.append hd;have hl:(us++ds).length=ps.length:=by rw [<-r2.length];exact F.len _ _ _ _ h
 refine yL (yM (F.run X.A X.stack s H ⟨us,[]⟩ (us++ds) (vs++dvs) Q E hr I.env0 (hb s us I.kIn hl) r2 h) λr s' hq => ?_);cases r with
 |error e=>exact hx pins σ H s e s' I hq
 |ok fl=>
  cases fl with
  |ret u=>exact I.after hq
  |next=>exact qi hq
  |brk=>exact qi hq
  |cont=>exact qi hq
theorem Yn (F:aO X.prog X.w X.K X.mg X.base CX k f fd ps sp) (hr:a4 k X.A) (hg:Gl X x) (hm:X.mg x=ja (.ref f)) (hk:jM X.K (.ref f)=je) (hb:Binds X.K fd ps ds) (hd:aR dvs ds) (hx:Xc CX X E)
 (ha:PA X (e::es) t) (hdb:autoParam ((x == ("__debug__" : Str))=false) ad) (he:autoParam (starEach (e::es) X.env=(jj,eval e X.env)::starEach es X.env) ah) (hpl:autoParam ((backTo pos (starEach es X.env)).any (·.1)=false) ah) :
 PE X (.Call (.Name x p) (e::es) [] pos) (XB sp dvs E t):=by
 intro pins s σ H Q I h;refine yc (X8 I hg hm ?_ hdb);refine yW (h₀:=X.base) I.ok.mod.kin hk (aW (ha pos pins s σ H _ I h) λus s1 ⟨vs,H1,I1,r,q⟩=>⟨I1.kIn,?_⟩) he hpl;exact lH F hr hb hd hx I1 r q
structure Mk(K:jb)(C f:jf):Prop where
 makes:yf K C=je
 init:jm K (.ref C) "__init__" = ja (ja (.ref f))
 fn:yB K (.ref f)=je
 kp:jM K (.ref C)=je
theorem Bn {H:Hp} {Q:VK} {vs:al V} (M:Mk X.K C f) (F:aO X.prog X.w X.K X.mg X.base CX k f fd ps sp) (hr:a4 (k+1) X.A) (hb:Binds X.K fd ps ds) (hd:aR dvs ds)
 (hx:Xc CX X E) (I:Inv X pins σ H s) (r:aR vs us)
 (h:∀x dx,H x=none->H dx=none->dx≠x->sp (.ref x::(vs++dvs)) (aV (aV H dx (.own x)) x (.ins C dx [])) (λv H2=>v = .non/\Q (.ref x) H2) E) :
 jJ (model X.prog X.w) X.A (call (.ref C) us) (EP X pins σ Q) X.xe s:=by
 have hq:=h (s.heap.objs.size+1) s.heap.objs.size (I.hok.fresh (uV _)) (I.hok.fresh (jz _)) (jU (Ob _));have I2:=Inv.made (C:=C) I;have r2:aR (V.ref (s.heap.objs.size+1)::(vs++dvs)) (jY (s.heap.objs.size+1)::(us++ds)) := .cons rfl (r.append hd)
 have hl:(jY (s.heap.objs.size+1)::us++ds).length=ps.length:=by
  have e:=r2.length;rw [F.len _ _ _ _ hq]at e;exact e.symm
 refine yL (Bg (f:=f) I.kIn M.makes M.init (beq_iff_eq.mp M.fn) (yM (F.run _ X.stack _ _ ⟨jY (s.heap.objs.size+1)::us,[]⟩ (jY (s.heap.objs.size+1)::(us++ds)) _ _ E (hr.make C us [])
  (I2.env0.make C us []) (hb _ (jY (s.heap.objs.size+1)::us) I2.kIn hl) r2 hq) λr s' hq' => ?_))
 cases r with
 |error e=>exact hx pins σ _ _ e s' I2 hq'
 |ok fl=>
  cases fl with
  |ret u=>
   obtain⟨v,H',I3,rv,ev,q3⟩:=I2.after hq';subst ev;exact⟨rv,⟨V.ref (s.heap.objs.size+1),H',I3,rfl,q3⟩⟩
  |next=>exact qi hq'
  |brk=>exact qi hq'
  |cont=>exact qi hq'
theorem Qi (M:Mk X.K C f) (F:aO X.prog X.w X.K X.mg X.base CX k f fd ps sp) (hr:a4 (k+1) X.A) (hg:Gl X x) (hm:X.mg x=ja (.ref C)) (hb:Binds X.K fd ps ds) (hd:aR dvs ds) (hx:Xc CX X E)
 (ha:PA X (e::es) t) (hdb:autoParam ((x == ("__debug__" : Str))=false) ad) (he:autoParam (starEach (e::es) X.env=(jj,eval e X.env)::starEach es X.env) ah) (hpl:autoParam ((backTo pos (starEach es X.env)).any (·.1)=false) ah) :
 PE X (.Call (.Name x p) (e::es) [] pos) (J8 C sp dvs E t):=by
 intro pins s σ H Q I h;refine yc (X8 I hg hm ?_ hdb);refine yW (h₀:=X.base) I.ok.mod.kin M.kp (aW (ha pos pins s σ H _ I h) λus s1 ⟨vs,H1,I1,r,q⟩=>⟨I1.kIn,?_⟩) he hpl;exact Bn M F hr hb hd hx I1 r q
end
def PK(X:Cx)(kws:al Keyword)(t:TA):Prop:=
 ∀(pos:Pos)(pins:al (jf×Obj))(s:jg)(σ:St)(H:Hp)(Q:al V->Hp->Prop),Inv X pins σ H s->t σ H Q->jJ (model X.prog X.w) X.A (evalAll ((backToKw pos (keywordEach kws X.env)).map (·.2))) (AP X pins σ Q) X.xe s
section
variable{X:Cx}{CX:dq}{k:Nat}{f C:jf}{fd:qI}{ps ks:al Str}{sp:Sp}{E:XK}{x m:Str}{p pos apos kpos:Pos}{e o:qA}{es:al qA}{kws:al Keyword}{te ta:TE}{t tk:TA}{nm:am Str}
theorem Bo:PK X [] cF:=λ_ _ _ _ H Q I h=>wpAny_evalAll_nil ⟨[],H,I,.nil,h⟩
theorem Bp(ha:PE X e te)(hr:PK X kws t):PK X (⟨nm,e,kpos⟩::kws) (YG te t):=by
 intro pos pins s σ H Q I h;show jJ _ _ (evalAll ((do let v <-eval e X.env;standAt pos;pure v)::(backToKw pos (keywordEach kws X.env)).map (·.2))) _ _ s;refine wpAny_evalAll_cons (jl (aW (ha pins s σ H _ I h) λu s1 ⟨x,H1,I1,r1,q1⟩=>jl (uJ (jB ?_))));exact aW (hr pos pins s1 σ H1 _ I1 q1) λus s2 ⟨xs,H2,I2,r2,q2⟩=>⟨x::xs,H2,I2,.cons r1 r2,q2⟩
variable{g:al jc->al jc->al jc}{gV:al V->al V->al V}
end
structure aG(N P:List Str)(sc:qH):Prop where
 kind:sc.kind = .function
 co:sc.isCoroutine=jj
 gen:sc.isGenerator=jj
 nd:N.Nodup
 pre:N.take P.length=P
 par:∀x∈P,sc.names.lookup x=ja .local\/sc.names.lookup x=ja .cell
 nofree:∀y∈sc.names,y.2 ≠ .free
theorem sB{kindOf:Str->am qP}{x:Str}:∀{binds:al (Str×jc)}{m:Str->am jc},(∀v,(x,v)∉binds)->bindL kindOf binds m x=m x
 | [],_,_=>rfl
 |(n,v)::r,m,h=>by
  unfold bindL;rw [sB λw hw=>h w (jq _ hw)]
  split
  . have:x≠n:=by rintro rfl;exact h v jr
    simp [this]
  . rfl
theorem sC{kindOf:Str->am qP}{x:Str}:∀{binds:al (Str×jc)}{m:Str->am jc},(∀v,(x,v)∉binds)->bindC kindOf binds m x=m x
 | [],_,_=>rfl
 |(n,v)::r,m,h=>by
  unfold bindC;rw [sC λw hw=>h w (jq _ hw)]
  split
  . rfl
  . have:x≠n:=by rintro rfl;exact h v jr
    simp [this]
theorem sD{kindOf:Str->am qP}{x:Str}{v:jc}:∀{P:al Str}{vs:al jc}{i:Nat}{m:Str->am jc},P.Nodup->P[i]? = ja x->vs[i]? = ja v->kindOf x=ja .local ->
 bindL kindOf (P.zip vs) m x=ja v
 | [],_,_,_,_,h,_,_=>by simp at h
 |_::_,[],_,_,_,_,h,_=>by simp at h
 |p::P,w::vs,0,m,nd,h1,h2,hk=>by
  simp at h1 h2;subst h1;subst h2;show bindL kindOf ((p,w)::P.zip vs) m p=_;unfold bindL;rw [sB λv hv=>(yh.mp nd).1 (uF hv).1,if_pos hk];simp
 |p::P,w::vs,i+1,m,nd,h1,h2,hk=>by
  show bindL kindOf ((p,w)::P.zip vs) m x=_;unfold bindL;exact sD (i:=i) (yh.mp nd).2 (by simpa using h1) (by simpa using h2) hk
theorem sE{kindOf:Str->am qP}{x:Str}{v:jc}:∀{P:al Str}{vs:al jc}{i:Nat}{m:Str->am jc},P.Nodup->P[i]? = ja x->vs[i]? = ja v->kindOf x≠ja .local ->
 bindC kindOf (P.zip vs) m x=ja v
 | [],_,_,_,_,h,_,_=>by simp at h
 |_::_,[],_,_,_,_,h,_=>by simp at h
 |p::P,w::vs,0,m,nd,h1,h2,hk=>by
  simp at h1 h2;subst h1;subst h2;show bindC kindOf ((p,w)::P.zip vs) m p=_;unfold bindC;rw [sC λv hv=>(yh.mp nd).1 (uF hv).1,if_neg hk];simp
 |p::P,w::vs,i+1,m,nd,h1,h2,hk=>by
  show bindC kindOf ((p,w)::P.zip vs) m x=_;unfold bindC;exact sE (i:=i) (yh.mp nd).2 (by simpa using h1) (by simpa using h2) hk
def start(N:al Str)(vs:al V):St:=vs.map ja++jd (N.length-vs.length) none
noncomputable def ZJ(CX:dq)(P:jS)(w:jV)(K:jb)(mg:Str->am jc)(base:jX)(N:al Str)(qual:Str)(scope:qH)(f:jf)(cd:jc)(A:qe)(outer:al Env)(s:jg)(H:Hp)(E:XK):Cx where
 prog:=P
 w:=w
 K:=K
 mg:=mg
 base:=base
 A:=A.deeper (envOfC qual scope s.heap.objs.size f cd)
 N:=N
 s₀:=s
 H₀:=H
 env:=envOfC qual scope s.heap.objs.size f cd
 outer:=outer
 stack:=envOfC qual scope s.heap.objs.size f cd::outer
 ex:=[]
 calm:=je
 fn:=λ_=>je
 pn:=[]
 xe:=λe s'=>jJ (model P w) (A.deeper (envOfC qual scope s.heap.objs.size f cd)) (leaving (envOfC qual scope s.heap.objs.size f cd) e) (λ_ s''=>CX outer H s E e s'') (λe' s''=>CX outer H s E e' s'') s'
theorem sF{sc:qH}{n:Nat}(h:sc.names.lookup x=ja .cell):∃c,(cellsFrom n sc.names []).lookup x=ja c:=by
 have q:=uZ sc.names n [] (.inl h);exact Option.isSome_iff_exists.mp q
theorem sG {K:jb} {N ps:al Str} {scope:qH} {A:qe} {outer:al Env} {s s1:jg} {vs:al V}
 (S:aG N ps scope) (hd:A.handled=none) (e0:dh P w K mg base A outer s H) (hl:vs.length=ps.length) (r:aR vs us)
 (x:InCallC s s.heap.objs.size (bindL (envOfC qual scope s.heap.objs.size f cd).kindOf (ps.zip us) λ_=>none) (cellsFrom (s.heap.objs.size+1) scope.names []) (bindC (envOfC qual scope s.heap.objs.size f cd).kindOf (ps.zip us) λ_=>none) s1) :
 Inv (ZJ CX P w K mg base N qual scope f cd A outer s H E) [] (start N vs) H s1:=by
 have hpl:ps.length<=N.length:=by have:=congrArg yE S.pre;rw [jT]at this;omega
 obtain⟨h1,tk,rfl,hk⟩:=x.done;have noA:∀b:jf,b∉(ZJ CX P w K mg base N qual scope f cd A outer s H E).ex:=λb z=>absurd (show b∈([]:al jf)from z) (by simp)
 refine⟨⟨e0.mod,S.kind,rfl,rfl,jz _,λy z c h1 h2 => ?_,λy hy => ?_,λy c _ h => ?_,λ_=>hd,o0 e0.frames,.inr ⟨rfl,rfl⟩,λb z=>absurd z (noA b),e0.bs,e0.bsz,λb _ _=>noA b,λb z=>absurd z (noA b),e0.funs,e0.frf,e0.tb⟩,
  rfl,e0.bare,Un.kept hk,⟨_,x.toInCall.ns,λi y v h1 h2 h3 => ?_⟩,λy c h=>⟨_,x.cell y c h⟩,e0.hok.fresh (jz _),λy c h => ?_,λp hp=>absurd (show p∈([]:al (jf×Obj))from hp) (by simp),e0.hok.kept hk,?_,λq hq=>absurd (show q∈([]:al (jf×Obj×Str))from hq) (by simp)⟩
 . exact name_of_addr x.apart (j4 h1) (j4 h2)
 . have hy:scope.names.lookup y=ja .cell\/scope.names.lookup y=ja .free:=hy
   rcases hy with hy|hy
   . exact sF hy
   . exact absurd rfl (S.nofree _ (j4 hy))
 . exact uM (x.above y c (j4 h))
 . have hi : i < vs.length := by
    unfold start at h2
    by_cases hi:i<vs.length
    . exact hi
    . rw [qj (by simpa using hi)]at h2
      rw [yg]at h2
      split at h2<;>cases h2
   have ha:vs[i]? = ja v:=by
    unfold start at h2;rw [qp (by simpa using hi),j9]at h2;cases e:vs[i]? with
    |none=>rw [e]at h2;cases h2
    |some a=>rw [e]at h2;cases h2;rfl
   obtain⟨u,hu,rv⟩:=r.get ha
   have hp:ps[i]? = ja y:=by
    rw [<-S.pre,uX (by omega)];exact h1
   have ndP:ps.Nodup:=by rw [<-S.pre];exact S.nd.sublist (vW _ _)
   refine⟨u,rv,?_⟩;rcases S.par y (qK hp)with k|k
   . exact .inl ⟨k,sD ndP hp hu k⟩
   . obtain⟨c,e⟩:=sF (n:=s.heap.objs.size+1) k
     refine .inr ⟨.inl k,c,e,?_⟩;have q:=x.cell y c e;rw [sE ndP hp hu (by show scope.names.lookup y≠_;rw [k];decide)]at q;exact q
 . exact e0.hok.fresh (uM (x.above y c (j4 h)))
 . unfold start
   show _=N.length;rw [jt,jk,jP];omega
theorem J9 {K:jb} {k:Nat} {params:Arguments} {scope:qH} {dV kV doc pm cdv ct oc:jc} {an od:am jf}
 {osl:Array (am jc)} {N ps:al Str} {sp:Sp} (lk:K.lookup f=ja ⟨oc,od,.func (fnOf name qual params body scope dV kV doc pm an cdv ct),osl⟩) (hcd:codeIn K cdv qual=je) (S:aG N ps scope)
 (len:∀vs H Q E,sp vs H Q E->vs.length=ps.length)
 (hbody:∀(A:qe)(outer:al Env)(s:jg)(H:Hp)(vs:al V)(Q:VK)(E:XK),a4 k (A.deeper (envOfC qual scope s.heap.objs.size f cdv))->sp vs H Q E ->
   ∃t,cK (ZJ CX P w K mg base N qual scope f cdv A outer s H E) body t/\t { nx:=λ_ H'=>Q .non H',rt:=Q } (start N vs) H) :
 aO P w K mg base CX (k+1) f (fnOf name qual params body scope dV kV doc pm an cdv ct) ps sp:=by
 refine⟨len,λA outer s H args us vs Q E hr e0 hb r hsp => ?_⟩;have hl:=len _ _ _ _ hsp;have KX:K.In s.heap:=e0.mod.kin.keeps λb o e=>(e0.bs b o e).1
 have lim:s.heap.NoLimit:=e0.mod.nolimit.keeps λb o e=>(e0.bs b o e).1
 have hkind:∀y∈ps.zip us,scope.names.lookup y.1=ja .local\/(scope.names.lookup y.1=ja .cell/\((cellsFrom (s.heap.objs.size+1) scope.names []).lookup y.1).isSome=je):=λ⟨n,v⟩ hy=>by
  rcases S.par n (uF hy).1 with q|q
  . exact .inl q
  . exact .inr ⟨q,uZ _ _ _ (.inl q)⟩
 refine v9 hr.depth (KX _ _ lk) rfl S.co S.gen rfl (vd KX hcd) (hb _ _ _ _ ?_);refine o8 S.kind hkind λenv he s1 x => ?_
 subst he;refine⟨lim.keeps x.toInCall.keep,codeAny_func ?_⟩;obtain⟨t,ht,hq⟩:=hbody A outer s H vs Q E (hr.deeper _) hsp;have I:Inv (ZJ CX P w K mg base N qual scope f cdv A outer s H E) [] (start N vs) H s1:=sG S hr.hd e0 hl r x;refine j7 (ht [] s1 (start N vs) H _ I hq) (λfl s' hs => ?_) λe s' hs=>hs
 have fin:∀{σ':St}{H':Hp}{v:V}{u:jc},Inv (ZJ CX P w K mg base N qual scope f cdv A outer s H E) [] σ' H' s'->RelV v u->Q v H'->CE outer P w H s Q u s':=
  λ{σ' H' v u} J rv q=>⟨v,H',J.os,J.bare,J.base,J.hok,rv,q⟩
 cases fl with
 |ret u=>
  obtain⟨v,σ',H',J,rv,q⟩:=hs;exact fin J rv q
 |next=>
  obtain⟨σ',H',J,q⟩:=hs;exact fin (v:=V.non) (u:=ua) J rfl q
 |brk=>
  obtain⟨_,_,_,q⟩:=hs;exact qi q
 |cont=>
  obtain⟨_,_,_,q⟩:=hs;exact qi q
section
variable{X:Cx}{x:Str}{p pos:Pos}{e:qA}{es:al qA}{t:TA}{id T:String}{r:al V->Hp->VK->Prop}
def fi(r:al V->Hp->VK->Prop)(t:TA):TE:=λσ H Q=>t σ H λvs H1=>r vs H1 Q
theorem YH (hc:bg X (.builtin id) r) (hg:Gl X x) (hm:X.mg x=none) (hv:bootBuiltins x=ja (.builtin id)) (ha:PA X (e::es) t) (hn:x ≠ "__name__" := by decide) (hdb:autoParam ((x == ("__debug__" : Str))=false) ad)
 (he:autoParam (starEach (e::es) X.env=(jj,eval e X.env)::starEach es X.env) ah) (hpl:autoParam ((backTo pos (starEach es X.env)).any (·.1)=false) ah):PE X (.Call (.Name x p) (e::es) [] pos) (fi r t):=by
 intro pins s σ H Q I h;refine yc (Qd I hg hm hv ?_ hn hdb);exact Ot (aW (ha pos pins s σ H _ I h) λus s1 ⟨vs,H1,I1,r1,q1⟩=>hc pins s1 σ H1 vs us Q I1 r1 q1) he hpl
theorem Qj (hc:bg X (.type T) r) (hg:Gl X x) (hm:X.mg x=none) (hv:bootBuiltins x=ja (.type T)) (ha:PA X (e::es) t) (hn:x ≠ "__name__" := by decide) (hdb:autoParam ((x == ("__debug__" : Str))=false) ad)
 (he:autoParam (starEach (e::es) X.env=(jj,eval e X.env)::starEach es X.env) ah) (hpl:autoParam ((backTo pos (starEach es X.env)).any (·.1)=false) ah):PE X (.Call (.Name x p) (e::es) [] pos) (fi r t):=by
 intro pins s σ H Q I h;refine yc (Qd I hg hm hv ?_ hn hdb);exact ut (aW (ha pos pins s σ H _ I h) λus s1 ⟨vs,H1,I1,r1,q1⟩=>hc pins s1 σ H1 vs us Q I1 r1 q1) he hpl
end
end L2
namespace HT
open PySem PyProof.Rows
section
variable{prog:jS}{w:jV}{A:qe}{E:jc->jg->Prop}{s:jg}
noncomputable def cz(n d:Nat):am Int->Nat
 |none=>d
 |some v=>if v<0 then(v+(n:Int)).toNat else min v.toNat n
theorem Bq(n d:Nat)(hd:d<=n)(o:am Int):cz n d o<=n:=by
 cases o with
 |none=>exact hd
 |some v=>
  show(if v<0 then(v+(n:Int)).toNat else min v.toNat n)<=n
  by_cases hv:v<0
  . rw [if_pos hv];omega
  . rw [if_neg hv];exact Wj _ _
theorem sH(v:Int)(n d:Nat):(if v<0 then max (v+(n:Int)) 0 else min v (n:Int))=((cz n d (ja v):Nat):Int):=by
 show(if v<0 then max (v+(n:Int)) 0 else min v (n:Int))=(((if v<0 then(v+(n:Int)).toNat else min v.toNat n):Nat):Int)
 by_cases hv:v<0
 . simp only [if_pos hv];omega
 . simp only [if_neg hv];omega
theorem Br(lo hi:am Int)(n:Nat):uC lo hi 1 (n:Int)=(((cz n 0 lo:Nat):Int),((cz n n hi:Nat):Int)):=by
 have h1:¬((1:Int)<0):=by omega
 unfold uC;simp only [h1,if_false];refine Prod.ext ?_ ?_
 . cases lo with
   |none=>rfl
   |some v=>exact sH v n 0
 . cases hi with
   |none=>rfl
   |some v=>exact sH v n n
theorem Bs(i j:Nat):yJ (i:Int) (j:Int) 1=j-i:=by
 unfold yJ;have h1:(1:Int)>0:=by omega
 simp only [h1,if_true,W0]
 split<;>omega
theorem sI{o:am Int}{Q:am Int->jg->Prop}(p:IsPart v o)(h:Q o s):jJ (model prog w) A (Builtin.Slice.slicePartIndex v) Q E s:=by
 cases p with
 |none=>exact slicePart_none h
 |int i t=>exact slicePart_int h
theorem Bt {lo hi:am Int} {n:Nat} {Q:Int×Int×Nat->jg->Prop} (hs:s.heap.IsSliceOf sl vl vu .none) (pl:IsPart vl lo) (pu:IsPart vu hi)
 (h:Q (((cz n 0 lo:Nat):Int),1,cz n n hi-cz n 0 lo) s):jJ (model prog w) A (OC (.ref sl) (pure (n:Int))) Q E s:=by
 obtain⟨os,hos,hcs,hds⟩:=id hs;unfold OC Builtin.Slice.sliceFields;refine jl (jl (uL hos hds (x:=vl) rfl (jl (uL hos hds (x:=vu) rfl (jl (uL hos hds (x:=.none) rfl (jB ?_)))))));refine jl (slicePart_none ?_);show jJ _ _ (if((1:Int) == 0)=je then _ else _) _ _ s;rw [if_neg (by decide)]
 refine jl (sI pl (jl (sI pu (jl (jB ?_)))));show jJ _ _ (match uC lo hi 1 (n:Int)with|(lo,hi)=>pure (lo,(1:Int),yJ lo hi 1)) _ _ s;rw [Br lo hi n];show jJ _ _ (pure (((cz n 0 lo:Nat):Int),(1:Int),yJ ((cz n 0 lo:Nat):Int) ((cz n n hi:Nat):Int) 1)) _ _ s;rw [Bs]
 exact jB h
theorem Bu(xs:Array jc)(i k:Nat):((qG k).filterMap λ(m:Nat)=>xs[((i:Int)+(m:Int)*1).toNat]?).toArray=((xs.toList.drop i).take k).toArray:=by
 have e:(λ(m:Nat)=>xs[((i:Int)+(m:Int)*1).toNat]?)=λm=>xs[i+m]? := by
  funext m
  have:((i:Int)+(m:Int)*1).toNat=i+m:=by omega
  rw [this]
 rw [e];have:=pick_run xs i k;rw [List.filterMap_map]at this;have e2:((λx=>xs[x]?)∘λx=>i+x)=λm=>xs[i+m]? := rfl
 rw [e2]at this;rw [this]
theorem dQ {items:Array jc} {lo hi:am Int} {Q:jc->jg->Prop} (ht:IsTup s.heap t items) (hs:s.heap.IsSliceOf sl vl vu .none) (pl:IsPart vl lo) (pu:IsPart vu hi)
 (hw:¬(cz items.size 0 lo=0/\cz items.size items.size hi=items.size))
 (h:Q (.ref s.heap.objs.size) { s with heap:=s.heap.push { cls := .type "tuple",data := .seq ((items.toList.drop (cz items.size 0 lo)).take (cz items.size items.size hi-cz items.size 0 lo)).toArray } })
 (hsz:items.size<=jv):jJ (model prog w) A (getItem (.ref t) (.ref sl)) Q E s:=by
 have htake:sizeOk (.seq ((items.toList.drop (cz items.size 0 lo)).take (cz items.size items.size hi-cz items.size 0 lo)).toArray):=by
  show((items.toList.drop (cz items.size 0 lo)).take (cz items.size items.size hi-cz items.size 0 lo)).toArray.size<=jv;rw [jN,jT,qw,Ow];omega
 have hj:cz items.size items.size hi<=items.size:=Bq _ _ (jz _) hi;obtain⟨os,hos,hcs,hds⟩:=id hs;have hTs:s.TypeIs (.ref sl) "slice" := ⟨os,hos,hcs⟩
 unfold getItem
 try with_reducible refine yA ?_
 first|refine jl (jB ?_)|skip
 refine jl (wpAny_sequenceKey ht.typeIs (by decide) ?_)
 refine jl (wpAny_callSpecial?_slot (name:=jE "__getitem__") ht.typeIs Op
  (wpAny_call_entry Op ht.typeIs entry_tuple_getitem ?_ (args_tuple_getitem _ _)))
 show jJ _ _ (Builtin.Tuple.tupleItemsOf (.ref t) >>= _) _ _ s;refine jl (tupleItemsOf_ ht ?_);refine jl (wpAny_typeOf hTs ?_);rw [if_pos (by decide)];refine jl (Bt hs pl pu ?_)
 have hno:¬((((cz items.size 0 lo:Nat):Int) == 0&&(1:Int) == 1&&(cz items.size items.size hi-cz items.size 0 lo) == items.size)=je):=by
  intro q;rw [jF,jF]at q;have q1:((cz items.size 0 lo:Nat):Int)=0:=eq_of_beq q.1.1;have q2:cz items.size items.size hi-cz items.size 0 lo=items.size:=eq_of_beq q.2;exact hw ⟨by omega,by omega⟩
 show jJ _ _ (if(((cz items.size 0 lo:Nat):Int) == 0&&(1:Int) == 1&&(cz items.size items.size hi-cz items.size 0 lo) == items.size)=je then _ else _) _ _ s;rw [if_neg hno,Bu]
 first
  |exact jl (m:=yN _) (uA (jB ⟨_,rfl,jB h⟩) htake)
  |exact jl (m:=yN _) (uA (jl (jB (jB ⟨_,rfl,jB h⟩))) htake)
  |exact jl (jl (m:=yN _) (uA (jB (jB ⟨_,rfl,jB h⟩)) htake))
  |exact jl (jl (m:=yN _) (uA (jB ⟨_,rfl,jB h⟩) htake))
end
end HT
namespace L2
open PySem PySem.Spec PyProof.Rows
abbrev TO:=St->Hp->(am Int->Hp->Prop)->Prop
def PO(X:Cx)(e:am qA)(t:TO):Prop:=
 ∀(pins:al (jf×Obj))(s:jg)(σ:St)(H:Hp)(Q:am Int->Hp->Prop),Inv X pins σ H s->t σ H Q ->
  jJ (model X.prog X.w) X.A (evalPart e X.env) (λu s'=>∃o H',Inv X pins σ H' s'/\IsPart u o/\Q o H') X.xe s
def dR:TO:=λ_ H Q=>Q none H
def sJ(t:TE):TO:=λσ H Q=>t σ H λx H1=>∃i,x = .int i/\Q (ja i) H1
section
variable{X:Cx}{e:qA}{te:TE}{lo hi:am qA}{tl th:TO}{pos p2:Pos}
theorem lI:PO X none dR:=by
 intro pins s σ H Q I h;rw [evalPart_none];exact jB ⟨none,H,I,.none,h⟩
theorem lJ(h:PE X e te):PO X (ja e) (sJ te):=by
 intro pins s σ H Q I hw;rw [evalPart_some];refine aW (h pins s σ H _ I hw) λu s1 z=>?_;obtain⟨x,H1,I1,r1,q1⟩:=z
 obtain⟨i,rfl,q⟩:=q1;obtain⟨t,rfl⟩:=r1;exact⟨ja i,H1,I1,.int i t,q⟩
def fj(X:Cx)(r:V->am Int->am Int->Hp->VK->Prop):Prop:=
 ∀(pins:al (jf×Obj))(s:jg)(σ:St)(H:Hp)(x:V)(v vl vu:jc)(lo hi:am Int)(sl:jf)(Q:VK),Inv X pins σ H s->RelV x v->s.heap.IsSliceOf sl vl vu .none->IsPart vl lo->IsPart vu hi->r x lo hi H Q ->
  ∃T id,Ww (.type T) "__getitem__" = pure (ja (.builtin id))/\s.TypeIs v T/\jJ (model X.prog X.w) X.A (getItem v (.ref sl)) (EP X pins σ Q) X.xe s
theorem fj.or{r r':V->am Int->am Int->Hp->VK->Prop}(h:fj X r)(h':fj X r'):fj X (λx lo hi H Q=>r x lo hi H Q\/r' x lo hi H Q):=by
 intro pins s σ H x v vl vu lo hi sl Q I rx hs pl pu q;rcases q with q|q
 . exact h pins s σ H x v vl vu lo hi sl Q I rx hs pl pu q
 . exact h' pins s σ H x v vl vu lo hi sl Q I rx hs pl pu q
def lK(r:V->am Int->am Int->Hp->VK->Prop)(te:TE)(tl th:TO):TE:=λσ H Q=>te σ H λx H1=>tl σ H1 λl H2=>th σ H2 λu H3=>r x l u H3 Q
theorem lL{r:V->am Int->am Int->Hp->VK->Prop}(hr:fj X r)(he:PE X e te)(hl:PO X lo tl)(hu:PO X hi th):PE X (.Subscript e (.Slice lo hi none p2) pos) (lK r te tl th):=by
 intro pins s σ H Q I h;refine WD (aW (he pins s σ H _ I h) λv s1 z=>?_);obtain⟨x,H1,I1,r1,q1⟩:=z;refine wpAny_Slice (aW (hl pins s1 σ H1 _ I1 q1) λvl s2 ⟨l,H2,I2,pl,q2⟩=>aW (hu pins s2 σ H2 _ I2 q2) λvu s3 z=>?_);obtain⟨u,H3,I3,pu,q3⟩:=z;rw [evalPart_none];refine jB ?_;have I4:Inv X pins σ H3 { s3 with heap:=s3.heap.push { cls := .type "slice",data := .fields #[vl,vu,.none] } }:=I3.kept (t':=s3.toks) λb ob q=>ji _ q
 obtain⟨T,id,hT,ht,hg⟩:=hr pins { s3 with heap:=s3.heap.push { cls := .type "slice",data := .fields #[vl,vu,.none] } } σ H3 x v vl vu l u s3.heap.objs.size Q I4 r1 (Heap.IsSliceOf.new ..) pl pu q3;show jJ (model X.prog X.w) X.A (subscriptTail e (.Slice lo hi none p2) v (.ref s3.heap.objs.size)) (EP X pins σ Q) X.xe { s3 with heap:=s3.heap.push { cls := .type "slice",data := .fields #[vl,vu,.none] } }
 exact tail_any (ops:=[.ref s3.heap.objs.size,v]) ht hT hg (by with_unfolding_all rfl)
def Ul(xs:al V)(lo hi:am Int):al V:=(xs.drop (HT.cz xs.length 0 lo)).take (HT.cz xs.length xs.length hi-HT.cz xs.length 0 lo)
theorem sK(xs:al V)(lo hi:am Int):(Ul xs lo hi).length<=xs.length:=by
 unfold Ul;rw [jT,qw];omega
def sL(K:jb):V->am Int->am Int->Hp->VK->Prop:=λx lo hi H Q=>∃a xs,x = .ref a/\cm K H a xs /\
 ¬(HT.cz xs.length 0 lo=0/\HT.cz xs.length xs.length hi=xs.length)/\∀p,H p=none->Q (.ref p) (aV H p (.tup (Ul xs lo hi)))
theorem Bv:fj X (sL X.K):=by
 intro pins s σ H x v vl vu lo hi sl Q I rx hs pl pu h;obtain⟨a,xs,rfl,hx,hw,q⟩:=h;cases rx;obtain⟨its,r,ht,hz⟩:=I.tuple hx;have hlen:its.toArray.size=xs.length:=by rw [jN];exact r.length.symm
 refine⟨"tuple",_,PyProof.Rows.slot_tuple_getitem.lookup,ht.typeIs,?_⟩;refine HT.dQ ht hs pl pu (by rw [hlen];exact hw) ?_ (by rw [hlen];exact hz);rw [hlen];refine⟨.ref s.heap.objs.size,_,I.laid (t':=s.toks) (o:=.tup (Ul xs lo hi)) (λb ob q=>ji _ q) (jz _) ?_,rfl,q _ (I.hok.fresh (jz _))⟩;exact⟨jK (sK xs lo hi) hz,_,(r.drop (HT.cz xs.length 0 lo)).take (HT.cz xs.length xs.length hi-HT.cz xs.length 0 lo),dG.new _ _⟩
end
noncomputable def gd(n:Nat)(i:Int):am Nat:=if 0<=i then(if i<n then ja i.toNat else none)else if -(n:Int)<=i then ja (i+n).toNat else none
def cR{α:Type}(xs:al α)(i:Int):am α:=(gd xs.length i).bind λj=>xs[j]?
theorem Bx{n:Nat}{i:Int}{j:Nat}(h:gd n i=ja j):seqIndex? i n=ja j/\j<n /\ -(n:Int)<=i/\i<n:=by
 unfold gd at h
 by_cases h0:0<=i
 . rw [if_pos h0]at h
   by_cases h1:i<n
   . rw [if_pos h1]at h
     have e:i.toNat=j:=jx h;exact⟨by rw [seqIndex_of h0 h1,e],by omega,by omega,h1⟩
   . rw [if_neg h1]at h;cases h
 . rw [if_neg h0]at h
   by_cases h1 : -(n:Int)<=i
   . rw [if_pos h1]at h
     have e:(i+n).toNat=j:=jx h;exact⟨by rw [seqIndex_neg (by omega) h1,e],by omega,h1,by omega⟩
   . rw [if_neg h1]at h;cases h
theorem lM{α:Type}{xs:al α}{i:Int}{v:α}(h:cR xs i=ja v):∃j,seqIndex? i xs.length=ja j/\xs[j]? = ja v/\j<xs.length /\ -(xs.length:Int)<=i/\i<xs.length:=by
 unfold cR at h;cases e:gd xs.length i with
 |none=>rw [e]at h;cases h
 |some j=>
  rw [e]at h;obtain⟨h1,h2,h3,h4⟩:=Bx e;exact⟨j,h1,h,h2,h3,h4⟩
theorem gY{α:Type}{xs:al α}{j:Nat}{v:α}(h:xs[j]? = ja v):cR xs (j:Int)=ja v:=by
 have hj:j<xs.length:=(jL.mp h).1
 have e:gd xs.length (j:Int)=ja j:=by
  unfold gd;rw [if_pos (by omega),if_pos (by omega)];simp
 unfold cR;rw [e];exact h
def By(b:qA):Prop:=∀o i,subscripted b jj o i=operate [o,i] (getItem o i)
def eS(X:Cx)(r:R2):Prop:=
 ∀(value slice:qA)(pins:al (jf×Obj))(s:jg)(σ:St)(H:Hp)(x y:V)(v u:jc)(Q:VK),Inv X pins σ H s->RelV x v->RelV y u->r x y H Q ->
  subscripted slice jj v u=operate [v,u] (getItem v u)->jJ (model X.prog X.w) X.A (subscriptTail value slice v u) (EP X pins σ Q) X.xe s
def ge(X:Cx)(id:String)(r:V->al V->Hp->VK->Prop):Prop:=
 ∀(pins:al (jf×Obj))(s:jg)(σ:St)(H:Hp)(x:V)(xs:al V)(v:jc)(us:al jc)(Q:VK),Inv X pins σ H s->RelV x v->aR xs us->r x xs H Q ->
  jJ (model X.prog X.w) X.A (call (.builtin id) (v::us)) (EP X pins σ Q) X.xe s
section
variable{X:Cx}{a b:qA}{ta tb:TE}{pos:Pos}
theorem eS.or{r r':R2}(h:eS X r)(h':eS X r'):eS X (λx y H Q=>r x y H Q\/r' x y H Q):=by
 intro value slice pins s σ H x y v u Q I rx ry q hs;rcases q with q|q
 . exact h value slice pins s σ H x y v u Q I rx ry q hs
 . exact h' value slice pins s σ H x y v u Q I rx ry q hs
theorem XD{r:R2}(hr:eS X r)(ha:PE X a ta)(hb:PE X b tb)(hs:By b):PE X (.Subscript a b pos) (gb r ta tb):=by
 intro pins s σ H Q I h;exact WD (lz ha hb I h λv u s2 x y H2 I2 rx ry q=>hr a b pins s2 σ H2 x y v u Q I2 rx ry q (hs _ _))
def sM(K:jb):R2:=λx y H Q=>∃p xs i v,x = .ref p/\y = .int i/\bv K H p xs/\cR xs i=ja v/\Q v H
def sN(K:jb):R2:=λx y H Q=>∃p xs i v,x = .ref p/\y = .int i/\cm K H p xs/\cR xs i=ja v/\Q v H
def lO:R2:=λx y H Q=>∃z i c,x = .str z/\y = .int i/\z.length<=jv/\cR z.cps.toList i=ja c/\Q (.str ⟨#[c]⟩) H
theorem fq:eS X (sM X.K):=by
 intro value slice pins s σ H x y v u Q I rx ry h hs;obtain⟨p,xs,i,z,rfl,rfl,hq,he,q⟩:=h;cases rx;obtain⟨t,rfl⟩:=ry;obtain⟨its,r,pl,hz⟩:=I.list hq;obtain⟨j,h1,h2,h3,h4,h5⟩:=lM he;obtain⟨w,ew,rw'⟩:=r.get h2;have hl:=r.length;have hn:=Q0;have fin:EP X pins σ Q w s:=⟨z,H,I,rw',q⟩
 by_cases h0:0<=i
 . have hj : i.toNat = j := by
    rw [seqIndex_of h0 h5]at h1;exact jx h1
   exact item_listR pl.isList h0 (by omega) (by rw [hj];simpa using ew) fin hs
 . have hj : (i + (its.toArray.size : Int)).toNat = j := by
    rw [seqIndex_neg (by omega) h4]at h1;rw [jN,<-hl];exact jx h1
   exact vV (x:=w) pl.isList.typeIs WJ.lookup
    (wpAny_getItem_list_neg (Q:=λr s'=>r=w/\EP X pins σ Q r s') pl.isList (by omega) (by rw [jN]<;>omega) (by omega) (by rw [hj];simpa using ew) ⟨rfl,fin⟩) hs
theorem cS:eS X (sN X.K):=by
 intro value slice pins s σ H x y v u Q I rx ry h hs;obtain⟨p,xs,i,z,rfl,rfl,hq,he,q⟩:=h;cases rx;obtain⟨t,rfl⟩:=ry;obtain⟨its,r,pl,hz⟩:=I.tuple hq;obtain⟨j,h1,h2,h3,h4,h5⟩:=lM he;obtain⟨w,ew,rw'⟩:=r.get h2;have hl:=r.length;have hn:=Q0;have fin:EP X pins σ Q w s:=⟨z,H,I,rw',q⟩
 exact vV (x:=w) pl.typeIs slot_tuple_getitem.lookup
  (getItem_tuple (j:=j) (Q:=λr s'=>r=w/\EP X pins σ Q r s') pl (by omega) (by omega) (by rw [jN,<-hl];exact h1) (by simpa using ew) ⟨rfl,fin⟩) hs
theorem Bz:eS X lO:=by
 intro value slice pins s σ H x y v u Q I rx ry h hs;obtain⟨z,i,c,rfl,rfl,hz,he,q⟩:=h;obtain⟨t,rfl⟩:=rx;obtain⟨t',rfl⟩:=ry;obtain⟨j,h1,h2,h3,h4,h5⟩:=lM he;have hl:z.cps.toList.length=z.length:=by simp [uU]
 rw [hl]at h1 h4 h5;have hn:=Q0
 exact tail_any (uY s z t) slot_str_getitem.lookup (getItem_str (c:=c) (by
  have e1:decide (i < -(2 ^ 63:Int))=false:=decide_eq_false (by omega);have e2:decide (i ≥ 2 ^ 63)=false:=decide_eq_false (by omega);rw [e1,e2,WF]) (by rw [h1];simpa using h2) ⟨.str ⟨#[c]⟩,H,I.tok _,⟨_,rfl⟩,q⟩) hs
theorem BA(lo hi:am Int)(n:Nat):(sliceBounds lo hi none n).1=((HT.cz n 0 lo:Nat):Int)/\(sliceBounds lo hi none n).2.1=((HT.cz n n hi:Nat):Int)/\(sliceBounds lo hi none n).2.2=1:=by
 refine⟨?_,?_,rfl⟩
 . cases lo with
   |none=>simp [sliceBounds,HT.cz]
   |some i=>
    simp only [sliceBounds,HT.cz,vL,show(1:Int)>0 by decide,if_true]
    by_cases h:i<0
    . simp only [h,if_true]<;>omega
    . simp only [h,if_false]<;>omega
 . cases hi with
   |none=>simp [sliceBounds,HT.cz]
   |some i=>
    simp only [sliceBounds,HT.cz,vL,show(1:Int)>0 by decide,if_true]
    by_cases h:i<0
    . simp only [h,if_true]<;>omega
    . simp only [h,if_false]<;>omega
theorem BB(its:al jc)(lo hi:am Int):slicePick its.toArray lo hi none=((its.drop (HT.cz its.length 0 lo)).take (HT.cz its.length its.length hi-HT.cz its.length 0 lo)).toArray:=by
 obtain⟨h1,h2,h3⟩:=BA lo hi its.toArray.size;unfold slicePick;rw [h1,h2,h3];simp only [sliceRange_one,pick_run,jN]<;>rfl
def sO(K:jb):V->am Int->am Int->Hp->VK->Prop:=λx lo hi H Q=>∃a xs,x = .ref a/\bv K H a xs/\∀p,H p=none->Q (.ref p) (aV H p (.lst (Ul xs lo hi)))
theorem fu:fj X (sO X.K):=by
 intro pins s σ H x v vl vu lo hi sl Q I rx hs pl pu h;obtain⟨a,xs,rfl,hx,q⟩:=h;cases rx;obtain⟨its,r,ht,hz⟩:=I.list hx;have hlen:=r.length;refine⟨"list",_,WJ.lookup,ht.isList.typeIs,?_⟩;refine wpAny_getItem_list_slice ht.isList hs pl pu .none (by simp) ?_ (by rw [jN]<;>omega);rw [BB,<-hlen];refine⟨.ref s.heap.objs.size,_,I.laid (t':=s.toks) (o:=.lst (Ul xs lo hi)) (λb ob q=>ji _ q) (jz _) ?_,rfl,q _ (I.hok.fresh (jz _))⟩
 exact⟨jK (sK xs lo hi) hz,_,0,(r.drop (HT.cz xs.length 0 lo)).take (HT.cz xs.length xs.length hi-HT.cz xs.length 0 lo),jD _ rfl⟩
def Vr:V->Bool
 | .non=>je
 | .bl _=>je
 | .int _=>je
 | .str _=>je
 |_=>jj
noncomputable def fN:V->V->Bool
 | .non,.non=>je
 | .bl a,.bl b=>a == b
 | .bl a,.int b=>(if a then 1 else 0) == b
 | .int a,.bl b=>a == (if b then 1 else 0)
 | .int a,.int b=>a == b
 | .str a,.str b=>a == b
 |_,_=>jj
theorem BC(ry:RelV y u)(rx:RelV x v)(fy:Vr y=je)(fx:Vr x=je):WU A s u v (fN y x):=by
 cases y with
 |non=>
  cases ry;cases x with
  |non=>cases rx;exact SeqAt.EqAt.same _
  |bl b=>cases rx;exact SeqAt.EqAt.none_bool b
  |int b=>obtain⟨t,rfl⟩:=rx;exact SeqAt.EqAt.none_int b t
  |str b=>obtain⟨t,rfl⟩:=rx;exact SeqAt.EqAt.none_str b t
  |_=>exact absurd (show jj=je from fx) jI
 |bl a=>
  cases ry;cases x with
  |non=>cases rx;exact SeqAt.EqAt.bool_none a
  |bl b=>cases rx;exact SeqAt.EqAt.bool_bool a b
  |int b=>obtain⟨t,rfl⟩:=rx;exact SeqAt.EqAt.bool_int a b t
  |str b=>obtain⟨t,rfl⟩:=rx;exact SeqAt.EqAt.bool_str a b t
  |_=>exact absurd (show jj=je from fx) jI
 |int a=>
  obtain⟨t',rfl⟩:=ry;cases x with
  |non=>cases rx;exact SeqAt.EqAt.int_none a t'
  |bl b=>cases rx;exact SeqAt.EqAt.int_bool a t' b
  |int b=>obtain⟨t,rfl⟩:=rx;exact SeqAt.EqAt.int_int a t' b t
  |str b=>obtain⟨t,rfl⟩:=rx;exact oG a t' b t
  |_=>exact absurd (show jj=je from fx) jI
 |str a=>
  obtain⟨t',rfl⟩:=ry;cases x with
  |non=>cases rx;exact SeqAt.EqAt.str_none a t'
  |bl b=>cases rx;exact SeqAt.EqAt.str_bool a t' b
  |int b=>obtain⟨t,rfl⟩:=rx;exact oF a t' b t
  |str b=>obtain⟨t,rfl⟩:=rx;exact SeqAt.EqAt.str_str a t' b t
  |_=>exact absurd (show jj=je from fx) jI
 |_=>exact absurd (show jj=je from fy) jI
def dH(x:V)(u:jc):Bool:=match u with
 | .none=>fN .non x
 | .bool b=>fN (.bl b) x
 | .int i _=>fN (.int i) x
 | .str z _=>fN (.str z) x
 |_=>jj
theorem sP(r:RelV y u)(f:Vr y=je):dH x u=fN y x:=by
 cases y with
 |non=>cases r;rfl
 |bl b=>cases r;rfl
 |int i=>obtain⟨t,rfl⟩:=r;rfl
 |str z=>obtain⟨t,rfl⟩:=r;rfl
 |_=>exact absurd (show jj=je from f) jI
theorem Q2:∀{xs:al V}{us:al jc},aR xs us->xs.all Vr=je->us.any (dH x)=xs.any λy=>fN y x:=by
 intro xs us p;induction p with
 |nil=>intro _;rfl
 |cons r t ih=>intro f;rw [yw,jF]at f;rw [oJ,oJ,sP r f.1,ih f.2]
theorem Q3(rx:RelV x v)(fx:Vr x=je):∀{xs:al V}{us:al jc},aR xs us->xs.all Vr=je->∀u∈us,WU A s u v (dH x u)
 |_,_,.nil,_=>λu hu=>by cases hu
 |y::xs,u::us,.cons r t,f=>λu' hu=>by
  rw [yw,jF]at f;rcases jp.mp hu with rfl|hu
  . rw [sP r f.1];exact BC r rx f.1 fx
  . exact Q3 rx fx t f.2 u' hu
def eN(x:V)(xs:al V):Bool:=xs.any λy=>fN y x
def lP(K:jb)(neg:Bool):R2:=λx y H Q=>∃p xs,y = .ref p/\(bv K H p xs\/cm K H p xs)/\Vr x=je/\xs.all Vr=je/\Q (.bl (if neg then !eN x xs else eN x xs)) H
theorem BD:bK X (qL .In) (lP X.K jj):=by
 intro pins s σ H x y v u Q I rx ry h;obtain⟨p,xs,rfl,hq,fx,fs,q⟩:=h;cases ry;rcases hq with hq|hq
 . obtain⟨its,r,pl,hz⟩:=I.list hq
   refine SeqAt.in_listAt (dH x) pl.isList (λw hw=>Q3 rx fx r fs w (by simpa using hw)) ⟨.bl _,H,I,rfl,?_⟩;rw [show its.toArray.any (dH x)=its.any (dH x) by simp,Q2 r fs];exact q
 . obtain⟨its,r,pl,hz⟩:=I.tuple hq
   refine SeqAt.in_tupleAt (dH x) pl (λw hw=>Q3 rx fx r fs w (by simpa using hw)) ⟨.bl _,H,I,rfl,?_⟩;rw [show its.toArray.any (dH x)=its.any (dH x) by simp,Q2 r fs];exact q
theorem BE:bK X (qL .NotIn) (lP X.K je):=by
 intro pins s σ H x y v u Q I rx ry h;obtain⟨p,xs,rfl,hq,fx,fs,q⟩:=h;cases ry;rcases hq with hq|hq
 . obtain⟨its,r,pl,hz⟩:=I.list hq
   refine SeqAt.notIn_listAt (dH x) pl.isList (λw hw=>Q3 rx fx r fs w (by simpa using hw)) ⟨.bl _,H,I,rfl,?_⟩;rw [show its.toArray.any (dH x)=its.any (dH x) by simp,Q2 r fs];exact q
 . obtain⟨its,r,pl,hz⟩:=I.tuple hq
   refine SeqAt.notIn_tupleAt (dH x) pl (λw hw=>Q3 rx fx r fs w (by simpa using hw)) ⟨.bl _,H,I,rfl,?_⟩;rw [show its.toArray.any (dH x)=its.any (dH x) by simp,Q2 r fs];exact q
theorem BF:bg X (.builtin "len") (λxs H Q=>∃p ys,xs=[.ref p]/\(bv X.K H p ys\/cm X.K H p ys)/\Q (.int ys.length) H):=by
 intro pins s σ H xs us Q I r h;obtain⟨p,ys,rfl,hq,q⟩:=h;obtain⟨u,rfl,rx⟩:=YW r;cases rx;have hn:=Q0;rcases hq with hq|hq
 . obtain⟨its,r',pl,hz⟩:=I.list hq
   have hlen:=r'.length;exact Calls.call_len_list pl.isList (by simp only [jN]<;>omega) ⟨.int ys.length,H,I.tok _,⟨s.toks+1,by rw [jN,hlen]⟩,q⟩
 . obtain⟨its,r',pl,hz⟩:=I.tuple hq
   have hlen:=r'.length;exact len_tuple pl (by simp only [jN]<;>omega) ⟨.int ys.length,H,I.tok _,⟨s.toks+1,by rw [jN,hlen]⟩,q⟩
theorem BG:bg X (.builtin "len") (λxs H Q=>∃z,xs=[.str z]/\z.length<=jv/\Q (.int z.length) H):=by
 intro pins s σ H xs us Q I r h;obtain⟨z,rfl,hz,q⟩:=h;obtain⟨u,rfl,t,rfl⟩:=YW r;have hn:=Q0;exact len_str (by omega) ⟨.int z.length,H,I.tok _,⟨_,rfl⟩,q⟩
theorem BH:bg X (.type "list") (λxs H Q=>∃p ys,xs=[.ref p]/\(bv X.K H p ys\/cm X.K H p ys)/\∀l,H l=none->Q (.ref l) (aV H l (.lst ys))):=by
 intro pins s σ H xs us Q I r h;obtain⟨p,ys,rfl,hq,q⟩:=h;obtain⟨u,rfl,rx⟩:=YW r;cases rx
 have fin:∀(its:al jc),aR ys its->ys.length<=jv->∀(h':jX)(c':Nat),(∀b o',s.heap.get? b=ja o'->h'.get? b=ja o') ->
  h'.get? s.heap.objs.size=ja { cls := .type "list",dict:=none,data := .seq its.toArray c',slots := #[] }->EP X pins σ Q (.ref s.heap.objs.size) { s with heap:=h' }:=λits r' hz h' c' kp e=>
  ⟨.ref s.heap.objs.size,_,I.laid (t':=s.toks) kp (jz _) (show aZ X.prog X.w _ h' _ (.lst ys)from⟨hz,its,c',r',e⟩),rfl,q _ (I.hok.fresh (jz _))⟩
 rcases hq with hq|hq
 . obtain⟨its,r',pl,hz⟩:=I.list hq
   have hlen:=r'.length;obtain⟨o,ho,hc,n,hd⟩:=pl.isList;exact call_list_seq p (.inl rfl) ho hc hd (λh' c' kp e=>fin its r' hz h' c' kp e) (by simp only [jN]<;>omega)
 . obtain⟨its,r',pl,hz⟩:=I.tuple hq
   have hlen:=r'.length;obtain⟨o,ho,hc,n,hd⟩:=pl;exact call_list_seq p (.inr rfl) ho hc hd (λh' c' kp e=>fin its r' hz h' c' kp e) (by simp only [jN]<;>omega)
theorem BI:bg X (.type "tuple") (λxs H Q=>∃p ys,xs=[.ref p]/\((bv X.K H p ys/\∀l,H l=none->Q (.ref l) (aV H l (.tup ys)))\/(cm X.K H p ys/\Q (.ref p) H))):=by
 intro pins s σ H xs us Q I r h;obtain⟨p,ys,rfl,h⟩:=h;obtain⟨u,rfl,rx⟩:=YW r;cases rx;rcases h with⟨hq,q⟩|⟨hq,q⟩
 . obtain⟨its,r',pl,hz⟩:=I.list hq
   have hlen:=r'.length;refine call_tuple_list pl.isList (λh' kp => ?_) (by simp only [jN]<;>omega);have I1:Inv X pins σ H { s with heap:=h' }:=I.kept (t':=s.toks) kp
   have I2:Inv X pins σ (aV H h'.objs.size (.tup ys)) { s with heap:=h'.push { cls := .type "tuple",data := .seq its.toArray } }:=
    I1.laid (t':=s.toks) (λb o e=>ji _ e) (jz _) (show aZ X.prog X.w _ _ _ (.tup ys)from⟨hz,its,r',dG.new _ _⟩)
   exact⟨.ref h'.objs.size,_,I2,rfl,q _ (I1.hok.fresh (jz _))⟩
 . obtain⟨its,r',pl,hz⟩:=I.tuple hq
   exact call_tuple_same pl ⟨.ref p,H,I,rfl,q⟩
def sQ(K:jb)(T:String)(x:V)(H:Hp):Prop:=match x with
 | .str _=>T = "str"
 | .int _=>T = "int"
 | .ref p=>(T = "list" /\ ∃xs,bv K H p xs)\/(T = "tuple" /\ ∃o,K.lookup p=ja o/\o.cls = .type "tuple" /\ o.dict=none) \/
  (T = "dict" /\ ((∃kvs,H p=ja (.dK kvs))\/∃kvs,H p=ja (.dT kvs)))\/(T = "set" /\ ∃S n,H p=ja (.set S n))\/(T = "tuple" /\ ∃xs,H p=ja (.tup xs))
 |_=>False
theorem BJ{s:jg}{T:String}{v:jc}(I:Inv X pins σ H s)(r:RelV x v)(ty:sQ X.K T x H) :
 s.TypeIs v T/\∀a,v = .ref a->∃ob,s.heap.get? a=ja ob/\ob.dict=none:=by
 cases x with
 |str z=>
  obtain⟨t,rfl⟩:=r;cases(show T = "str" from ty);exact⟨uY s z t,λ_ e=>nomatch e⟩
 |int i=>
  obtain⟨t,rfl⟩:=r;cases(show T = "int" from ty);exact⟨Wx s i t,λ_ e=>nomatch e⟩
 |ref p=>
  cases r;rcases ty with⟨rfl,xs,hq⟩|⟨rfl,o,hk,hc,hd⟩|⟨rfl,hk⟩|⟨rfl,S,n,hk⟩|⟨rfl,xs,hk⟩
  . obtain⟨its,_,pl,_⟩:=I.list hq
    refine⟨pl.isList.typeIs,λa e => ?_⟩;cases e;obtain⟨o,n,e,c,hd,_⟩:=pl;exact⟨o,e,hd⟩
  . refine⟨⟨o,I.kIn p o hk,hc⟩,λa e => ?_⟩
    cases e;exact⟨o,I.kIn _ o hk,hd⟩
  . have z : ∃ o, s.heap.get? p = ja o /\ o.ExactDict := by
     rcases hk with⟨kvs,hk⟩|⟨kvs,hk⟩
     . obtain⟨_,_,_,_,o,_,_,e,ex,_⟩:=I.hok p _ hk
       exact⟨o,e,ex⟩
     . obtain⟨_,_,_,_,o,_,_,e,ex,_⟩:=I.hok p _ hk
       exact⟨o,e,ex⟩
    obtain⟨o,e,ex⟩:=z;refine⟨⟨o,e,ex.1⟩,λa e2 => ?_⟩;cases e2;exact⟨o,e,ex.2.1⟩
  . obtain⟨o,_,_,_,e,ex,_⟩:=I.hok p _ hk
    refine⟨⟨o,e,ex.1⟩,λa e2 => ?_⟩;cases e2;exact⟨o,e,ex.2.1⟩
  . obtain⟨_,its,_,o,e,c,_,dn⟩:=(show aZ X.prog X.w H s.heap p (.tup xs)from I.hok p _ hk)
    refine⟨⟨o,e,c⟩,λa e2 => ?_⟩;cases e2;exact⟨o,e,dn⟩
 |_=>exact qi ty
def gq(K:jb)(T:String)(r:V->al V->Hp->VK->Prop)(to:TE)(t:TA):TE:=λσ H Q=>to σ H λx H1=>sQ K T x H1/\t σ H1 λxs H2=>r x xs H2 Q
variable{o e:qA}{es:al qA}{to:TE}{t:TA}{name:Str}{apos cpos:Pos}{T id:String}{r:V->al V->Hp->VK->Prop}
theorem BK (pa:PlainAttrs T) (slot:Slot T name id) (hty:typeOf (.builtin id)=pure (.type "method_descriptor")) (hm:ge X id r) (ho:PE X o to) (ha:PA X (e::es) t)
 (hbase:autoParam (attributeBase o name X.env (eval o X.env)=eval o X.env) ah)
 (hfew:autoParam (((backTo cpos (starEach (e::es) X.env)).all (λx => !x.1)&&(backToKw cpos (keywordEach [] X.env)).all (λx=>x.1.isSome)
   && decide ((e::es).length+([]:al Keyword).length+(if([]:al Keyword).isEmpty then 0 else 1)<30))=true) ah)
 (hline:autoParam ((apos.endLine == cpos.line)=true) ah) (hs:autoParam (starEach (e::es) X.env=(jj,eval e X.env)::starEach es X.env) ah) (hplain:autoParam ((backTo cpos (starEach es X.env)).any (·.1)=false) ah) :
 PE X (.Call (.Attribute o name apos) (e::es) [] cpos) (gq X.K T r to t):=by
 intro pins s σ H Q I h;refine wpAny_Call_method_late hbase hfew hline rfl (aW (ho pins s σ H _ I h) λv s1 z=>?_);obtain⟨x,H1,I1,r1,ty,q1⟩:=z;obtain⟨h1,h2⟩:=BJ I1 r1 ty;refine⟨T,id,pa,slot,hty,h1,h2,?_⟩;have hA:=ha cpos pins s1 σ H1 _ I1 q1;rw [hs]at hA ⊢;refine Calls.callWith_builtin (by show(jj||(backTo cpos (starEach es X.env)).any (·.1))=jj;rw [hplain]<;>rfl) (vi ?_)
 exact aW hA λus s2 ⟨vs,H2,I2,r2,q2⟩=>hm pins s2 σ H2 x vs v us Q I2 r1 r2 q2
end
def lQ(X:Cx)(id:String)(r:V->al V->Hp->VK->Prop):Prop:=
 ∀(pins:al (jf×Obj))(s:jg)(σ:St)(H:Hp)(x:V)(xs:al V)(v:jc)(us:al jc)(Q:VK),Inv X pins σ H s->RelV x v->aR xs us->r x xs H Q ->
  jJ (model X.prog X.w) X.A (call (.builtin id) (v::us)) (EP X pins σ Q) X.xe s
theorem aR.one:∀{x:V}{us:al jc},aR [x] us->∃u,us=[u]/\RelV x u:=by
 intro x us h;cases h with
 |cons r t=>cases t;exact⟨_,rfl,r⟩
theorem aR.two:∀{x y:V}{us:al jc},aR [x,y] us->∃u v,us=[u,v]/\RelV x u/\RelV y v
 |_,_,_,.cons r (.cons q .nil)=>⟨_,_,rfl,r,q⟩
theorem aR.rep{xs:al V}{us:al jc}(h:aR xs us):∀k:Nat,aR (jd k xs).flatten (jd k us).flatten
 |0 => .nil
 |k+1=>by
  rw [qz,qz,qW,qW];exact aR.append h (aR.rep h k)
theorem sR(its:al jc):∀(k:Nat)(acc:al jc),
 vN (λx1 x2=>x1++x2) acc.toArray (jd k its.toArray)=(acc++(jd k its).flatten).toArray
 |0,acc=>by simp
 |k+1,acc=>by
  have e:acc.toArray++its.toArray=(acc++its).toArray:=by simp
  have e2:(acc++its)++(jd k its).flatten=acc++(jd (k+1) its).flatten:=by
   rw [qz,qW,qX]
  rw [<-e2,<-sR its k (acc++its),<-e,qz,Wk]
section
variable{X:Cx}{pins:al (jf×Obj)}{σ:St}{H:Hp}{s:jg}{l b:jf}{xs ys zs:al V}
theorem Inv.lset {its its':al jc} {n:Nat} {f:Array jc->Array jc} {t':Nat} (I:Inv X pins σ H s) (hH:H l=ja (.lst xs))
 (e:s.heap.get? l=ja { cls := .type "list",data := .seq its.toArray n }) (hf:f its.toArray=its'.toArray) (hv:aR ys its') (hz:ys.length<=jv) :
 Inv X pins σ (aV H l (.lst ys)) { s with heap:=s.heap.update l (Obj.mapSeq f),toks:=t' }:=by
 have q:=PySem.IsL.update e f;rw [hf]at q;refine I.write (x:=l) (e:=l) (by rw [hH];exact trivial) (.inl rfl) (λb' u hb hu=>(uf s.heap (Obj.mapSeq f) (qF hb)).trans hu) ⟨_,q⟩ ?_;exact⟨hz,its',_,hv,q⟩
theorem Inv.lnew{its:al jc}{t':Nat}(I:Inv X pins σ H s)(hv:aR ys its)(hz:ys.length<=jv) :
 Inv X pins σ (aV H s.heap.objs.size (.lst ys)) { s with heap:=s.heap.push { cls := .type "list",data := .seq its.toArray },toks:=t' }:=
 I.laid (λ_ _ q=>ji _ q) (jz _) ⟨hz,its,0,hv,jD _ rfl⟩
theorem Inv.fresh(I:Inv X pins σ H s):H s.heap.objs.size=none:=I.hok.fresh (jz _)
theorem Inv.lstM(I:Inv X pins σ H s)(hH:H l=ja (.lst xs)):xs.length<=jv/\∃(its:al jc) (n:Nat),aR xs its/\xs.length=its.length/\s.heap.get? l=ja { cls := .type "list",data := .seq its.toArray n }:=by
 obtain⟨z,its,n,r,e⟩:=I.hok l _ hH;exact⟨z,its,n,r,r.length,e⟩
theorem sS{n:Nat}(h:n<=jv):yO n=false:=by
 unfold yO;exact decide_eq_false (by omega)
end
section
variable{X:Cx}
def dS:V->al V->Hp->VK->Prop:=λx vs H Q=>∃l xs y,x = .ref l/\vs=[y]/\H l=ja (.lst xs)/\xs.length<jv/\Q .non (aV H l (.lst (xs++[y])))
theorem sT:lQ X "list.append" dS:=by
 intro pins s σ H x vs v us Q I rx rv h;obtain⟨l,xs,y,rfl,rfl,hH,hz,q⟩:=h;cases rx;obtain⟨u,rfl,ru⟩:=rv.one;obtain⟨z,its,n,r,hl,e⟩:=I.lstM hH;refine um F.slot_list_append ⟨_,e,rfl⟩ F.entry_list_append (F.args_list_append_2 _ _) (PySem.list_append l its.toArray n u (by rw [jN];omega)) ⟨e,?_⟩;refine⟨.non,_,I.lset (its':=its++[u]) hH e (by simp) (r.append (.cons ru .nil)) ?_,rfl,q⟩
 rw [jt,qo];omega
def dU:V->al V->Hp->VK->Prop:=λx vs H Q=>∃l b xs zs,x = .ref l/\vs=[.ref b]/\H l=ja (.lst xs)/\H b=ja (.lst zs)/\xs.length+zs.length<=jv/\Q .non (aV H l (.lst (xs++zs)))
theorem BL:lQ X "list.extend" dU:=by
 intro pins s σ H x vs v us Q I rx rv h;obtain⟨l,b,xs,zs,rfl,rfl,hH,hB,hz,q⟩:=h;cases rx;obtain⟨u,rfl,ru⟩:=rv.one;cases ru;obtain⟨z,its,n,r,hl,e⟩:=I.lstM hH;obtain⟨z2,its2,n2,r2,hl2,e2⟩:=I.lstM hB;have hsz:its.toArray.size+its2.toArray.size<=jv:=by rw [jN,jN];omega
 have hlong:¬(!its.toArray.isEmpty&&yO (its.toArray.size+its2.toArray.size))=true:=by
  rw [sS hsz,uR];exact jI
 refine um F.slot_list_extend ⟨_,e,rfl⟩ F.entry_list_extend (F.args_list_extend_2 _ _)
  (AutoSeq1.list_extend_list_list_0 l its.toArray n b its2.toArray n2 hlong (by rw [jN];omega) (by omega)) ⟨e,e2,?_⟩
 refine⟨.non,_,I.lset (its':=its++its2) hH e (by simp) (r.append r2) ?_,rfl,q⟩;rw [jt];omega
def gE:R2:=λx y H Q=>∃l b xs zs,x = .ref l/\y = .ref b/\H l=ja (.lst xs)/\H b=ja (.lst zs)/\xs.length+zs.length<=jv/\∀p,H p=none->Q (.ref p) (aV H p (.lst (xs++zs)))
theorem BM:bK X (yl .Add) gE:=by
 intro pins s σ H x y v u Q I rx ry h;obtain⟨l,b,xs,zs,rfl,rfl,hH,hB,hz,q⟩:=h;cases rx;cases ry;obtain⟨z,its,n,r,hl,e⟩:=I.lstM hH;obtain⟨z2,its2,n2,r2,hl2,e2⟩:=I.lstM hB;refine PySem.P.add_list e e2 ?_ (by rw [jN,jN];omega);have ea:its.toArray++its2.toArray=(its++its2).toArray:=by simp
 rw [ea];exact⟨.ref _,_,I.lnew (t':=s.toks) (r.append r2) (by rw [jt];omega),rfl,q _ I.fresh⟩
theorem BN{α:Type}(xs:al α)(k:Nat):(jd k xs).flatten.length=k*xs.length:=by
 induction k with
 |zero=>simp
 |succ k ih=>rw [qz,qW,jt,ih,Nat.succ_mul,Om]
end
section
variable{prog:jS}{w:jV}{A:qe}{E:jc->jg->Prop}{s:jg}
set_option maxRecDepth 100000 in
end
end L2
namespace Att
open PySem PySem.W PySem.Calls PyProof.Rows
theorem BO{P:Params}:∀(ns:al Int)(vs:al jc),WellAll P h vs (ns.map W5)->IntsAre vs ns:=by
 intro ns
 induction ns with
 |nil=>
  intro vs w;rw [Oi]at w;cases w;exact .nil
 |cons n ns ih=>
  intro vs w;rw [jy]at w;cases w with
  |cons a b=>
   cases a;exact .cons _ _ (ih _ b)
theorem BP {l:OpenLaw} {n:Nat} (hn:l.most=ja n) {P:Params} {h:jX} {args:al WData} {vals:al jc}
 (hpre:l.row.toRowW.claim.pre args=je) (hwl:WellAll P h vals args) :
 ∃a vs ns,vals=[jY a]/\args=[WData.list (ns.map W5)]/\h.get? a=ja { cls := .type "list",data := .seq vs.toArray }/\IntsAre vs ns/\ns.length<=n:=by
 have hsh:WShape.hasAll [] args [.list .int]=true:=(pre_splitW hpre).1;have hc:l.pre.holds [] { args:=args }=true:=(pre_splitW hpre).2;obtain⟨d,r,rfl,h1,h2⟩:=hasAllW_cons hsh;obtain rfl:=hasAllW_nil h2;obtain⟨xs,rfl,h3⟩:=hasW_list h1;obtain⟨ns,rfl⟩:=items_int h3
 have hlen:ns.length<=n:=by
  unfold OpenLaw.pre at hc
  have h4:(WTm.not (.lt (.lit (.int (n:Int))) (.len (.arg 0)))).holds [] { args:=[.list (ns.map .int)] }=true:=by
   have h4:=(holds_andW hc).1;rw [hn]at h4;exact h4
  have h5:=condW_of h4 (w_not (w_lt w_lit (w_len_list (w_arg rfl))));rw [jk]at h5;refine Nat.le_of_not_lt λq => ?_
  have q':(n:Int)<((ns.length:Nat):Int):=by omega
  first
   |(rw [decide_eq_true q']at h5;exact absurd h5 (by decide))
   |(simp at h5;omega)
 cases hwl with
 |cons w1 w2=>
  cases w2;cases w1 with
  |list ho hall=>exact⟨_,_,ns,rfl,rfl,ho,BO ns _ hall,hlen⟩
theorem BQ(l:OpenLaw)(args:al WData):l.row.toRowW.claim.post args (.bool je) args=true:=
 postW_of (r:=l.row.toRowW) (X:=(je == je))
  (show WL [] (.bool je) .bool=je by first|rfl|decide|simp [WL,WShape.arms,WShape.armsAll])
  (show(WTm.eq .res (.lit (.bool je))).value [] { args:=args,res:=ja (.bool je),after:=args }=ja (.bool (je == je))from w_eq_bool (w_res rfl) w_lit) rfl
theorem fP {l:OpenLaw} {n:Nat} {XP:(Str->am jc)->jX->Prop} {YP:jV->jX->Prop} {d:DefRec}
 (hn:l.most=ja n) (hdf:d.params.defaults=[])
 (call:∀(w:jV)(s₀ s₁:jg)(mg mb:Str->am jc)(fa:jf)(o:Obj)(pm cd doc:jc)(a:jf)(vs:al jc)(ns:al Int),
   Ground q loose [] XP w s₀ mg mb s₁.heap->YP w s₁.heap ->
   s₁.heap.get? fa=ja o->o.data = .func (docDef d.name d.params d.body d.scope pm cd doc)->s₁.heap.CodeRec cd d.name->mg d.name=ja (.ref fa) ->
   s₁.heap.get? a=ja { cls := .type "list",data := .seq vs.toArray }->IntsAre vs ns->ns.length<=n->s₁.gens = #[] ->
   codeAny (model l.prog w) callerA (.call (.ref fa) ⟨[.ref a],[]⟩) (λr s'=>r = .ok (.ret (.bool je))/\OldK s₁.heap s'.heap/\s'.os=s₁.os/\AllBare s'.gens) s₁) :
 WalkO q loose XP YP l.row.toRowW d [] (λf vs=>vD f vs):=by
 intro w s₀ s₁ mg mb G Y fa o pm cd doc dV kV ho hd hcd hD hmg hg args vals as hpre hlay hrd hwl hlo;obtain rfl:dV = .none:=Dflts.none hD hdf;obtain rfl:kV = .none:=Dflts.noKw hD;obtain⟨a,vs,ns,rfl,rfl,hobj,hints,hlen⟩:=BP hn hpre hwl;refine enter_call (yM (call w s₀ s₁ mg mb fa o pm cd doc a vs ns G Y ho (fd_plain hd) hcd hmg hobj hints hlen hg) λr s' hq => ?_);obtain⟨rfl,h2,h3,h4⟩:=hq
 exact⟨.inl ⟨.bool je,.bool je,[],rfl,λ_=>rfl,.bool je,BQ l _,λ_=>⟨List.Pairwise.nil,λ_ hm=>(nomatch hm)⟩⟩,h2,h3,h4⟩
end Att
namespace L2
open PySem PySem.Spec PyProof.Rows
theorem BR:∀{vs:al jc}{ns:al Int},IntsAre vs ns->aR (ns.map V.int) vs:=by
 intro vs ns p;induction p with
 |nil=>exact .nil
 |cons n t h ih=>exact .cons ⟨t,rfl⟩ ih
def Um(s:qv)(j:Nat):qv:=match s with
 | .ClassDef _ _ _ body _ _ _ _ _ _ _=>body.getD j (.Pass ⟨0,0,0,0⟩)
 |_ => .Pass ⟨0,0,0,0⟩
def ba(s:qv):Arguments:=match s with
 | .FunctionDef _ a _ _ _ _ _ _ _ _=>a
 |_=>{ posonlyargs:=[],args:=[],vararg:=none,kwonlyargs:=[],kw_defaults:=[],kwarg:=none,defaults:=[] }
noncomputable def aN(s:qv):al qv:=match s with
 | .FunctionDef _ _ b _ _ _ _ _ _ _=>b
 |_=>[]
def aA(s:qv):qH:=match s with
 | .FunctionDef _ _ _ _ _ _ sc _ _ _=>sc
 |_=>{ kind := .function,names:=[],isGenerator:=jj,isCoroutine:=jj }
abbrev bF:dq:=λ_ _ _ _ _ _=>False
noncomputable abbrev E0:XK:=λ_ _ _=>False
theorem Xv:Xc bF X E0:=λ_ _ _ _ _ _ _ h=>h.elim
structure dI(K:jb)(x qual:Str)(st:qv)(f:jf)(fd:qI):Prop where
 ex:∃(oc:jc) (od:Option jf) (kV doc pm:jc) (an:Option jf) (cdv ct:jc) (osl:Array (Option jc)),
  fd=fnOf x qual (ba st) (aN st) (aA st) .none kV doc pm an cdv ct/\K.lookup f=ja ⟨oc,od,.func fd,osl⟩/\codeIn K cdv qual=je
 kp:jM K (.ref f)=je
section
variable{P:jS}{w:jV}{K:jb}{mg:Str->am jc}{base:jX}
theorem dI.binds {x qual:Str} {st:qv} {f:jf} {fd:qI} {ps:al Str} (F:dI K x qual st f fd)
 (h:∀(kV doc pm:jc)(an:am jf)(cdv ct:jc)(us:al jc),us.length=ps.length->bindArgs (fnOf x qual (ba st) (aN st) (aA st) .none kV doc pm an cdv ct) ⟨us,[]⟩=pure (ps.zip us)):Binds K fd ps []:=by
 obtain⟨oc,od,kV,doc,pm,an,cdv,ct,osl,rfl,lk,hcd⟩:=F.ex;exact .all (h kV doc pm an cdv ct)
theorem bL {st:qv} {oc:jc} {od an:am jf} {osl:Array (am jc)} {kV doc pm cdv ct:jc} (l:K.lookup f=ja ⟨oc,od,.func (fnOf x qual (ba st) (aN st) (aA st) .none kV doc pm an cdv ct),osl⟩)
 (c:codeIn K cdv qual=je) (k:jM K (.ref f)=je):dI K x qual st f (fnOf x qual (ba st) (aN st) (aA st) .none kV doc pm an cdv ct):=⟨⟨oc,od,kV,doc,pm,an,cdv,ct,osl,rfl,l,c⟩,k⟩
end
section
variable{X:Cx}
theorem pv (i:Nat) {x:Str} (hN:autoParam (X.N[i]? = ja x) ah) (hv:fZ X.env.scope x:=by first|exact j8 rfl|exact qg (j8 rfl)|exact qg (qg rfl)) (hd:autoParam ((x == ("__debug__" : Str))=false) ad)
 (hcd:autoParam ((x == ("__classdict__" : Str))=false) ad):PE X (.Name x pos) (Xu i):=lj hN hv hd hcd
end
theorem Va{A B:Prop}(h:B):if jj=je then A else B:=by
 rw [if_neg jI];exact h
theorem XZ{A B:Prop}(h:A):if je=je then A else B:=by
 rw [if_pos rfl];exact h
def aH(H H':Hp):Prop:=∀b o,H b=ja o->H' b=ja o
theorem aH.refl(H:Hp):aH H H:=λ_ _ h=>h
theorem aH.trans{H H1 H2:Hp}(a:aH H H1)(b:aH H1 H2):aH H H2:=λc o h=>b c o (a c o h)
theorem aH.free{H H':Hp}(e:aH H H'){l:jf}(h:H' l=OU):H l=OU:=by
 cases q:H l with
 |none=>rfl
 |some o=>
  rw [e l o q]at h;cases h
theorem aH.seq{K:jb}{H H':Hp}{a:jf}{xs:al V}(e:aH H H')(h:bv K H a xs):bv K H' a xs:=by
 rcases h with(h|⟨o,h⟩)|h
 . exact .inl (.inl (e _ _ h))
 . exact .inl (.inr ⟨o,e _ _ h⟩)
 . exact .inr h
section
variable{prog:jS}{w:jV}{A:qe}{R:WB->jg->Prop}{s:jg}
theorem BS {elt target iter:qA} {ifs:al qA} {scope:qH} {it acc:jc} (I:Nat->jg->Prop)
 (turn:∀n s,I n s->jJ (model prog w) A (pyNext it) (λr s₁=>match r with
   |none=>R (.ok .next) s₁
   |some v=>jJ (model prog w) A (letOwnedTupleGo target it v) (λ_ s₀=>jJ (model prog w) A (assign target env v) (λ_ s₂=>
    jJ (model prog w) A (forIn ifs je λc r=>if r=je then do let ok <-isTrue c env (eval c env);pure (qT ok)else pure (qT r)) (λok s₃=>
     if ok=je then jJ (model prog w) A (eval elt env) (λx s₄=>
      jJ (model prog w) A (call (.builtin "list.append") [acc,x]) (λ_ s₅=>∃m,m<n/\I m s₅) (notedBy (model prog w) A env λe s'=>R (.error e) s') s₄) (notedBy (model prog w) A env λe s'=>R (.error e) s') s₃
     else ∃m,m<n/\I m s₃) (notedBy (model prog w) A env λe s'=>R (.error e) s') s₂) (notedBy (model prog w) A env λe s'=>R (.error e) s') s₀) (notedBy (model prog w) A env λe s'=>R (.error e) s') s₁) (notedBy (model prog w) A env λe s'=>R (.error e) s') s)
 (n:Nat) (h:I n s) :
 codeAny (model prog w) A (.compLoop (.ListComp elt [⟨target,iter,ifs,0⟩] scope pos) 0 it acc env) R s:=by
 refine codeAny_loop rfl I (λn s hI => ?_) n h;show jJ _ A ((compTurn (.ListComp elt [⟨target,iter,ifs,0⟩] scope pos) 0 it acc env).onRaise (λx=>do noteFrame x env;theTreesLotGoes x)) _ _ s;refine wpAny_noted ?_;rw [compTurn_list];refine jl (uJ (jl (j7 (turn n s hI) (λr s₁ h₁ => ?_) λ_ _ h'=>h')));cases r with
 |none=>exact jB h₁
 |some v=>
  refine jl (j7 h₁ (λ_ s₀ h₀ => ?_) λ_ _ h'=>h');refine jl (j7 h₀ (λ_ s₂ h₂=>jl (j7 h₂ (λok s₃ h₃ => ?_) λ_ _ h'=>h')) λ_ _ h'=>h');cases ok with
  |false=>exact jB ⟨rfl,h₃⟩
  |true=>
   exact jl (jl (j7 h₃ (λx s₄ h₄=>jl (j7 h₄ (λ_ s₅ h₅=>jB (jB ⟨rfl,h₅⟩)) λ_ _ h'=>h')) λ_ _ h'=>h'))
end
noncomputable def Xh(cells:al (Str×jf)):al (Str×qP)->al (Str×jf)->al (Str×jf)
 | [],acc=>acc
 |(n,k)::r,acc=>Xh cells r (if(k == .free)=je then(n,(cells.lookup n).getD 0)::acc else acc)
theorem lR{env:Env}:∀(names:al (Str×qP))(acc:al (Str×jf)),(∀x∈names,x.2 = .free->∃c,env.cells.lookup x.1=ja c) ->
 (forIn names acc λ(x:Str×qP) (r:al (Str×jf))=>match x with
   |(name,kind)=>if(kind == .free)=je then(do let c <-cellOf env name;pure (qT ((name,c)::r)))else pure (qT r))=(pure (Xh env.cells names acc):Sem _)
 | [],acc,_=>rfl
 |(n,k)::r,acc,h=>by
  rw [List.forIn_cons];show((if(k == .free)=je then(do let c <-cellOf env n;pure (qT ((n,c)::acc)))else pure (qT acc)) >>= _)=_
  by_cases hk:(k == .free)=je
  . obtain⟨c,hc⟩:=h (n,k) jr (by simpa using hk)
    have e:cellOf env n=pure c:=by
     unfold cellOf;rw [hc]
    rw [if_pos hk,e];show(forIn r ((n,c)::acc) _:Sem _)=_;rw [lR r _ λx hx=>h x (jq _ hx)]
    conv=>rhs;unfold Xh
    rw [if_pos hk,hc];rfl
  . rw [if_neg hk]
    show(forIn r acc _:Sem _)=_;rw [lR r _ λx hx=>h x (jq _ hx)]
    conv=>rhs;unfold Xh
    rw [if_neg hk]
theorem lS{scope:qH}{env:Env}(h:∀x∈scope.names,x.2 = .free->∃c,env.cells.lookup x.1=ja c):closureFor scope env=pure (Xh env.cells scope.names []):=by
 have e:=lR (env:=env) scope.names [] h;unfold closureFor;show((forIn scope.names ([]:al (Str×jf)) _:Sem _) >>= λcs=>pure cs)=_
 have e2:(forIn scope.names ([]:al (Str×jf)) λ(x:Str×qP) (r:al (Str×jf))=>match x with
  |(name,kind)=>if(kind == .free)=je then(do let c <-cellOf env name;pure (qT ((name,c)::r)))else pure (qT r))=(pure (Xh env.cells scope.names []):Sem _):=e
 rw [e2];rfl
theorem Q4{cells:al (Str×jf)}{c:jf}:∀(names:al (Str×qP))(acc:al (Str×jf)),(∀y∈names,y.2 = .free->∃c,cells.lookup y.1=ja c) ->
 (∀c,acc.lookup x=ja c->cells.lookup x=ja c)->(Xh cells names acc).lookup x=ja c->cells.lookup x=ja c
 | [],acc,_,ha,h=>ha c h
 |(n,k)::r,acc,hf,ha,h=>by
  unfold Xh at h;refine Q4 r _ (λy hy=>hf y (jq _ hy)) (λc' h' => ?_) h
  by_cases hk:(k == .free)=je
  . rw [if_pos hk]at h'
    obtain⟨c0,hc0⟩:=hf (n,k) jr (by simpa using hk);rw [jC]at h';cases hx:x == n with
    |true=>
     rw [hx]at h';have e:x=n:=eq_of_beq hx;subst e;have h'':(cells.lookup x).getD 0=c':=jx h';have hc0':cells.lookup x=ja c0:=hc0;rw [hc0']at h'' ⊢;exact congrArg ja h''
    |false=>
     rw [hx]at h';exact ha c' h'
  . rw [if_neg hk]at h'
    exact ha c' h'
theorem lT{cells:al (Str×jf)}{x:Str}:∀(names:al (Str×qP))(acc:al (Str×jf)),((x,qd)∈names\/∃c,acc.lookup x=ja c)->∃c,(Xh cells names acc).lookup x=ja c
 | [],acc,h=>by
  rcases h with h|h
  . cases h
  . exact h
 |(n,k)::r,acc,h=>by
  unfold Xh;refine lT r _ ?_;rcases h with h|⟨c,h⟩
  . rcases jp.mp h with e|e
    . cases e
      refine .inr ⟨(cells.lookup x).getD 0,?_⟩;rw [if_pos (by rfl),jC];simp
    . exact .inl e
  . refine .inr ?_
    by_cases hk:(k == .free)=je
    . rw [if_pos hk,jC]
      cases hx:x == n with
      |true=>exact⟨_,rfl⟩
      |false=>exact⟨c,h⟩
    . rw [if_neg hk]
      exact⟨c,h⟩
def cM(σ:St)(js:al Nat):St:=js.map λj=>(σ[j]?).getD none
def eo(n:Nat)(σ:St)(js:al Nat):St:=jd n none++cM σ js
section
variable{X:Cx}{pins:al (jf×Obj)}{σ:St}{H₂:Hp}{s₂:jg}{scope:qH}{tn cn:al Str}{js:al Nat}
theorem sU{env:Env}:∀{names:al (Str×qP)}{x:Str},names.lookup x=ja .free ->
 (names.map λ(n,k)=>if(k == qd&&env.scope.kind == .function&&env.kindOf n == ja .cell)then(n,j6)else(n,k)).lookup x=ja .cell \/
 (names.map λ(n,k)=>if(k == qd&&env.scope.kind == .function&&env.kindOf n == ja .cell)then(n,j6)else(n,k)).lookup x=ja .free
 | [],_,h=>by simp at h
 |(n,k0)::r,x,h=>by
  have ih := @sU env r x
  show jG x ((if(k0 == qd&&env.scope.kind == .function&&env.kindOf n == ja .cell)=je then(n,j6)else(n,k0))::_)=_ \/
   jG x ((if(k0 == qd&&env.scope.kind == .function&&env.kindOf n == ja .cell)=je then(n,j6)else(n,k0))::_)=_
  cases hx:x == n with
  |true=>
   simp only [jC,hx]at h;cases h
   by_cases hb:(qd == qd&&env.scope.kind == .function&&env.kindOf n == ja .cell)=je
   . rw [if_pos hb];simp [jC,hx]
   . rw [if_neg hb];simp [jC,hx]
  |false=>
   simp only [jC,hx]at h
   by_cases hb:(k0 == qd&&env.scope.kind == .function&&env.kindOf n == ja .cell)=je
   . rw [if_pos hb];simp only [jC,hx];exact ih h
   . rw [if_neg hb];simp only [jC,hx];exact ih h
end
def gf(X:Cx)(ifs:al qA)(t:TT):Prop:=
 ∀(pins:al (jf×Obj))(s:jg)(σ:St)(H:Hp)(Q:Bool->Hp->Prop),Inv X pins σ H s->t σ H Q ->
  jJ (model X.prog X.w) X.A (forIn ifs je λc r=>if r=je then do let ok <-isTrue c X.env (eval c X.env);pure (qT ok)else pure (qT r)) (TP X pins σ Q) X.xe s
def gF:TT:=λ_ H Q=>Q je H
theorem Qk:gf X [] gF:=λ_ _ _ H _ I h=>wpAny_tests_nil ⟨H,I,h⟩
theorem BU{c:qA}(h:PT X c t):gf X [c] t:=λpins s σ H Q I q=>wpAny_tests_one (h pins s σ H Q I q)
def Q5(wi:TI)(g:TG)(tt:TT)(te:TE)(n:Nat)(js:al Nat):TE:=λσ H Q=>wi σ H λJ H1=>
 ∃W:Nat->Nat->al V->Hp->Prop,(∃m,W 0 m [] H1)/\∀i m ys H,W i m ys H ->
  (J.stop i H/\∀p,H p=none->Q (.ref p) (aV H p (.lst ys))) \/
  (J.go i H/\∀x H',J.yld i H x H'->g x (eo n σ js) H' λσ2 H2=>tt σ2 H2 λb H3=>
    if b=je then te σ2 H3 λy H4=>ys.length<jv/\∃m',m'<m/\W (i+1) m' (ys++[y]) H4 else ∃m',m'<m/\W (i+1) m' ys H3)
section
variable{X:Cx}{tg iter elt:qA}{ifs:al qA}{scope:qH}{pos:Pos}{wi:TI}{g:TG}{tt:TT}{te:TE}{tn cn:al Str}{js:al Nat}
theorem lU{α:Type}{M:Model}{m:Sem α}{Q:α->jg->Prop}{E:jc->jg->Prop}(h:jJ M A m Q (λ_ _=>False) s):jJ M A m Q E s:=j7 h (λ_ _ q=>q) λ_ _ z=>z.elim
end
end L2
namespace L2
open PySem Builtin Builtin.Str
noncomputable abbrev tx(cs:al Nat):Str:=⟨cs.toArray⟩
theorem dJ{a b:al Nat}:tx a=tx b ↔ a=b:=by
 constructor
 . intro h
   have h2:a.toArray=b.toArray:=congrArg Str.cps h;simpa using h2
 . rintro rfl;rfl
theorem lV(x:Str):tx x.cps.toList=x:=by
 obtain⟨a⟩:=x;show WA a.toList.toArray=WA a;simp
theorem X0(cs:al Nat):(tx cs).cps.toList=cs:=by simp [tx]
theorem Yz(cs:al Nat):(tx cs).length=cs.length:=by simp [tx,uU]
theorem lW(a b:al Nat):tx a++tx b=tx (a++b):=by
 show WA (a.toArray++b.toArray)=WA (a++b).toArray;simp
noncomputable def YA(n d:Nat):am Int->Nat
 |none=>d
 |some v=>if v<0 then(v+(n:Int)).toNat else min v.toNat n
def bB{α:Type}(xs:al α)(lo hi:am Int):al α:=(xs.drop (YA xs.length 0 lo)).take (YA xs.length xs.length hi-YA xs.length 0 lo)
theorem sV(lo hi:am Int)(n:Nat):strSliceIndices lo hi 1 n=(qG (YA n n hi-YA n 0 lo)).map λk=>YA n 0 lo+k:=by
 have clip:∀v:Int,max 0 (min (if v<0 then v+(n:Int)else v) (n:Int))=(((if v<0 then(v+(n:Int)).toNat else min v.toNat n):Nat):Int):=by
  intro v
  by_cases h:v<0
  . rw [if_pos h,if_pos h];omega
  . rw [if_neg h,if_neg h];omega
 have key:∀(a b:Nat),sliceRange (a:Int) (b:Int) 1=(qG (b-a)).map λk=>a+k:=by
  intro a b;unfold sliceRange;simp only [show(1:Int)>0 by decide,if_true]
  have e:(if(a:Int)<(b:Int)then((b:Int)-(a:Int)+1-1) / 1 else 0).toNat=b-a:=by
   split
   . rw [W0];omega
   . omega
  rw [e];refine uI λk _ => ?_
  omega
 unfold strSliceIndices;simp only [show(1:Int)>0 by decide,if_true];cases lo with
 |none=>
  cases hi with
  |none=>exact key 0 n
  |some v=>
   have:=key 0 (YA n n (ja v));refine WQ ?_ this;show sliceRange 0 (max 0 (min (if v<0 then v+(n:Int)else v) (n:Int))) 1=_;rw [clip v];rfl
 |some u=>
  cases hi with
  |none=>
   have:=key (YA n 0 (ja u)) n;refine WQ ?_ this;show sliceRange (max 0 (min (if u<0 then u+(n:Int)else u) (n:Int))) n 1=_;rw [clip u];rfl
  |some v=>
   have:=key (YA n 0 (ja u)) (YA n n (ja v));refine WQ ?_ this;show sliceRange (max 0 (min (if u<0 then u+(n:Int)else u) (n:Int))) (max 0 (min (if v<0 then v+(n:Int)else v) (n:Int))) 1=_;rw [clip u,clip v];rfl
theorem sW{α:Type}(xs:al α)(l:Nat):∀k,l+k<=xs.length->((qG k).map λj=>l+j).filterMap (λj=>xs[j]?)=(xs.drop l).take k
 |0,_=>by simp
 |k+1,h=>by
  rw [List.range_succ,qZ,List.filterMap_append,sW xs l k (by omega)];have hx:xs[l+k]? = ja (xs[l+k]'(by omega)):=jQ (by omega);rw [List.take_add_one,OG,hx];simp [hx]
theorem BV(n:Nat)(o:am Int):YA n n o<=n:=by
 cases o with
 |none=>exact jz _
 |some v=>
  show(if v<0 then(v+(n:Int)).toNat else min v.toNat n)<=n
  split<;>omega
theorem BW(cs:al Nat)(lo hi:am Int):oY (tx cs) lo hi=tx (bB cs lo hi):=by
 have hn:(tx cs).length=cs.length:=Yz cs;have hb:=BV cs.length hi
 have hp:((strSliceIndices lo hi 1 cs.length).filterMap λj=>cs[j]?)=bB cs lo hi:=by
  rw [sV];unfold bB
  by_cases h:YA cs.length 0 lo<=YA cs.length cs.length hi
  . exact sW cs _ _ (by omega)
  . have e:YA cs.length cs.length hi-YA cs.length 0 lo=0:=by omega
    rw [e];simp
 unfold oY;rw [hn]
 by_cases hc:((1:Int) == 1&&(strSliceIndices lo hi 1 cs.length).length == cs.length)=je
 . rw [if_pos hc]
   have hl:(strSliceIndices lo hi 1 cs.length).length=cs.length:=by simpa using hc
   rw [sV,jk,uh]at hl;have e0:YA cs.length 0 lo=0\/cs.length=0:=by omega
   rw [dJ];unfold bB;rw [hl];rcases e0 with e0|e0
   . rw [e0];simp
   . have:cs=[]:=uE e0
     subst this;simp
 . rw [if_neg hc]
   have:((strSliceIndices lo hi 1 cs.length).filterMap λj=>(tx cs).cps[j]?)=bB cs lo hi:=by
    rw [<-hp];simp [tx]
   rw [this]
theorem cG{α:Type}(xs:al α)(k:Nat):bB xs (ja (k:Int)) none=xs.drop k:=by
 unfold bB YA;simp only [show ¬((k:Int)<0) by omega,if_false,yj]
 by_cases h:k<=xs.length
 . rw [oh h,qx (by simp)]
 . rw [O1 (by omega),o7 (jz _),o7 (by omega)]
   simp
theorem BX(a b:al Nat)(i:Nat):subAt (tx a) (tx b) i=((a.drop i).take b.length == b):=by
 rw [StrLaws.subAt_eq,X0,X0,Yz]
theorem du{a b:al Nat}:(a.take b.length == b)=b.isPrefixOf a:=by
 rw [yu,beq_iff_eq,List.isPrefixOf_iff_prefix];constructor
 . intro h;rw [<-h];exact List.take_prefix _ _
 . rintro⟨c,rfl⟩;simp
theorem BY(a b:al Nat):Wy (tx a) (tx b)=b.isPrefixOf a:=by
 unfold Wy;rw [BX,Yz,Yz,Ov,du,Nat.zero_add];cases h:b.isPrefixOf a with
 |false=>simp
 |true=>
  have:=(List.isPrefixOf_iff_prefix.mp h).length_le;simp [this]
noncomputable def Uo(n:Nat):al Nat:=(Nat.toDigits 10 n).map Oj
noncomputable def gZ(c:Nat):Bool:=decide (48<=c)&&decide (c<=57)
def lX(cs:al Nat):Nat:=cs.foldl (λacc c=>acc*10+(c-48)) 0
theorem UK(cs:al Nat)(c i:Nat):Wz (tx cs) (tx [c]) (tx cs).length i ↔ cs[i]? = ja c:=by
 have:=StrLaws.subAt_one (tx cs) c i;rw [X0]at this;exact this
theorem g0(cs:al Nat)(a b:Nat):strSub (tx cs) a b=tx ((cs.drop a).take (b-a)):=by
 rw [<-lV (strSub (tx cs) a b),StrLaws.strSub_toList,X0]
noncomputable def Zz(c:Nat):al Nat->al (al Nat)
 | []=>[[]]
 |x::xs=>if x=c then []::Zz c xs else match Zz c xs with
  | []=>[[x]]
  |p::ps=>(x::p)::ps
theorem sX(c:Nat):∀cs,Zz c cs≠[]
 | []=>by simp [Zz]
 |x::xs=>by
  unfold Zz
  split
  . simp
  . split<;>simp
theorem Q6{c:Nat}:∀{cs:al Nat},c∉cs->Zz c cs=[cs]
 | [],_=>rfl
 |x::xs,h=>by
  have hx:¬x=c:=λe=>h (by rw [e];exact jr)
  unfold Zz;rw [if_neg hx,Q6 λm=>h (jq _ m)]
theorem lY{c:Nat}:∀{p r:al Nat},c∉p->Zz c (p++c::r)=p::Zz c r
 | [],r,_=>by
  show Zz c (c::r)=_;rw [Zz,if_pos rfl]
 |x::p,r,h=>by
  have hx:¬x=c:=λe=>h (by rw [e];exact jr)
  show Zz c (x::(p++c::r))=_;rw [Zz,if_neg hx,lY λm=>h (jq _ m)]
theorem BZ{cs:al Nat}{d c:Nat}(h:cs[d]? = ja c):cs.drop d=c::cs.drop (d+1):=by
 have hl:d<cs.length:=(jL.mp h).1;rw [yt hl];have:=(jL.mp h).2;rw [this]
theorem B0{cs:al Nat}{c a d:Nat}(h:∀k,a<=k->k<d->¬cs[k]? = ja c):c∉(cs.drop a).take (d-a):=by
 intro hm;obtain⟨j,hj⟩:=yb hm
 have hlt:j<d-a:=by
  have h1:=(jL.mp hj).1;rw [jT]at h1;omega
 rw [uX hlt,OG]at hj;exact h (a+j) (by omega) (by omega) hj
theorem B1{cs:al Nat}{c a:Nat}(h:∀k,a<=k->¬cs[k]? = ja c):c∉cs.drop a:=by
 intro hm;obtain⟨j,hj⟩:=yb hm;rw [OG]at hj;exact h (a+j) (by omega) hj
theorem sY(cs:al Nat)(c:Nat):∀(cuts:al Nat)(a f:Nat),StrLaws.ChainG (tx cs) (tx [c]) (tx cs).length a cuts f->(∀k,f<=k->¬Wz (tx cs) (tx [c]) (tx cs).length k) ->
 vq (tx cs) (tx [c]).length a cuts=(Zz c (cs.drop a)).map tx
 | [],a,f,h,hn=>by
  have e:f=a:=h;subst e;have hf:c∉cs.drop f:=B1 λk hk=>λz=>hn k hk ((UK cs c k).mpr z)
  rw [Q6 hf];show [strSub (tx cs) f (tx cs).length]=[tx (cs.drop f)]
  rw [g0,Yz,qx (by rw [qw];exact jz _)]
 |d::r,a,f,h,hn=>by
  obtain⟨had,hAt,hgap,hrest⟩:=h;have hd:=(UK cs c d).mp hAt;have ih:=sY cs c r _ f hrest hn
  have e:cs.drop a=(cs.drop a).take (d-a)++c::cs.drop (d+1):=by
   have e1:(cs.drop a).drop (d-a)=cs.drop d:=by rw [List.drop_drop];congr 1;omega
   rw [<-BZ hd,<-e1,List.take_append_drop]
  have hg:c∉(cs.drop a).take (d-a):=B0 λk h1 h2 z=>hgap k h1 h2 ((UK cs c k).mpr z)
  rw [e,lY hg,jy];show strSub (tx cs) a d::vq (tx cs) (tx [c]).length (d+(tx [c]).length) r=_;rw [ih,g0];rfl
theorem B2(cs:al Nat)(c:Nat):Wg (tx cs) (tx [c])=(Zz c cs).map tx:=by
 have one:c∉cs->[tx cs]=(Zz c cs).map tx:=λh=>by rw [Q6 h];rfl
 unfold Wg
 split
 . rename_i h
   refine one ?_;rw [uG,decide_eq_true_eq,decide_eq_true_eq]at h;rcases h with h|h
   . rw [Yz]at h
     have:cs=[]:=uE (by rw [Yz]at h;have h':cs.length<1:=h;omega);subst this;simp
   . have:=StrLaws.kind_free (tx cs) c h
     rw [X0]at this;exact this
 . split
   . rename_i h1 h2
     refine one λhm => ?_
     obtain⟨j,hj⟩:=yb hm;obtain⟨f,hc,hn⟩:=vt (tx cs) (tx [c]) (by rw [Yz];exact jz _);rw [List.isEmpty_iff.mp h2]at hc;have e:f=0:=hc;exact hn j (by omega) ((UK cs c j).mpr hj)
   . obtain⟨f,hc,hn⟩:=vt (tx cs) (tx [c]) (by rw [Yz];exact jz _)
     have:=sY cs c _ 0 f hc hn;rw [Ov]at this;rw [<-this];exact StrLaws.zip_parts _ _ _ _
noncomputable def VU(c:Nat)(cs:al Nat):Int:=match cs.findIdx? (· == c)with
 |some i=>(i:Int)
 |none => -1
theorem B3(cs:al Nat)(c:Nat):Txt.find (tx cs) (tx [c])=VU c cs:=by
 unfold VU;rcases PyProof.Rows.find_whole (tx cs) (tx [c])with⟨e,h⟩|⟨i,e,h,hk⟩
 . rw [e]
   have hn:cs.findIdx? (· == c)=none:=by
    rw [List.findIdx?_eq_none_iff];intro x hx;simp only [beq_eq_false_iff_ne]
    rintro rfl
    obtain⟨j,hj⟩:=yb hx;exact h j ((UK cs x j).mpr hj)
   rw [hn]
 . rw [e]
   have hi:=(UK cs c i).mp h
   have hs:cs.findIdx? (· == c)=ja i:=by
    rw [List.findIdx?_eq_some_iff_getElem];have hl:i<cs.length:=(jL.mp hi).1;refine⟨hl,by simpa using(jL.mp hi).2,λj hj => ?_⟩;have hjl:j<cs.length:=by omega
    have:=hk j hj;rw [UK,jQ hjl]at this;simpa using this
   rw [hs]
theorem B4(cs:al Nat)(c:Nat):Txt.count (tx cs) (tx [c])=(cs.count c:Nat):=by
 have h:=PyProof.Rows.count_is (tx cs) c
 have e:∀l:al Nat,oI c l=(l.count c:Nat):=λl=>by
  induction l with
  |nil=>rfl
  |cons x xs ih=>
   rw [PyProof.Rows.cnt_cons,ih,List.count_cons]
   by_cases hx:x=c<;>simp [hx]<;>omega
 have h2:Txt.count (tx cs) (tx [c])=oI c (tx cs).cps.toList:=h;rw [h2,e,X0]
def Zr(sep:al Nat):al (al Nat)->al Nat
 | []=>[]
 | [x]=>x
 |x::y::r=>x++sep++Zr sep (y::r)
theorem lZ(sep:al Nat):∀l:al (al Nat),Str.join (tx sep) (l.map tx)=tx (Zr sep l)
 | []=>rfl
 | [x]=>rfl
 |x::y::r=>by
  show tx x++tx sep++Str.join (tx sep) ((y::r).map tx)=_;rw [lZ sep (y::r),lW,lW];rfl
theorem sZ:∀l:al (al Nat),Zr [] l=l.flatten
 | []=>rfl
 | [x]=>by simp [Zr]
 |x::y::r=>by
  show x++[]++Zr [] (y::r)=_;rw [sZ (y::r)];simp
theorem s0(c:Nat):∀l:al (al Nat),l≠[]->(∀p∈l,c∉p)->Zz c (Zr [c] l)=l
 | [],h,_=>absurd rfl h
 | [x],_,h=>Q6 (h x jr)
 |x::y::r,_,h=>by
  show Zz c (x++[c]++Zr [c] (y::r))=_;rw [qX];show Zz c (x++c::Zr [c] (y::r))=_;rw [lY (h x jr),s0 c (y::r) (by simp) λp hp=>h p (jq _ hp)]
end L2
namespace L2
open PySem PySem.Spec PyProof.Rows
abbrev S(cs:al Nat):V := .str (tx cs)
theorem B5{a b:al Nat}:S a=S b ↔ a=b:=by
 constructor
 . intro h
   exact dJ.mp (V.str.inj h)
 . rintro rfl;rfl
section
variable{X:Cx}{pos:Pos}
theorem Yv{x:Str}{j:Nat}(cs:al Nat)(h:x=tx cs):PE X (.Constant (.str x) j pos) (tC (S cs)):=by
 subst h;exact AB
def hJ(cs:al Nat):It:=⟨λi _=>i<cs.length,λi H v H'=>H'=H/\∃c,cs[i]? = ja c/\v=S [c],λi _=>cs.length<=i⟩
theorem Qm(x:Str):strIterType x = "str_ascii_iterator" \/ strIterType x = "str_iterator" := by
 unfold strIterType
 split
 . exact .inl rfl
 . exact .inr rfl
theorem B6{K:jb}(it:jf)(cs:al Nat)(t:Tok):db P w K tg (hJ cs) [it] it (λi h=>h.IsStrIter it (strIterType (tx cs)) (tx cs) t i) where
 mem:=by simp
 obj:=λi h st b hb=>by
  have e:b=it:=by simpa using hb
  subst e;obtain⟨o,e,c,d⟩:=st;exact⟨o,e,λv z=>by rw [d]at z;cases z⟩
 keep:=λi h h' st k=>by
  obtain⟨o,e,r⟩:=st;exact⟨o,k it (by simp) o e,r⟩
 item:=by
  intro X hP hw hK hc i pins s σ H E I hf st hg;subst hP hw hK;obtain⟨f0,f1,f2,f3,f4,f5⟩:=hf it (by simp);have hg:i<cs.length:=hg;have hx:(tx cs).cps[i]? = ja cs[i]:=by simp [tx,hg]
  have fin:∀(h':jX),h'.IsStrIter it (strIterType (tx cs)) (tx cs) t (i+1)->ug it s.heap h' ->
   ∃u,ja (uK ⟨#[cs[i]]⟩ s.toks)=ja u/\jJ (model X.prog X.w) X.A (letOwnedTupleGo tg (.ref it) u) (λ_ s2=>∃x H',Inv X pins σ H' s2/\RelV x u/\(hJ cs).yld i H x H'/\s2.heap.IsStrIter it (strIterType (tx cs)) (tx cs) t (i+1)/\∀b∈[it],H' b=none) E { s with heap:=h',toks:=s.toks+1 }:=λh' st' sb=>by
   have I1:Inv X pins σ H { s with heap:=h',toks:=s.toks+1 }:=I.turned (λb o hb e=>(sb.2 b hb).trans e) f0 f1 f3 f4 f5;obtain⟨o,e,hc',d⟩:=id st';refine⟨_,rfl,QX (s:={ s with heap:=h',toks:=s.toks+1 }) e hc' d ?_ ⟨S [cs[i]],H,I1,⟨s.toks,rfl⟩,⟨rfl,cs[i],by simp [hg],rfl⟩,st',λb hb=>(hf b hb).1⟩⟩;rcases Qm (tx cs)with z|z<;>rw [z]<;>decide
  rcases Qm (tx cs)with z|z
  . rw [z]at st
    refine wpAny_pyNext_ascii_item st hx λh' st' sb=>fin h' (by rw [z];exact st') sb
  . rw [z]at st
    refine wpAny_pyNext_wide_item st hx λh' st' sb=>fin h' (by rw [z];exact st') sb
 done:=by
  intro X hP hw hK hc i pins s σ H E I hf st hg;subst hP hw hK;obtain⟨f0,f1,f2,f3,f4,f5⟩:=hf it (by simp);have hg:cs.length<=i:=hg;have hx:(tx cs).cps[i]? = none:=by simp [tx];omega
  rcases Qm (tx cs)with z|z
  . rw [z]at st
    exact wpAny_pyNext_ascii_end (I.ok.hd hc) st hx λh' eb=>⟨rfl,I.turned (t':=s.toks) (λb o hb e=>eb b o hb e) f0 f1 f3 f4 f5⟩
  . rw [z]at st
    exact wpAny_pyNext_wide_end (I.ok.hd hc) st hx λh' eb=>⟨rfl,I.turned (t':=s.toks) (λb o hb e=>eb b o hb e) f0 f1 f3 f4 f5⟩
 self:=λ_ i _ _ _ st h=>by
  rcases Qm (tx cs)with z|z
  . rw [z]at st
    exact wpAny_pyIter_striter_ascii st h
  . rw [z]at st
    exact wpAny_pyIter_striter_wide st h
variable{tg:qA}
def ma(K:jb)(tl:TE):TI:=λσ H R=>tl σ H λx H1=>(∃a xs,x = .ref a/\bv K H1 a xs/\R (lx K a) H1)\/(∃a xs,x = .ref a/\cm K H1 a xs/\R (gU K a) H1)\/∃cs,x=S cs/\R (hJ cs) H1
theorem B7(hl:PE X l tl):PI X tg l (ma X.K tl):=by
 intro pins s σ H R I h;refine aW (hl pins s σ H _ I h) λv s1 z=>?_;obtain⟨x,H1,I1,r1,q1⟩:=z
 rcases q1 with⟨a,xs,e,hq,q⟩|⟨a,xs,e,hq,q⟩|⟨cs,e,q⟩
 . subst e
   cases r1;obtain⟨its,rv,p,hz⟩:=I1.list hq;refine Od p.isList ?_;refine⟨s1.heap.objs.size,[s1.heap.objs.size],_,_,H1,rfl,I1.kept (t':=s1.toks) λb o e=>ji _ e,AM a _,⟨_,jD _ rfl,rfl,rfl⟩,λb hb => ?_,q⟩;have e:b=s1.heap.objs.size:=by simpa using hb
   subst e;exact I1.fpOk (jz _) (I1.hok.fresh (jz _))
 . have hpi:=AQ (X:=X) (tg:=tg) (l:=l) (tl:=λ_ H Q=>Q (.ref a) H)
   subst e;cases r1;obtain⟨its,rv,p,hz⟩:=I1.tuple hq;refine Ws (show s1.heap.IsTuple a its.toArray from p) ?_;refine⟨s1.heap.objs.size,[s1.heap.objs.size],_,_,H1,rfl,I1.kept (t':=s1.toks) λb o e=>ji _ e,rT a _,⟨_,jD _ rfl,rfl,rfl⟩,λb hb => ?_,q⟩;have e:b=s1.heap.objs.size:=by simpa using hb
   subst e;exact I1.fpOk (jz _) (I1.hok.fresh (jz _))
 . subst e
   obtain⟨t,rfl⟩:=r1;refine Oc ?_;refine⟨s1.heap.objs.size,[s1.heap.objs.size],_,_,H1,rfl,I1.kept (t':=s1.toks) λb o e=>ji _ e,B6 _ cs t,⟨_,jD _ rfl,rfl,rfl⟩,λb hb => ?_,q⟩;have e:b=s1.heap.objs.size:=by simpa using hb
   subst e;exact I1.fpOk (jz _) (I1.hok.fresh (jz _))
def eT:R2:=λx y H Q=>∃a b,x=S a/\y=S b/\a.length+b.length<=jv/\Q (S (a++b)) H
theorem dW:bK X (yl .Add) eT:=by
 intro pins s σ H x y v u Q I rx ry h;obtain⟨a,b,rfl,rfl,hz,q⟩:=h;refine A8 pins s σ H _ _ v u Q I rx ry ⟨tx a,tx b,rfl,rfl,by rw [Yz,Yz];exact hz,?_⟩;rw [lW];exact q
def fQ:R2:=λx y H Q=>eh (λi j => .int (i+j)) x y H Q\/eT x y H Q\/gE x y H Q
theorem B8:bK X (yl .Add) fQ:=eR.or (dW.or BM)
def md(neg:Bool):R2:=λx y H Q=>∃c b,x=S [c]/\y=S b/\Q (.bl (neg != decide (c∈b))) H
theorem gg:bK X (qL .In) (md jj):=by
 intro pins s σ H x y v u Q I rx ry h;obtain⟨c,b,rfl,rfl,q⟩:=h;refine A6 pins s σ H _ _ v u Q I rx ry ⟨tx [c],tx b,rfl,rfl,?_⟩;have e:=vv (tx b) c;rw [X0]at e;rw [show tx [c]=(⟨#[c]⟩:Str)from rfl,e];simpa using q
theorem eB:bK X (qL .NotIn) (md je):=by
 intro pins s σ H x y v u Q I rx ry h;obtain⟨c,b,rfl,rfl,q⟩:=h;refine A7 pins s σ H _ _ v u Q I rx ry ⟨tx [c],tx b,rfl,rfl,?_⟩;have e:=vv (tx b) c;rw [X0]at e;rw [show tx [c]=(⟨#[c]⟩:Str)from rfl,e];simpa using q
def Qn(K:jb)(neg:Bool):R2:=λx y H Q=>md neg x y H Q\/lP K neg x y H Q
theorem B9:bK X (qL .In) (Qn X.K jj):=gg.or BD
theorem Ca:bK X (qL .NotIn) (Qn X.K je):=eB.or BE
def fR:R2:=λx y H Q=>∃a i c,x=S a/\y = .int i/\a.length<=jv/\cR a i=ja c/\Q (S [c]) H
theorem Cb:eS X fR:=by
 intro value slice pins s σ H x y v u Q I rx ry h hs;obtain⟨a,i,c,rfl,rfl,hz,he,q⟩:=h;exact Bz value slice pins s σ H _ _ v u Q I rx ry ⟨tx a,i,c,rfl,rfl,by rw [Yz];exact hz,by rw [X0];exact he,q⟩ hs
def me(K:jb):R2:=λx y H Q=>sM K x y H Q\/sN K x y H Q\/fR x y H Q
theorem Cc:eS X (me X.K):=fq.or (cS.or Cb)
def gG:V->am Int->am Int->Hp->VK->Prop:=λx lo hi H Q=>∃a,x=S a/\a.length<=jv/\Q (S (bB a lo hi)) H
theorem mf:fj X gG:=by
 intro pins s σ H x v vl vu lo hi sl Q I rx hs pl pu h;obtain⟨a,rfl,hz,q⟩:=h;obtain⟨t,rfl⟩:=rx;refine⟨"str",_,F.slot_str_getitem.lookup,uY _ _ _,?_⟩;have fin:∀t' k,EP X pins σ Q (.str (oY (tx a) lo hi) t') { s with toks:=k }:=λt' k=>⟨S (bB a lo hi),H,I.tok _,⟨t',by rw [BW]⟩,q⟩
 have hle:(oY (tx a) lo hi).length<=jv:=jK (Txt.slice_le _ _ _) (by rw [Yz];exact hz);cases pl with
 |none=>
  cases pu with
  |none=>exact uq (l:=none) (u:=none) (st:=none) hs rfl (Ox ⟨hle,fin⟩)
  |int j uj=>exact uq (l:=none) (u:=ja (j,uj)) (st:=none) hs rfl (Ox ⟨hle,fin⟩)
 |int i ui=>
  cases pu with
  |none=>exact uq (l:=ja (i,ui)) (u:=none) (st:=none) hs rfl (Ox ⟨hle,fin⟩)
  |int j uj=>exact uq (l:=ja (i,ui)) (u:=ja (j,uj)) (st:=none) hs rfl (Ox ⟨hle,fin⟩)
def hU(K:jb):V->am Int->am Int->Hp->VK->Prop:=λx lo hi H Q=>gG x lo hi H Q\/sO K x lo hi H Q\/sL K x lo hi H Q
theorem Cd:fj X (hU X.K):=mf.or (fu.or Bv)
def mh(K:jb):al V->Hp->VK->Prop:=λxs H Q=>(∃a,xs=[S a]/\a.length<=jv/\Q (.int a.length) H)\/∃p ys,xs=[.ref p]/\(bv K H p ys\/cm K H p ys)/\Q (.int ys.length) H
theorem Ce:bg X (.builtin "len") (mh X.K):=by
 intro pins s σ H xs us Q I rs q;rcases q with⟨a,rfl,hz,q⟩|q
 . exact BG pins s σ H _ us Q I rs ⟨tx a,rfl,by rw [Yz];exact hz,by rw [Yz];exact q⟩
 . exact BF pins s σ H xs us Q I rs q
theorem Cf(n:Nat):(toString (n:Int):Str)=tx (Uo n):=by
 rw [<-lV (toString (n:Int):Str)]
 congr 1
 exact O2 n
def fS:al V->Hp->VK->Prop:=λxs H Q=>(∃a,xs=[S a]/\a.length<=640/\a≠[]/\a.all gZ=je/\Q (.int (lX a:Nat)) H)\/(∃k,xs=[.bl k]/\Q (.int (if k then 1 else 0)) H)
theorem Cg:bg X (.type "int") fS:=by
 intro pins s σ H xs us Q I rs h;rcases h with⟨a,rfl,hl,hne,hd,q⟩|h
 . obtain⟨u,rfl,t,rfl⟩:=YW rs
   have hd':PySem.NumText.AllDigits (tx a).cps.toList:=by
    rw [X0];intro c hc;have:=jR.mp hd c hc;unfold gZ at this;rw [jF,decide_eq_true_eq,decide_eq_true_eq]at this;exact this
   have e:=PySem.intText_digits hd' (by rw [X0];exact hne) (by rw [Yz];omega);rw [X0]at e;exact PySem.W.KIN.call_text e (by rw [Yz];exact hl) ⟨.int (lX a:Nat),H,I.tok _,⟨_,rfl⟩,q⟩
 . exact Bb pins s σ H xs us Q I rs (.inr h)
theorem Ci(bs:al Bool):∀(its:al jc),aR (bs.map V.bl) its->its=bs.map uw:=by
 induction bs with
 |nil=>intro its r;cases r;rfl
 |cons b bs ih=>
  intro its r;cases r with
  |cons r1 r2=>
   rw [ih _ r2];cases r1;rfl
theorem Cj(bs:al Bool):((qG bs.length).all λi=>bs.getD i jj)=bs.all id:=by
 rw [yu,jR,jR];constructor
 . intro h b hb
   obtain⟨i,hi⟩:=yb hb;have hl:i<bs.length:=(jL.mp hi).1;have:=h i (yz.mpr hl);rw [qu,hi]at this;exact this
 . intro h i hi
   have hl:=yz.mp hi;have:=h bs[i] (Wb hl);rw [qu,jQ hl];exact this
theorem Ck(bs:al Bool):((qG bs.length).any λi=>bs.getD i jj)=bs.any id:=by
 rw [yu,We,We];constructor
 . rintro⟨i,hi,h⟩
   have hl:=yz.mp hi;rw [qu,jQ hl]at h;exact⟨bs[i],Wb hl,h⟩
 . rintro⟨b,hb,h⟩
   obtain⟨i,hi⟩:=yb hb;have hl:i<bs.length:=(jL.mp hi).1;refine⟨i,yz.mpr hl,?_⟩;rw [qu,hi];exact h
def Q7(K:jb)(f:al Bool->Bool):al V->Hp->VK->Prop:=λxs H Q=>∃p bs,xs=[.ref p]/\bv K H p (bs.map V.bl)/\Q (.bl (f bs)) H
theorem td {s:jg} {bs:al Bool} {Q:jc->jg->Prop} {E:jc->jg->Prop} {f:(Nat->Bool)->Bool} (hc:X.calm=je) (I:Inv X pins σ H s) (hq:bv X.K H p (bs.map V.bl))
 (q:∀h' tk,(∀b o,s.heap.get? b=ja o->h'.get? b=ja o)->Q (.bool (f λi=>bs.getD i jj)) { s with heap:=h',toks:=tk }) :
 jJ (model X.prog X.w) X.A.in1 (pyIter (.ref p)) (λit s₂=>∃I fp wr n P St tr,it = .ref I/\Walks X.prog X.w X.A.in1 I fp wr n P St/\St 0 s₂.heap/\TruthOf X.prog X.w X.A.in1 P tr /\
  n=bs.length/\tr=(λi=>bs.getD i jj)/\∀h' tk,(∀b o,b∉wr->s₂.heap.get? b=ja o->h'.get? b=ja o)->Q (.bool (f tr)) { s₂ with heap:=h',toks:=tk }) E s:=by
 obtain⟨its,rv,pl,hz⟩:=I.list hq;have e:=Ci bs its rv;subst e;refine Od pl.isList ?_;have hlt:p<s.heap.objs.size:=pl.lt;have hh:X.A.in1.handled=none:=I.ok.hd hc;refine⟨s.heap.objs.size,_,_,_,_,_,λi=>bs.getD i jj,rfl,Walks.list hh _ p (jU hlt) (bs.map uw).toArray,⟨⟨_,jD _ rfl,rfl,rfl⟩,(pl.keeps λb o e=>ji _ e).isList⟩,?_,by simp,rfl,λh' tk k => ?_⟩
 . intro i v s' Q' E' hv hq'
   have:v=uw (bs.getD i jj):=by
    have hv':(bs.map uw)[i]? = ja v:=by simpa using hv
    rw [j9]at hv';rw [qu];cases e:bs[i]? with
    |none=>rw [e]at hv';cases hv'
    |some b=>rw [e]at hv';exact(jx hv').symm
   subst this;exact yn hq'
 . refine q h' tk λb o e=>k b o (λz => ?_) (ji _ e)
   have h1:=jw e;have h2:b=s.heap.objs.size:=by simpa using z
   rw [h2]at h1;exact qV _ h1
theorem Cm(hc:X.calm=je):bg X (.builtin "all") (Q7 X.K λbs=>bs.all id):=by
 intro pins s σ H xs us Q I rs h;obtain⟨p,bs,rfl,hq,q⟩:=h;obtain⟨u,rfl,rx⟩:=YW rs;cases rx;have z:=td (f:=λtr=>(qG bs.length).all tr) (Q:=EP X pins σ Q) (E:=X.xe) hc I hq λh' tk k=>⟨.bl _,H,I.kept k,rfl,by rw [Cj];exact q⟩
 refine call_all_walk (j7 z (λit s₂ z2 => ?_) λ_ _ z=>z);obtain⟨I',fp,wr,n,P,St,tr,e1,W,st,ht,en,et,hq'⟩:=z2;exact⟨I',fp,wr,n,P,St,tr,e1,W,st,ht,λh' tk k=>by rw [en];exact hq' h' tk k⟩
theorem Co(hc:X.calm=je):bg X (.builtin "any") (Q7 X.K λbs=>bs.any id):=by
 intro pins s σ H xs us Q I rs h;obtain⟨p,bs,rfl,hq,q⟩:=h;obtain⟨u,rfl,rx⟩:=YW rs;cases rx;have z:=td (f:=λtr=>(qG bs.length).any tr) (Q:=EP X pins σ Q) (E:=X.xe) hc I hq λh' tk k=>⟨.bl _,H,I.kept k,rfl,by rw [Ck];exact q⟩
 refine call_any_walk (j7 z (λit s₂ z2 => ?_) λ_ _ z=>z);obtain⟨I',fp,wr,n,P,St,tr,e1,W,st,ht,en,et,hq'⟩:=z2;exact⟨I',fp,wr,n,P,St,tr,e1,W,st,ht,λh' tk k=>by rw [en];exact hq' h' tk k⟩
theorem Cp:bg X (.builtin "isinstance") (λxs H Q=>∃x c cv t b,xs=[x,c]/\(∀v,RelV c v->v=cv)/\cy X.K H x t/\ju X.K t cv=ja b/\Q (.bl b) H):=by
 intro pins s σ H xs us Q I rs h;obtain⟨x,c,cv,t,b,rfl,hc,ty,e,q⟩:=h;obtain⟨u,w',rfl,rx,rc⟩:=UI rs;have ec:=hc _ rc;subst ec;exact Bk I rx ty e λtk=>⟨.bl b,H,I.tok tk,rfl,q⟩
theorem Cq:ge X "str.startswith" (λx xs H Q=>∃a b,x=S a/\xs=[S b]/\Q (.bl (b.isPrefixOf a)) H):=by
 intro pins s σ H x xs v us Q I rx rs h;obtain⟨a,b,rfl,rfl,q⟩:=h;obtain⟨t,rfl⟩:=rx;obtain⟨u,rfl,t',rfl⟩:=YW rs;refine SC.startswith ?_;rw [BY];exact⟨.bl _,H,I,rfl,q⟩
end
section
variable{X:Cx}{K:jb}{pos:Pos}{tg:qA}
theorem ti(hK:autoParam (X.K=K) ah):bK X (qL .In) (Qn K jj):=hK▸B9
theorem Cr(hK:autoParam (X.K=K) ah):bK X (qL .NotIn) (Qn K je):=hK▸Ca
theorem XE(hK:autoParam (X.K=K) ah):eS X (me K):=hK▸Cc
theorem mi(hK:autoParam (X.K=K) ah):fj X (hU K):=hK▸Cd
theorem UL(hK:autoParam (X.K=K) ah):bg X (.builtin "len") (mh K):=hK▸Ce
theorem hV(hc:autoParam (X.calm=true) ah)(hK:autoParam (X.K=K) ah):bg X (.builtin "all") (Q7 K λbs=>bs.all id):=hK▸Cm hc
theorem Cs(hc:autoParam (X.calm=true) ah)(hK:autoParam (X.K=K) ah):bg X (.builtin "any") (Q7 K λbs=>bs.any id):=hK▸Co hc
def Ct(K:jb):al V->Hp->VK->Prop:=λxs H Q=>∃x c cv t b,xs=[x,c]/\(∀v,RelV c v->v=cv)/\cy K H x t/\ju K t cv=ja b/\Q (.bl b) H
theorem UM(hl:PE X l tl)(hK:autoParam (X.K=K) ah):PI X tg l (ma K tl):=hK▸B7 hl
theorem Cu(he:PE X e ta)(hb:autoParam (attributeBase e f X.env (eval e X.env)=eval e X.env) ah)(hK:autoParam (X.K=K) ah):PE X (.Attribute e f pos) (lF K ta f):=hK▸Bj he hb
def tj(K:jb):al V->Hp->VK->Prop:=λxs H Q=>∃p ys,xs=[.ref p]/\((bv K H p ys/\∀l,H l=none->Q (.ref l) (aV H l (.tup ys)))\/(cm K H p ys/\Q (.ref p) H))
def Cv(K:jb):al V->Hp->VK->Prop:=λxs H Q=>∃p ys,xs=[.ref p]/\(bv K H p ys\/cm K H p ys)/\∀l,H l=none->Q (.ref l) (aV H l (.lst ys))
theorem mj(hK:autoParam (X.K=K) ah):bg X (.type "tuple") (tj K):=hK▸BI
theorem VV {o e:qA} {es:al qA} {apos cpos:Pos} {T id:String} {r:V->al V->Hp->VK->Prop} (pa:PlainAttrs T) (slot:Slot T name id) (hty:typeOf (.builtin id)=pure (.type "method_descriptor")) (hm:ge X id r) (ho:PE X o to) (ha:PA X (e::es) t)
 (hbase:autoParam (attributeBase o name X.env (eval o X.env)=eval o X.env) ah)
 (hfew:autoParam (((backTo cpos (starEach (e::es) X.env)).all (λx => !x.1)&&(backToKw cpos (keywordEach [] X.env)).all (λx=>x.1.isSome)
   && decide ((e::es).length+([]:al Keyword).length+(if([]:al Keyword).isEmpty then 0 else 1)<30))=true) ah)
 (hline:autoParam ((apos.endLine == cpos.line)=true) ah) (hs:autoParam (starEach (e::es) X.env=(jj,eval e X.env)::starEach es X.env) ah) (hplain:autoParam ((backTo cpos (starEach es X.env)).any (·.1)=false) ah) (hK:autoParam (X.K=K) ah) :
 PE X (.Call (.Attribute o name apos) (e::es) [] cpos) (gq K T r to t):=hK▸BK pa slot hty hm ho ha hbase hfew hline hs hplain
theorem tm {k:Nat} {n:Nat} (h:gC X es t) (hc:autoParam (X.calm=true) ah)
 (hn:autoParam ((assignEach es X.env).length=n) ah) (hst:autoParam ((assignEach es X.env).findIdx? (·.1)=none) ah) (hK:autoParam (X.K=K) ah):PG X (.Tuple es k pos) (lv K n t):=hK▸AK hc h hn hst
end
theorem Cw{H:Hp}(h:H q=none):aH H (aV H q o):=λb u e=>by
 rw [Zn (Yq e h)];exact e
def ml(lo c:Int)(n:Nat):It:=⟨λi _=>i<n,λi H x H'=>H'=H/\x = .int (lo+i*c),λi _=>n<=i⟩
theorem Cy{K:jb}(it:jf)(lo c:Int)(n:Nat):db P w K tg (ml lo c n) [it] it (λi h=>IsRangeIter h it (lo+(i:Nat)*c) ((n:Int)-(i:Nat)) c) where
 mem:=by simp
 obj:=λi h st b hb=>by
  have e:b=it:=by simpa using hb
  subst e
  exact⟨_,st,λv z=>by
   have z':O0 _=oS v:=z;cases z'⟩
 keep:=λi h h' st k=>k it (by simp) _ st
 item:=by
  intro X hP hw hK hc i pins s σ H E I hf st hg;subst hP hw hK;obtain⟨f0,f1,f2,f3,f4,f5⟩:=hf it (by simp);have W:=WK (prog:=X.prog) (w:=X.w) (I.ok.hd hc) it lo c n;refine W.item i s _ _ hg st λv h' tk hv st' kk => ?_
  obtain⟨t,rfl⟩:=hv;have I1:Inv X pins σ H { s with heap:=h',toks:=tk }:=I.turned (λb o hb e=>kk b o (by simpa using hb) e) f0 f1 f3 f4 f5;exact⟨_,rfl,QX (s:={ s with heap:=h',toks:=tk }) (n:="range_iterator") st' rfl rfl (by decide) ⟨.int (lo+i*c),H,I1,⟨t,rfl⟩,⟨rfl,rfl⟩,st',λb hb=>(hf b hb).1⟩⟩
 done:=by
  intro X hP hw hK hc i pins s σ H E I hf st hg;subst hP hw hK;obtain⟨f0,f1,f2,f3,f4,f5⟩:=hf it (by simp);exact vO (I.ok.hd hc) st (by have:n<=i:=hg;omega) λh' eb=>⟨rfl,I.turned (t':=s.toks) (λb o hb e=>eb b o hb e) f0 f1 f3 f4 f5⟩
 self:=λ_ _ _ _ _ st h=>vQ st h
section
variable{X:Cx}{tg:qA}
def tq(ta:TA):TI:=λσ H R=>ta σ H λvs H1=>∃i j c:Int,vs=[.int i,.int j,.int c]/\(c≠0/\c.natAbs<1073741824/\yv i j c=je)/\R (ml i c (jZ i j c).toNat) H1
theorem Cz(i j c:Int)(hc:c≠0):0<=jZ i j c:=by
 unfold jZ
 split
 . split
   . have:=Wr (a:=j-i-1) (b:=c) (by omega) (by omega)
     omega
   . omega
 . split
   . have:=Wr (a:=i-j-1) (b:=-c) (by omega) (by omega)
     omega
   . omega
theorem CA {a b c:qA} (hg:Gl X "range") (hm:X.mg "range" = none) (ha:PA X [a,b,c] ta) (hs:autoParam (starEach [a,b,c] X.env=[(jj,eval a X.env),(jj,eval b X.env),(jj,eval c X.env)]) ah) (hs2:autoParam (starEach [b,c] X.env=[(jj,eval b X.env),(jj,eval c X.env)]) ah) :
 PI X tg (.Call (.Name "range" p) [a,b,c] [] pos) (tq ta):=by
 intro pins s σ H R I h;refine Call_ (Qd I hg hm boot_range (ut (aW (ha pos pins s σ H _ I h) λus s1 ⟨vs,H1,I1,r1,q1⟩ => ?_) (by rw [hs,hs2]) (by rw [hs2];rfl)));obtain⟨i,j,c,e,⟨q1,q2,q3⟩,q⟩:=q1;subst e;cases r1 with
 |cons r rr=>
  cases rr with
  |cons r' rr=>
   cases rr with
   |cons r'' rr=>
    cases rr;obtain⟨t,rfl⟩:=r;obtain⟨t',rfl⟩:=r';obtain⟨t'',rfl⟩:=r'';refine call_range_3 q1 ?_ (.inl (ou q2));refine Wt (Wq ..) q3 ?_;have I2:Inv X pins σ H1 { s1 with heap:=s1.heap.push { cls := .type "range",data := .fields #[.int i t,.int j t',.int c t''] },toks:=s1.toks }:=I1.kept λb o e=>ji _ e
    refine⟨(s1.heap.push { cls := .type "range",data := .fields #[.int i t,.int j t',.int c t''] }).objs.size,[(s1.heap.push { cls := .type "range",data := .fields #[.int i t,.int j t',.int c t''] }).objs.size],_,_,H1,rfl,
     I2.kept (t':=s1.toks) λb o e=>ji _ e,Cy _ i c (jZ i j c).toNat,?_,λb hb => ?_,q⟩
    . have e1:i+((0:Nat):Int)*c=i:=by simp
      have e2:(((jZ i j c).toNat:Nat):Int)-((0:Nat):Int)=jZ i j c:=by
       have:=Cz i j c q1;omega
      show IsRangeIter _ _ (i+((0:Nat):Int)*c) ((((jZ i j c).toNat:Nat):Int)-((0:Nat):Int)) c;rw [e1,e2];exact jD _ rfl
    . have e:b=(s1.heap.push { cls := .type "range",data := .fields #[.int i t,.int j t',.int c t''] }).objs.size:=by simpa using hb
      subst e;exact I2.fpOk (jz _) (I2.hok.fresh (jz _))
end
def mn(n0:Nat)(cs:al Nat):It:=⟨λi _=>i<cs.length,λi H v H'=>∃c p,cs[i]? = ja c/\H p=none/\v = .ref p/\H'=aV H p (.tup [.int ((n0+i:Nat):Int),S [c]]),λi _=>cs.length<=i⟩
theorem tu{A:qe}(hh:A.handled=none)(it:jf)(cs:al Nat)(t:Tok)(n0:Nat) :
 Draws prog w A it [it] (n0+cs.length) (λi v=>∃j c u,i=n0+j/\cs[j]? = ja c/\v = .str ⟨#[c]⟩ u) (λi h=>∃j,i=n0+j/\h.IsStrIter it (strIterType (tx cs)) (tx cs) t j) where
 live:=λi h ⟨j,_,o,ho,_⟩=>⟨o,ho⟩
 frame:=λi h h' ⟨j,e,o,ho,r⟩ hk=>⟨j,e,o,hk it (by simp) o ho,r⟩
 item:=λi s Q E hi st hQ=>by
  obtain⟨j,rfl,st⟩:=st;have hj:j<cs.length:=by omega
  have hx:(tx cs).cps[j]? = ja cs[j]:=by simp [tx,hj]
  rcases Qm (tx cs)with z|z
  . rw [z]at st
    refine wpAny_nextOf_ascii_item st hx λh' st' sb => ?_
    exact hQ _ h' (s.toks+1) ⟨j,_,_,rfl,by simp [hj],rfl⟩ ⟨j+1,by omega,by rw [z];exact st'⟩ sb
  . rw [z]at st
    refine wpAny_nextOf_wide_item st hx λh' st' sb => ?_
    exact hQ _ h' (s.toks+1) ⟨j,_,_,rfl,by simp [hj],rfl⟩ ⟨j+1,by omega,by rw [z];exact st'⟩ sb
 done:=λs Q E st hE=>by
  obtain⟨j,e,st⟩:=st;have hj:j=cs.length:=by omega
  subst hj;have hx:(tx cs).cps[cs.length]? = none:=by simp [tx]
  rcases Qm (tx cs)with z|z
  . rw [z]at st
    exact wpAny_nextOf_ascii_end hh st hx hE
  . rw [z]at st
    exact wpAny_nextOf_wide_end hh st hx hE
theorem CB{K:jb}{x1:Nat}(e it:jf)(hne:e≠it)(n0:Nat)(cs:al Nat)(t:Tok) :
 db P w K (.Tuple elts x1 tpos) (mn n0 cs) [e,it] e (λi h=>(i<=cs.length/\∃old,IsEnum h e it ((n0+i:Nat):Int) old)/\h.IsStrIter it (strIterType (tx cs)) (tx cs) t i) where
 mem:=by simp
 obj:=λi h st b hb=>by
  obtain⟨⟨_,old,he⟩,o,ho,hc,hd⟩:=st;simp at hb;rcases hb with rfl|rfl
  . exact ⟨_, he, fun v z => by
     have z':O0 _=oS v:=z;cases z'⟩
  . exact⟨o,ho,λv z=>by rw [hd]at z;cases z⟩
 keep:=λi h h' st k=>by
  obtain⟨⟨hi,old,he⟩,o,ho,r⟩:=st;exact⟨⟨hi,old,k e (by simp) _ he⟩,o,k it (by simp) o ho,r⟩
 item:=by
  intro X hP hw hK hc i pins s σ H E I hf st hg;subst hP hw hK;obtain⟨⟨_,old,he⟩,st⟩:=st;have hg:i<cs.length:=hg;have f:=hf e (by simp);have g:=hf it (by simp);obtain⟨e0,e1,e2,e3,e4,e5⟩:=f;obtain⟨f0,f1,f2,f3,f4,f5⟩:=g;have D:=tu (prog:=X.prog) (w:=X.w) (A:=X.A.in1) (I.ok.hd hc) it cs t n0;refine vI D he ⟨i,rfl,st⟩ (by omega) hne (by simp [hne]) λx h' tk hP ho st' hT hsz hk => ?_
  obtain⟨j,c,u,ej,hcx,rfl⟩:=hP;have ej':j=i:=by omega
  subst ej';refine⟨_,rfl,va ho λh2 he2 hs2 => ?_⟩;have hs2:ug e h' h2:=hs2;have hTl:e<s.heap.objs.size:=jw he;obtain⟨j',ej2,st''⟩:=st';have ej3:j'=j+1:=by omega
  subst ej3;have hT2:h2.get? s.heap.objs.size=ja { cls := .type "tuple",data := .seq #[.int ((n0+j:Nat):Int) tk,.str ⟨#[c]⟩ u] }:=(hs2.2 _ (yG hTl)).trans hT;have k2:∀b o,b≠e->b≠it->s.heap.get? b=ja o->h2.get? b=ja o:=λb o hb hb' q=>(hs2.2 b hb).trans (hk b o hb hb' q)
  have hTn:H s.heap.objs.size=none:=I.hok.fresh (jz _);have neT:∀b o,s.heap.get? b=ja o->b≠s.heap.objs.size:=λb o q=>jU (jw q)
  have I2:Inv X pins σ (aV H s.heap.objs.size (.tup [.int ((n0+j:Nat):Int),S [c]])) { s with heap:=h2,toks:=tk+1 }:=by
   refine I.step (g':=s.gens) (d':=s.drawn) (ch:=[e,it]) (λb hb => ?_) (λb o _ _ hcb q _ => ?_) (λb o _ _ hcb q _ => ?_) (λb o hcb q n => ?_) (λb o hcb q => ?_) (λb xs q => ?_) (λb o v q => ?_) (λb ps q => ?_) (λm hm => ?_) (λb o q => ?_) I.bare
   . simp at hb
     rcases hb with rfl|rfl
     . exact⟨e3,e1,e4,e5⟩
     . exact⟨f3,f1,f4,f5⟩
   . simp at hcb
     exact k2 b o hcb.1 hcb.2 q
   . simp at hcb
     exact⟨o.slots,k2 b o hcb.1 hcb.2 q⟩
   . rw [Zn (neT b o q)]
     exact n
   . simp at hcb
     exact⟨o,k2 b o hcb.1 hcb.2 q⟩
   . rw [Zn (Yq q hTn)]
     exact q
   . rw [Zn (Yq q hTn)]
     exact q
   . exact⟨#[],by rw [Zn (Yq q hTn),q];simp⟩
   . obtain⟨o,es,ep,q,r⟩:=hm
     exact⟨o,es,ep,k2 _ o (qF e1) (qF f1) q,r⟩
   . by_cases hb:b=s.heap.objs.size
     . subst hb
       rw [ZF]at q;cases q;refine⟨by show 2<=jv;decide,[.int ((n0+j:Nat):Int) tk,.str ⟨#[c]⟩ u],.cons ⟨_,rfl⟩ (.cons ⟨_,rfl⟩ .nil),?_⟩;exact⟨_,hT2,rfl,⟨_,rfl⟩,rfl⟩
     . rw [Zn hb]at q
       have nn:∀(b:jf)(o:HO),H b=ja o->b≠e/\b≠it:=λb o q=>⟨λz=>(by rw [z,e0]at q;cases q),λz=>(by rw [z,f0]at q;cases q)⟩
       refine(I.hok b o q).stay (λd v hd q' => ?_) (λd q'=>by rw [Zn (Yq q' hTn)];exact q') λd xs q'=>by rw [Zn (Yq q' hTn)];exact q'
       rcases hd with rfl|hd
       . exact k2 d v (nn d o q).1 (nn d o q).2 q'
       . exact k2 d v (nn d _ hd).1 (nn d _ hd).2 q'
  have he3:IsEnum h2 e it ((n0+(j+1):Nat):Int) (.str ⟨#[c]⟩ u):=by
   have:((n0+(j+1):Nat):Int)=((n0+j:Nat):Int)+1:=by push_cast;omega
   rw [this];exact he2
  refine⟨.ref s.heap.objs.size,_,I2,rfl,⟨c,s.heap.objs.size,hcx,hTn,rfl,rfl⟩,⟨⟨hg,_,he3⟩,?_⟩,λb hb => ?_⟩
  . obtain⟨o,ho',r⟩:=st''
    exact⟨o,(hs2.2 it (qF hne)).trans ho',r⟩
  . simp at hb
    rcases hb with rfl|rfl
    . rw [Zn (jU hTl)];exact e0
    . obtain⟨o,ho',_⟩:=st
      rw [Zn (neT _ o ho')];exact f0
 done:=by
  intro X hP hw hK hc i pins s σ H E I hf st hg;subst hP hw hK;obtain⟨⟨hi,old,he⟩,st⟩:=st;have hg:cs.length<=i:=hg;have ei:i=cs.length:=by omega
  subst ei;obtain⟨f0,f1,f2,f3,f4,f5⟩:=hf it (by simp);have D:=tu (prog:=X.prog) (w:=X.w) (A:=X.A.in1) (I.ok.hd hc) it cs t n0;exact vP D he ⟨cs.length,rfl,st⟩ λh' eb=>⟨rfl,I.turned (t':=s.toks) (λb o hb q=>eb b o hb q) f0 f1 f3 f4 f5⟩
 self:=λ_ _ _ _ _ st h=>by
  obtain⟨⟨_,old,he⟩,_⟩:=st;exact Oe he h
noncomputable abbrev fv(o:Obj):HO := .frz o (.own 0)
structure Lm where
 qual:Str
 params:Arguments
 body:PySem.Expr
 scope:qH
 N:List Str
 ps:List Str
 fr:List Str
structure bw(H:Hp)(p:jf)(m:Lm)(cl:List (Str×jf))(vc:List V):Prop where
 fn:∃pm c ct,H p=ja (.frz (u1 "<lambda>" m.qual m.params m.body m.scope cl pm c ct) (.fnc c m.qual))
 inj:∀x y c,cl.lookup x=ja c->cl.lookup y=ja c->x=y
 cell:∀q∈cl,∃o v,H q.2=ja (fv o)/\o.data = .cell v
 get:∀(i:Nat)(x:Str),m.fr[i]? = ja x->∃c u v o,cl.lookup x=ja c/\vc[i]? = ja v/\RelV v u/\H c=ja (fv o)/\o.data = .cell (ja u)
 len:vc.length=m.fr.length
variable{H H':Hp}{p:jf}{m:Lm}{cl:al (Str×jf)}{vc:al V}
theorem bw.ext(L:bw H p m cl vc)(h1:∀o,H p=ja o->H' p=ja o)(h2:∀q∈cl,∀o,H q.2=ja o->H' q.2=ja o):bw H' p m cl vc:=
 ⟨let⟨pm,c,ct,e⟩:=L.fn;⟨pm,c,ct,h1 _ e⟩,L.inj,λq hq=>let⟨o,v,e,d⟩:=L.cell q hq;⟨o,v,h2 q hq _ e,d⟩,
   λi x e=>let⟨c,u,v,o,e1,e2,e3,e4,e5⟩:=L.get i x e;⟨c,u,v,o,e1,e2,e3,h2 (x,c) (j4 e1) _ e4,e5⟩,L.len⟩
theorem bw.there(L:bw H p m cl vc):H p≠none:=by
 obtain⟨pm,c,ct,e⟩:=L.fn;rw [e];exact λz=>by cases z
theorem bw.thereC(L:bw H p m cl vc)(q:Str×jf)(hq:q∈cl):H q.2≠none:=by
 obtain⟨o,v,e,_⟩:=L.cell q hq;rw [e];exact λz=>by cases z
end L2
namespace L2
open PySem PySem.Spec PySem.W
def Vb(e:jf)(C:jc)(hp:jX):Prop:=∃o:Obj,hp.get? e=ja o/\o.cls=C
def Vs(e C:jf)(dO:am jf)(h:jX):Prop:=∃o:Obj,h.get? e=ja o/\o.cls = .ref C/\o.dict=dO/\notCls o=je
end L2
namespace DL
open PySem PySem.Spec L2
inductive D where
 |non
 |bl (b:Bool)
 |int (i:Int)
 |str (cs:List Nat)
 |lst (xs:List D)
 |tup (xs:List D)
 |obj (c:String) (ks:List String) (xs:List D)
 |dct (ks:List cQ) (xs:List D)
 |dtt (ks:List (List cQ)) (xs:List D)
 |exc (c:String) (r:Option Int)
 |clo (k:Nat) (xs:List D)
def KL(K:jb)(a:jf)(vs:al V):Prop:=∃(o:Obj) (its:Array jc) (n:Nat),K.lookup a=ja o/\o.cls = .type "list" /\ o.dict=none/\o.data = .seq its n/\its.size<=jv/\aR vs its.toList
structure Kn where
 c:String->jf
 K:jb
 lm:Nat->Lm
def ZA:D->Bool
 | .non=>je
 | .bl _=>je
 | .int _=>je
 | .str _=>je
 |_=>jj
def cN(cA:Kn)(av:jf->Prop)(H:Hp)(c:String):am Int->jf->Prop
 |none,a=>∃φ,H a=ja (.ext φ)/\∀h,φ h->Vb a (.ref (cA.c c)) h
 |some i,a=>∃d φ,¬av d/\H a=ja (.ext φ)/\(∀h,φ h->Vs a (cA.c c) (ja d) h)/\H d=ja (.xd [(jE "row",.int i)])
mutual
def Rep(cA:Kn)(av:jf->Prop)(H:Hp):D->V->Prop
 | .non,v=>v = .non
 | .bl b,v=>v = .bl b
 | .int i,v=>v = .int i
 | .str cs,v=>v=S cs
 | .lst xs,v=>∃a vs,v = .ref a/\(av a->KL cA.K a vs)/\bv cA.K H a vs/\aD cA av H xs vs
 | .tup xs,v=>∃a vs,v = .ref a/\¬av a/\H a=ja (.tup vs)/\aD cA av H xs vs
 | .obj c ks xs,v=>∃a dx vs,v = .ref a/\¬av a/\H a=ja (.ins (cA.c c) dx ((ks.map jE).zip vs))/\ks.length=xs.length/\aD cA av H xs vs
 | .dct ks xs,v=>∃a vs,v = .ref a/\¬av a/\H a=ja (.dK (ks.zip vs))/\ks.length=xs.length/\aD cA av H xs vs
 | .dtt ks xs,v=>∃a vs,v = .ref a/\¬av a/\H a=ja (.dT (ks.zip vs))/\ks.length=xs.length/\aD cA av H xs vs
 | .clo k xs,v=>∃p cl vs,v = .ref p/\¬av p/\(∀q∈cl,¬av q.2)/\bw H p (cA.lm k) cl vs/\aD cA av H xs vs
 | .exc c r,v=>∃a,v = .ref a/\¬av a/\cN cA av H c r a
def aD(cA:Kn)(av:jf->Prop)(H:Hp):al D->al V->Prop
 | [],vs=>vs=[]
 |x::xs,vs=>∃v r,vs=v::r/\Rep cA av H x v/\aD cA av H xs r
end
section
variable{cA:Kn}{G:Cn}{av av':jf->Prop}{H H':Hp}
theorem Rd.ext{a:jf}{u:HO}(h:Rd H a u)(k:∀o,H a=ja o->H' a=ja o):Rd H' a u:=by
 rcases h with h|⟨o,h⟩
 . exact .inl (k _ h)
 . exact .inr ⟨o,k _ h⟩
theorem Rd.there{a:jf}{u:HO}(h:Rd H a u):H a≠none:=by
 rcases h with h|⟨o,h⟩<;>rw [h]<;>exact λz=>by cases z
theorem mq{K:jb}(n:av a->KL K a vs)(r:bv K H a vs)(k:∀b o,¬av b->H b=ja o->H' b=ja o):bv K H' a vs:=by
 by_cases h:av a
 . exact .inr (n h)
 . rcases r with r|r
   . exact .inl (Rd.ext r λo=>k a o h)
   . exact .inr r
theorem CC{K:jb}(n:av a->KL K a vs)(r:bv K H a vs)(k:∀b,av' b->av b\/H b=none):av' a->KL K a vs:=λz=>by
 rcases k a z with z|z
 . exact n z
 . rcases r with r|r
   . exact absurd z (Rd.there r)
   . exact r
theorem cN.ext{c:String}{r:am Int}{a:jf}(k:∀b o,¬av b->H b=ja o->H' b=ja o)(n:¬av a)(h:cN cA av H c r a):cN cA av H' c r a:=by
 cases r with
 |none=>obtain⟨φ,h1,h2⟩:=h;exact⟨φ,k _ _ n h1,h2⟩
 |some i=>obtain⟨d,φ,h1,h2,h4,h3⟩:=h;exact⟨d,φ,h1,k _ _ n h2,h4,k _ _ h1 h3⟩
theorem cN.less{c:String}{r:am Int}{a:jf}(k:∀b,av' b->av b\/H b=none)(h:cN cA av H c r a):cN cA av' H c r a:=by
 cases r with
 |none=>exact h
 |some i=>obtain⟨d,φ,h1,h2,h4,h3⟩:=h;exact⟨d,φ,λy=>(k d y).elim h1 (by rw [h3];exact λz=>by cases z),h2,h4,h3⟩
theorem cN.there{c:String}{r:am Int}{a:jf}(h:cN cA av H c r a):H a≠none:=by
 cases r with
 |none=>obtain⟨φ,h1,h2⟩:=h;rw [h1];exact λz=>by cases z
 |some i=>obtain⟨d,φ,h1,h2,_⟩:=h;rw [h2];exact λz=>by cases z
mutual
theorem Rep.ext:∀{d:D}{v:V},(∀b o,¬av b->H b=ja o->H' b=ja o)->Rep cA av H d v->Rep cA av H' d v
 | .non,_,_,h=>h
 | .bl _,_,_,h=>h
 | .int _,_,_,h=>h
 | .str _,_,_,h=>h
 | .lst xs,v,k,h=>by
  unfold Rep at h ⊢;obtain⟨a,vs,e,n,r,l⟩:=h;exact⟨a,vs,e,n,mq n r k,aD.ext k l⟩
 | .tup xs,v,k,h=>by
  unfold Rep at h ⊢;obtain⟨a,vs,e,n,r,l⟩:=h;exact⟨a,vs,e,n,k a _ n r,aD.ext k l⟩
 | .obj c ks xs,v,k,h=>by
  unfold Rep at h ⊢;obtain⟨a,dx,vs,e,n,r,z,l⟩:=h;exact⟨a,dx,vs,e,n,k a _ n r,z,aD.ext k l⟩
 | .dct ks xs,v,k,h=>by
  unfold Rep at h ⊢;obtain⟨a,vs,e,n,r,z,l⟩:=h;exact⟨a,vs,e,n,k a _ n r,z,aD.ext k l⟩
 | .dtt ks xs,v,k,h=>by
  unfold Rep at h ⊢;obtain⟨a,vs,e,n,r,z,l⟩:=h;exact⟨a,vs,e,n,k a _ n r,z,aD.ext k l⟩
 | .clo i xs,v,k,h=>by
  unfold Rep at h ⊢;obtain⟨p,cl,vs,e,n,nc,r,l⟩:=h;exact⟨p,cl,vs,e,n,nc,r.ext (k p · n ·) λq hq o=>k q.2 o (nc q hq),aD.ext k l⟩
 | .exc c r,v,k,h=>by
  unfold Rep at h ⊢;obtain⟨a,e,n,x⟩:=h;exact⟨a,e,n,x.ext k n⟩
theorem aD.ext:∀{xs:al D}{vs:al V},(∀b o,¬av b->H b=ja o->H' b=ja o)->aD cA av H xs vs->aD cA av H' xs vs
 | [],_,_,h=>h
 |x::xs,vs,k,h=>by
  unfold aD at h ⊢;obtain⟨v,r,e,h1,h2⟩:=h;exact⟨v,r,e,Rep.ext k h1,aD.ext k h2⟩
end
mutual
theorem Rep.av:∀{d:D}{v:V},(∀b,av' b->av b\/H b=none)->Rep cA av H d v->Rep cA av' H d v
 | .non,_,_,h=>h
 | .bl _,_,_,h=>h
 | .int _,_,_,h=>h
 | .str _,_,_,h=>h
 | .lst xs,v,k,h=>by
  unfold Rep at h ⊢;obtain⟨a,vs,e,n,r,l⟩:=h;exact⟨a,vs,e,CC n r k,r,aD.av k l⟩
 | .tup xs,v,k,h=>by
  unfold Rep at h ⊢;obtain⟨a,vs,e,n,r,l⟩:=h;exact⟨a,vs,e,λz=>(k a z).elim n (by rw [r];exact λz=>by cases z),r,aD.av k l⟩
 | .obj c ks xs,v,k,h=>by
  unfold Rep at h ⊢;obtain⟨a,dx,vs,e,n,r,z,l⟩:=h;exact⟨a,dx,vs,e,λy=>(k a y).elim n (by rw [r];exact λz=>by cases z),r,z,aD.av k l⟩
 | .dct ks xs,v,k,h=>by
  unfold Rep at h ⊢;obtain⟨a,vs,e,n,r,z,l⟩:=h;exact⟨a,vs,e,λy=>(k a y).elim n (by rw [r];exact λz=>by cases z),r,z,aD.av k l⟩
 | .dtt ks xs,v,k,h=>by
  unfold Rep at h ⊢;obtain⟨a,vs,e,n,r,z,l⟩:=h;exact⟨a,vs,e,λy=>(k a y).elim n (by rw [r];exact λz=>by cases z),r,z,aD.av k l⟩
 | .clo i xs,v,k,h=>by
  unfold Rep at h ⊢;obtain⟨p,cl,vs,e,n,nc,r,l⟩:=h;exact⟨p,cl,vs,e,λy=>(k p y).elim n r.there,λq hq y=>(k q.2 y).elim (nc q hq) (r.thereC q hq),r,aD.av k l⟩
 | .exc c r,v,k,h=>by
  unfold Rep at h ⊢;obtain⟨a,e,n,x⟩:=h;exact⟨a,e,λy=>(k a y).elim n x.there,x.less k⟩
theorem aD.av:∀{xs:al D}{vs:al V},(∀b,av' b->av b\/H b=none)->aD cA av H xs vs->aD cA av' H xs vs
 | [],_,_,h=>h
 |x::xs,vs,k,h=>by
  unfold aD at h ⊢;obtain⟨v,r,e,h1,h2⟩:=h;exact⟨v,r,e,Rep.av k h1,aD.av k h2⟩
end
theorem Rep.same{d:D}{v:V}(k:aH H H')(h:Rep cA av H d v):Rep cA av H' d v:=h.ext λb o _=>k b o
theorem aD.same{xs:al D}{vs:al V}(k:aH H H')(h:aD cA av H xs vs):aD cA av H' xs vs:=h.ext λb o _=>k b o
theorem aD.nil:aD cA av H [] []:=by unfold aD;rfl
theorem aD.cons{d:D}{v:V}{xs:al D}{vs:al V}(h:Rep cA av H d v)(t:aD cA av H xs vs):aD cA av H (d::xs) (v::vs):=by
 unfold aD;exact⟨v,vs,rfl,h,t⟩
theorem aD.uncons{d:D}{xs:al D}{vs:al V}(h:aD cA av H (d::xs) vs):∃v r,vs=v::r/\Rep cA av H d v/\aD cA av H xs r:=by
 unfold aD at h;exact h
theorem aD.nil_of{vs:al V}(h:aD cA av H [] vs):vs=[]:=by
 unfold aD at h;exact h
theorem aD.length:∀{xs:al D}{vs:al V},aD cA av H xs vs->xs.length=vs.length
 | [],vs,h=>by rw [h.nil_of];rfl
 |x::xs,vs,h=>by
  obtain⟨v,r,rfl,_,t⟩:=h.uncons;rw [jh,jh,aD.length t]
theorem aD.get:∀{xs:al D}{vs:al V}{i:Nat}{x:D},aD cA av H xs vs->xs[i]? = ja x->∃v,vs[i]? = ja v/\Rep cA av H x v
 | [],_,_,_,_,e=>by simp at e
 |y::xs,vs,0,x,h,e=>by
  obtain⟨v,r,rfl,h1,_⟩:=h.uncons;simp at e;subst e;exact⟨v,rfl,h1⟩
 |y::xs,vs,i+1,x,h,e=>by
  obtain⟨v,r,rfl,_,t⟩:=h.uncons;obtain⟨u,h1,h2⟩:=aD.get (i:=i) t (by simpa using e);exact⟨u,by simpa using h1,h2⟩
theorem aD.append:∀{xs ys:al D}{vs ws:al V},aD cA av H xs vs->aD cA av H ys ws->aD cA av H (xs++ys) (vs++ws)
 | [],_,vs,_,h,t=>by rw [h.nil_of];exact t
 |x::xs,ys,vs,ws,h,t=>by
  obtain⟨v,r,rfl,h1,h2⟩:=h.uncons;exact .cons h1 (aD.append h2 t)
theorem aD.drop:∀{xs:al D}{vs:al V}(n:Nat),aD cA av H xs vs->aD cA av H (xs.drop n) (vs.drop n)
 |_,_,0,h=>h
 | [],vs,n+1,h=>by rw [h.nil_of];exact .nil
 |x::xs,vs,n+1,h=>by
  obtain⟨v,r,rfl,_,h2⟩:=h.uncons;exact aD.drop n h2
theorem aD.take:∀{xs:al D}{vs:al V}(n:Nat),aD cA av H xs vs->aD cA av H (xs.take n) (vs.take n)
 |_,_,0,h=>by simp;exact .nil
 | [],vs,n+1,h=>by rw [h.nil_of];exact .nil
 |x::xs,vs,n+1,h=>by
  obtain⟨v,r,rfl,h1,h2⟩:=h.uncons;exact .cons h1 (aD.take n h2)
def bP:D->V
 | .bl b => .bl b
 | .int i => .int i
 | .str cs=>S cs
 |_ => .non
theorem Rep.val{d:D}{v:V}(hs:ZA d=je)(h:Rep cA av H d v):v=DL.bP d:=by
 cases d<;>first|exact h|cases hs
theorem Rep.of_val{d:D}(hs:ZA d=je):Rep cA av H d (DL.bP d):=by
 cases d<;>first|rfl|cases hs
theorem aD.vals:∀{xs:al D}{vs:al V},xs.all ZA=je->aD cA av H xs vs->vs=xs.map DL.bP
 | [],vs,_,h=>h.nil_of
 |x::xs,vs,hs,h=>by
  rw [yw,jF]at hs;obtain⟨v,r,rfl,h1,h2⟩:=h.uncons;rw [jy,h1.val hs.1,aD.vals hs.2 h2]
theorem aD.of_vals:∀{xs:al D},xs.all ZA=je->aD cA av H xs (xs.map DL.bP)
 | [],_ => .nil
 |x::xs,hs=>by
  rw [yw,jF]at hs;exact .cons (.of_val hs.1) (aD.of_vals hs.2)
def bf(cA:Kn)(t i:jf->Prop)(H:Hp):D->V->Prop
 | .lst xs,v=>∃a vs,v = .ref a/\(t a->KL cA.K a vs)/\bv cA.K H a vs/\aD cA i H xs vs
 | .tup xs,v=>∃a vs,v = .ref a/\¬t a/\H a=ja (.tup vs)/\aD cA i H xs vs
 | .obj c ks xs,v=>∃a dx vs,v = .ref a/\¬t a/\H a=ja (.ins (cA.c c) dx ((ks.map jE).zip vs))/\ks.length=xs.length/\aD cA i H xs vs
 | .dct ks xs,v=>∃a vs,v = .ref a/\¬t a/\H a=ja (.dK (ks.zip vs))/\ks.length=xs.length/\aD cA i H xs vs
 | .dtt ks xs,v=>∃a vs,v = .ref a/\¬t a/\H a=ja (.dT (ks.zip vs))/\ks.length=xs.length/\aD cA i H xs vs
 | .clo k xs,v=>∃p cl vs,v = .ref p/\¬t p/\(∀q∈cl,¬t q.2)/\bw H p (cA.lm k) cl vs/\aD cA i H xs vs
 | .exc c r,v=>∃a,v = .ref a/\¬t a/\cN cA t H c r a
 |d,v=>v=DL.bP d
theorem Rep.t{d:D}{v:V}(h:Rep cA av H d v):bf cA av av H d v:=by
 cases d<;>first|exact h|(unfold Rep at h;exact h)
theorem bf.r{d:D}{v:V}(h:bf cA av av H d v):Rep cA av H d v:=by
 cases d<;>first|exact h|(unfold Rep;exact h)
theorem bf.weak{t t' i i':jf->Prop}{d:D}{v:V}(ht:∀a,t' a->t a)(hi:∀a,i' a->i a)(h:bf cA t i H d v):bf cA t' i' H d v:=by
 cases d with
 |lst xs=>obtain⟨a,vs,e,n,r,l⟩:=h;exact⟨a,vs,e,λz=>n (ht a z),r,l.av λb z => .inl (hi b z)⟩
 |tup xs=>obtain⟨a,vs,e,n,r,l⟩:=h;exact⟨a,vs,e,λz=>n (ht a z),r,l.av λb z => .inl (hi b z)⟩
 |obj c ks xs=>obtain⟨a,dx,vs,e,n,r,z,l⟩:=h;exact⟨a,dx,vs,e,λz=>n (ht a z),r,z,l.av λb z => .inl (hi b z)⟩
 |dct ks xs=>obtain⟨a,vs,e,n,r,z,l⟩:=h;exact⟨a,vs,e,λz=>n (ht a z),r,z,l.av λb z => .inl (hi b z)⟩
 |dtt ks xs=>obtain⟨a,vs,e,n,r,z,l⟩:=h;exact⟨a,vs,e,λz=>n (ht a z),r,z,l.av λb z => .inl (hi b z)⟩
 |clo c xs=>obtain⟨p,cl,vs,e,n,nc,r,l⟩:=h;exact⟨p,cl,vs,e,λz=>n (ht p z),λq hq z=>nc q hq (ht q.2 z),r,l.av λb z => .inl (hi b z)⟩
 |exc c r=>obtain⟨a,e,n,x⟩:=h;exact⟨a,e,λz=>n (ht a z),x.less λb z => .inl (ht b z)⟩
 |_=>exact h
theorem bf.same{t i:jf->Prop}{d:D}{v:V}(k:aH H H')(h:bf cA t i H d v):bf cA t i H' d v:=by
 cases d with
 |lst xs=>obtain⟨a,vs,e,n,r,l⟩:=h;exact⟨a,vs,e,n,k.seq r,l.same k⟩
 |tup xs=>obtain⟨a,vs,e,n,r,l⟩:=h;exact⟨a,vs,e,n,k a _ r,l.same k⟩
 |obj c ks xs=>obtain⟨a,dx,vs,e,n,r,z,l⟩:=h;exact⟨a,dx,vs,e,n,k a _ r,z,l.same k⟩
 |dct ks xs=>obtain⟨a,vs,e,n,r,z,l⟩:=h;exact⟨a,vs,e,n,k a _ r,z,l.same k⟩
 |dtt ks xs=>obtain⟨a,vs,e,n,r,z,l⟩:=h;exact⟨a,vs,e,n,k a _ r,z,l.same k⟩
 |clo c xs=>obtain⟨p,cl,vs,e,n,nc,r,l⟩:=h;exact⟨p,cl,vs,e,n,nc,r.ext (k p) λq _=>k q.2,l.same k⟩
 |exc c r=>obtain⟨a,e,n,x⟩:=h;exact⟨a,e,n,x.ext (λb o _=>k b o) n⟩
 |_=>exact h
end
abbrev Env:=al (am D)
structure Cn where
 cA:Kn
 pin:Nat->Option (jf ⊕ V)
def AV(av:jf->Prop)(A:Nat->am jf)(a:jf):Prop:=av a\/∃i,A i=ja a
def dL(cA:Kn)(av:jf->Prop)(H:Hp):D->jf->Prop
 | .lst xs,a=>∃vs,H a=ja (.lst vs)/\aD cA av H xs vs
 | .obj c ks xs,a=>∃dx vs,H a=ja (.ins (cA.c c) dx ((ks.map jE).zip vs))/\ks.length=xs.length/\aD cA av H xs vs
 | .dct ks xs,a=>∃vs,H a=ja (.dK (ks.zip vs))/\ks.length=xs.length/\aD cA av H xs vs
 | .dtt ks xs,a=>∃vs,H a=ja (.dT (ks.zip vs))/\ks.length=xs.length/\aD cA av H xs vs
 |_,_=>False
structure ER(G:Cn)(ow:List Nat)(H0:Hp)(av:jf->Prop)(A:Nat->Option jf)(σ:St)(H:Hp)(δ:Env):Prop where
 same:aH H0 H
 avd:∀a,av a->H0 a≠none
 fr:∀i a,A i=ja a->H0 a=none
 inj:∀i j a,A i=ja a->A j=ja a->i=j
 live:∀i a,A i=ja a->H a≠none
 dom:∀i,A i≠none->i∈ow
 dom':∀i∈ow,A i≠none
 len:σ.length=δ.length
 pin:∀i a,G.2 i=ja (.inl a)->A i=ja a
 kept:∀i v,G.2 i=ja (.inr v)->σ[i]? = ja (ja v)
 var:∀(i:Nat)(d:D),δ[i]? = ja (ja d)->∃v,σ[i]? = ja (ja v)/\(A i=none->Rep G.1 (AV av A) H d v)/\(∀a,A i=ja a->v = .ref a/\dL G.1 (AV av A) H d a)
inductive Ql where
 |cl|tp|dt
def cC(cA:Kn)(av:jf->Prop)(A:Nat->am jf)(H:Hp):Ql->D->V->Prop
 | .cl,d,v=>bf cA (AV av A) (AV av A) H d v
 | .tp,d,v=>bf cA av (AV av A) H d v
 | .dt,d,v=>bf cA av av H d v
def Ql.it:Ql->Ql
 | .dt => .dt
 |_ => .cl
section
variable{cA:Kn}{G:Cn}{ow:al Nat}{H0 H H':Hp}{av:jf->Prop}{A:Nat->am jf}{σ:St}{δ:Env}
def Ql.iv(q:Ql)(av:jf->Prop)(A:Nat->am jf):jf->Prop:=match q with
 | .dt=>av
 |_=>AV av A
theorem cC.tp{q:Ql}{d:D}{v:V}(h:cC cA av A H q d v):bf cA av (q.iv av A) H d v:=by
 cases q with
 |cl=>exact h.weak (λa => .inl) λa z=>z
 |tp=>exact h
 |dt=>exact h
theorem cC.any{q:Ql}{d:D}{v:V}(h:cC cA av A H q d v):Rep cA av H d v:=by
 cases q with
 |cl=>exact(h.weak (λa => .inl) λa => .inl).r
 |tp=>exact(h.weak (λa z=>z) λa => .inl).r
 |dt=>exact h.r
theorem cC.same{q:Ql}{d:D}{v:V}(k:aH H H')(h:cC cA av A H q d v):cC cA av A H' q d v:=by
 cases q<;>exact bf.same k h
theorem ER.mono(E:ER G ow H0 av A σ H δ)(k:aH H H'):ER G ow H0 av A σ H' δ:=by
 refine⟨E.same.trans k,E.avd,E.fr,E.inj,λi a e => ?_,E.dom,E.dom',E.len,E.pin,E.kept,λi d e => ?_⟩
 . have:=E.live i a e
   cases q:H a with
   |none=>exact absurd q this
   |some o=>rw [k a o q];exact λz=>by cases z
 . obtain⟨v,h1,h2,h3⟩:=E.var i d e
   refine⟨v,h1,λz=>(h2 z).same k,λa z=>⟨(h3 a z).1,?_⟩⟩;have:=(h3 a z).2;cases d with
   |lst xs=>obtain⟨vs,q1,q2⟩:=this;exact⟨vs,k _ _ q1,q2.same k⟩
   |obj c ks xs=>obtain⟨dx,vs,q1,q0,q2⟩:=this;exact⟨dx,vs,k _ _ q1,q0,q2.same k⟩
   |dct ks xs=>obtain⟨vs,q1,q0,q2⟩:=this;exact⟨vs,k _ _ q1,q0,q2.same k⟩
   |dtt ks xs=>obtain⟨vs,q1,q0,q2⟩:=this;exact⟨vs,k _ _ q1,q0,q2.same k⟩
   |_=>exact this
theorem ER.avl(E:ER G ow H0 av A σ H δ):∀a,AV av A a->H a≠none:=λa h=>by
 rcases h with h|⟨i,h⟩
 . have:=E.avd a h
   cases q:H0 a with
   |none=>exact absurd q this
   |some o=>rw [E.same a o q];exact λz=>by cases z
 . exact E.live i a h
theorem ER.avH(E:ER G ow H0 av A σ H δ):∀a,av a->H a≠none:=λa h=>E.avl a (.inl h)
end
def VE(G:Cn)(ow:al Nat)(te:TE)(q:Ql)(ε:Env->am D):Prop:=
 ∀H0 av A σ H δ,ER G ow H0 av A σ H δ->∀d,ε δ=ja d->∀Q:VK,(∀v H',aH H H'->cC G.1 av A H' q d v->Q v H')->te σ H Q
def VF(G:Cn)(ow:al Nat)(te:TE)(ε:Env->am D):Prop:=
 ∀H0 av A σ H δ,ER G ow H0 av A σ H δ->∀d,ε δ=ja d->∀Q:VK,(∀p vs xs H1,aH H H1->H1 p=none->aD G.1 (AV av A) H1 xs vs->d = .lst xs->Q (.ref p) (aV H1 p (.lst vs)))->te σ H Q
def VT(G:Cn)(ow:al Nat)(tt:TT)(τ:Env->am Bool):Prop:=
 ∀H0 av A σ H δ,ER G ow H0 av A σ H δ->∀b,τ δ=ja b->∀Q:Bool->Hp->Prop,(∀H',aH H H'->Q b H')->tt σ H Q
def bx(cA:Kn)(av:jf->Prop)(A:Nat->am jf)(H:Hp)(q:Ql):al D->al V->Prop
 | [],vs=>vs=[]
 |x::xs,vs=>∃v r,vs=v::r/\cC cA av A H q x v/\bx cA av A H q xs r
def VA(G:Cn)(ow:al Nat)(ta:TA)(q:Ql)(α:Env->am (al D)):Prop:=
 ∀H0 av A σ H δ,ER G ow H0 av A σ H δ->∀ds,α δ=ja ds->∀Q:al V->Hp->Prop,(∀vs H',aH H H'->bx G.1 av A H' q ds vs->Q vs H')->ta σ H Q
section
variable{cA:Kn}{G:Cn}{ow:al Nat}
theorem bx.cl{av:jf->Prop}{A:Nat->am jf}{H:Hp}:∀{xs:al D}{vs:al V},bx cA av A H .cl xs vs->aD cA (AV av A) H xs vs
 | [],_,h=>by unfold aD;exact h
 |x::xs,vs,h=>by
  obtain⟨v,r,e,h1,h2⟩:=h;subst e;exact .cons (bf.r h1) (bx.cl h2)
theorem bx.any{av:jf->Prop}{A:Nat->am jf}{H:Hp}{q:Ql}:∀{xs:al D}{vs:al V},bx cA av A H q xs vs->aD cA av H xs vs
 | [],_,h=>by unfold aD;exact h
 |x::xs,vs,h=>by
  obtain⟨v,r,e,h1,h2⟩:=h;subst e;exact .cons h1.any (bx.any h2)
theorem YB{H:Hp}(h:H p=none):aH H (aV H p o):=Cw h
theorem VF.cl{te:TE}{ε:Env->am D}(h:VF G ow te ε):VE G ow te .cl ε:=λH0 av A σ H δ E d e Q k=>
 h H0 av A σ H δ E d e Q λp vs xs H1 s hp l hd=>by
  subst hd;refine k _ _ (s.trans (YB hp)) ⟨p,vs,rfl,λz=>((E.mono s).avl p z hp).elim,bv.of ZF,l.same (YB hp)⟩
noncomputable def Za(i:Nat)(δ:Env):am D:=match δ[i]? with
 |some (ja d)=>ja d
 |_=>none
theorem Xi{i:Nat}{δ:Env}{d:D}(h:Za i δ=ja d):δ[i]? = ja (ja d):=by
 unfold Za at h;cases e:δ[i]? with
 |none=>rw [e]at h;cases h
 |some o=>
  rw [e]at h;cases o with
  |none=>cases h
  |some x=>exact congrArg (ja∘ja) (jx h)
theorem Ze(i:Nat)(hi:autoParam ((ow.contains i)=false) ah):VE G ow (Xu i) .cl (Za i):=λH0 av A σ H δ E d e Q k=>by
 obtain⟨v,h1,h2,_⟩:=E.var i d (Xi e)
 have hn:A i=none:=by
  cases q:A i with
  |none=>rfl
  |some a=>
   have:=E.dom i (by rw [q];exact λz=>by cases z);simp at hi;exact absurd this hi
 exact⟨v,h1,k v H (aH.refl H) (h2 hn).t⟩
theorem CD(i:Nat)(hi:(ow.contains i)=je):VE G ow (Xu i) .tp (Za i):=λH0 av A σ H δ E d e Q k=>by
 obtain⟨v,h1,_,h3⟩:=E.var i d (Xi e);have hi':i∈ow:=by simpa using hi
 cases q:A i with
 |none=>exact absurd q (E.dom' i hi')
 |some a=>
  obtain⟨rfl,o⟩:=h3 a q;have na:¬av a:=λz=>E.avd a z (E.fr i a q)
  refine⟨_,h1,k _ H (aH.refl H) ?_⟩;cases d with
  |lst xs=>obtain⟨vs,q1,q2⟩:=o;exact⟨a,vs,rfl,λz=>(na z).elim,bv.of q1,q2⟩
  |obj c ks xs=>obtain⟨dx,vs,q1,q0,q2⟩:=o;exact⟨a,dx,vs,rfl,na,q1,q0,q2⟩
  |dct ks xs=>obtain⟨vs,q1,q0,q2⟩:=o;exact⟨a,vs,rfl,na,q1,q0,q2⟩
  |dtt ks xs=>obtain⟨vs,q1,q0,q2⟩:=o;exact⟨a,vs,rfl,na,q1,q0,q2⟩
  |_=>exact qi o
def eC(d:D)(_:Env):am D:=ja d
theorem Zt{v:V}(hs:ZA d=je)(hv:v=bP d):VE G ow (tC v) .cl (eC d):=λH0 av A σ H δ E d' e Q k=>by
 have e':d=d':=jx e;subst e' hv;exact k _ H (aH.refl H) (Rep.of_val hs).t
def X1(cA:Kn)(r:R2)(f:D->D->am D):Prop:=
 ∀(t t' i:jf->Prop)(H:Hp)(x y:D)(vx vy:V)(d:D),(∀a,i a->H a≠none)->bf cA t i H x vx->bf cA t' i H y vy->f x y=ja d->∀Q:VK,(∀v H',aH H H'->Rep cA i H' d v->Q v H')->r vx vy H Q
noncomputable def aB(f:D->D->am D)(a b:Env->am D)(δ:Env):am D:=match a δ with
 |some x=>match b δ with
  |some y=>f x y
  |none=>none
 |none=>none
theorem Q8{f:D->D->am D}{a b:Env->am D}{d:D}(h:aB f a b δ=ja d):∃x y,a δ=ja x/\b δ=ja y/\f x y=ja d:=by
 unfold aB at h;cases ea:a δ with
 |none=>rw [ea]at h;cases h
 |some x=>
  rw [ea]at h;cases eb:b δ with
  |none=>rw [eb]at h;cases h
  |some y=>rw [eb]at h;exact⟨x,y,rfl,rfl,h⟩
def Ql.jn:Ql->Ql->Ql
 | .dt,_ => .dt
 |_,.dt => .dt
 |_,_ => .cl
theorem ZE{r:R2}{qa qb:Ql}(hr:X1 G.1 r f)(ha:VE G ow ta qa a)(hb:VE G ow tb qb b):VE G ow (gb r ta tb) (qa.jn qb) (aB f a b):=λH0 av A σ H δ E d e Q k=>by
 obtain⟨x,y,ex,ey,ed⟩:=Q8 e;refine ha H0 av A σ H δ E x ex _ λvx H1 s1 r1=>hb H0 av A σ H1 δ (E.mono s1) y ey _ λvy H2 s2 r2 => ?_
 have E2:=(E.mono s1).mono s2;have r1':=(r1.same s2).tp;have r2':=r2.tp;have key:∀i:jf->Prop,(∀a,i a->H2 a≠none)->bf G.1 av i H2 x vx->bf G.1 av i H2 y vy->(∀v H',aH H2 H'->Rep G.1 i H' d v->Q v H')->r vx vy H2 Q:=λi hi h1 h2 h3=>hr av av i H2 x y vx vy d hi h1 h2 ed Q h3
 have toav:∀{dd:D}{v:V},bf G.1 av (AV av A) H2 dd v->bf G.1 av av H2 dd v:=λh=>h.weak (λa z=>z) λa => .inl
 cases qa with
 |dt=>
  refine key av E2.avH r1' ?_ λv H' s3 r3=>k v H' ((s1.trans s2).trans s3) r3.t
  cases qb with
  |dt=>exact r2'
  |cl=>exact toav r2'
  |tp=>exact toav r2'
 |cl=>
  cases qb with
  |dt=>exact key av E2.avH (toav r1') r2' λv H' s3 r3=>k v H' ((s1.trans s2).trans s3) r3.t
  |cl=>exact key _ E2.avl r1' r2' λv H' s3 r3=>k v H' ((s1.trans s2).trans s3) r3.t
  |tp=>exact key _ E2.avl r1' r2' λv H' s3 r3=>k v H' ((s1.trans s2).trans s3) r3.t
 |tp=>
  cases qb with
  |dt=>exact key av E2.avH (toav r1') r2' λv H' s3 r3=>k v H' ((s1.trans s2).trans s3) r3.t
  |cl=>exact key _ E2.avl r1' r2' λv H' s3 r3=>k v H' ((s1.trans s2).trans s3) r3.t
  |tp=>exact key _ E2.avl r1' r2' λv H' s3 r3=>k v H' ((s1.trans s2).trans s3) r3.t
end
mutual
def cI:D->PyData
 | .non => .none
 | .bl b => .bool b
 | .int i => .int i
 | .str cs => .str (tx cs)
 | .lst xs => .list (Up xs)
 | .tup xs => .tuple (Up xs)
 | .obj _ _ _ => .dict []
 | .dct _ _ => .dict []
 | .dtt _ _ => .dict []
 | .exc _ _ => .dict []
 | .clo _ _ => .dict []
def Up:al D->al PyData
 | []=>[]
 |x::xs=>cI x::Up xs
end
section
variable{X:Cx}{cA:Kn}
mutual
theorem Q9{s:jg}(hK:cA.K=X.K)(I:Inv X pins σ H s):∀(d:D)(v:V)(u:jc),yx (cI d)=je->Rep cA av H d v->RelV v u->∃as,Reads s.heap u (cI d) as
 | .non,v,u,_,h,r=>by
  cases(show v = .non from h);cases r;exact⟨_,.none⟩
 | .bl b,v,u,_,h,r=>by
  cases(show v = .bl b from h);cases r;exact⟨_,.bool b⟩
 | .int i,v,u,_,h,r=>by
  cases(show v = .int i from h);obtain⟨t,rfl⟩:=r;exact⟨_,.int i t⟩
 | .str cs,v,u,_,h,r=>by
  cases(show v=S cs from h);obtain⟨t,rfl⟩:=r;exact⟨_,.str _ t⟩
 | .lst xs,v,u,c,h,r=>by
  unfold Rep at h;obtain⟨a,vs,rfl,_,rd,l⟩:=h;cases r;obtain⟨its,rv,⟨ob,n,e,hc,hd,hs⟩,z⟩:=I.list (show bv X.K H a vs from hK▸rd);obtain⟨as,ra⟩:=mr hK I xs vs its (by unfold cI yx at c;exact c) l rv;unfold cI;exact⟨_,.list e hc hs (by simpa using ra)⟩
 | .tup xs,v,u,c,h,r=>by
  unfold Rep at h;obtain⟨a,vs,rfl,_,rd,l⟩:=h;cases r;obtain⟨z,its,rv,ob,e,hc,⟨n,hd⟩,_⟩:=(show aZ X.prog X.w H s.heap a (.tup vs)from I.hok a _ rd)
  obtain⟨as,ra⟩:=mr hK I xs vs its (by unfold cI yx at c;exact c) l rv;unfold cI;exact⟨_,.tuple e hc hd (by simpa using ra)⟩
 | .obj c' ks xs,v,u,c,h,r=>by
  unfold cI yx at c;cases c
 | .dct ks xs,v,u,c,h,r=>by
  unfold cI yx at c;cases c
 | .dtt ks xs,v,u,c,h,r=>by
  unfold cI yx at c;cases c
 | .exc _ _,v,u,c,h,r=>by
  unfold cI yx at c;cases c
 | .clo _ _,v,u,c,h,r=>by
  unfold cI yx at c;cases c
theorem mr{s:jg}(hK:cA.K=X.K)(I:Inv X pins σ H s):∀(xs:al D)(vs:al V)(us:al jc),vF (Up xs)=je->aD cA av H xs vs->aR vs us->∃as,ReadsAll s.heap us (Up xs) as
 | [],vs,us,_,h,r=>by
  rw [h.nil_of]at r;cases r;exact⟨_,.nil⟩
 |x::xs,vs,us,c,h,r=>by
  obtain⟨v,rr,rfl,h1,h2⟩:=h.uncons;cases r with
  |cons r1 r2=>
   unfold Up vF at c;rw [jF]at c;obtain⟨a1,q1⟩:=Q9 hK I x v _ c.1 h1 r1;obtain⟨a2,q2⟩:=mr hK I xs rr _ c.2 h2 r2;unfold Up;exact⟨_,.cons q1 q2⟩
end
end
def bA(x y:D):am D:=
 if ZA x&&ZA y&&Vq (bP x) (bP y)then ja (.bl (decide (bP x=bP y)))
 else if yS (cI x)&&yS (cI y)then ja (.bl (vz (cI x) (cI y)))else none
def bU(x y:D):am D:=match bA x y with
 |some (.bl b)=>ja (.bl (!b))
 |_=>none
def hZ(cA:Kn)(neg:Bool):R2:=λx y H Q=>∃av av' dx dy b,Rep cA av H dx x/\Rep cA av' H dy y/\bA dx dy=ja (.bl b)/\Q (.bl (neg != b)) H
section
variable{X:Cx}{cA:Kn}
theorem Ja(hu:X.A.units+64<cLine)(hK:autoParam (cA.K=X.K) ah):bK X (qL .Eq) (hZ cA jj):=by
 intro pins s σ H x y v u Q I rx ry h;obtain⟨av,av',dx,dy,b,hx,hy,e,q⟩:=h;unfold bA at e
 by_cases h1:(ZA dx&&ZA dy&&Vq (bP dx) (bP dy))=je
 . rw [if_pos h1]at e
   simp only [jF]at h1;obtain⟨⟨s1,s2⟩,s3⟩:=h1;have e1:=hx.val s1;have e2:=hy.val s2;subst e1 e2;have e':decide (bP dx=bP dy)=b:=by simpa using e
   exact AZ pins s σ H _ _ v u Q I rx ry ⟨s3,by rw [e'];simpa using q⟩
 . rw [if_neg h1]at e
   by_cases h2:(yS (cI dx)&&yS (cI dy))=je
   . rw [if_pos h2]at e
     rw [jF]at h2;obtain⟨as,ra⟩:=Q9 hK I dx x v (yD h2.1) hx rx;obtain⟨bs,rb⟩:=Q9 hK I dy y u (yD h2.2) hy ry;have e':vz (cI dx) (cI dy)=b:=by simpa using e
     exact PyProof.Rows.eq_dataH ra rb h2.1 h2.2 hu (by rw [e'];exact⟨.bl b,H,I,rfl,by simpa using q⟩)
   . rw [if_neg h2]at e
     cases e
theorem Jb(hu:X.A.units+64<cLine)(hK:autoParam (cA.K=X.K) ah):bK X (qL .NotEq) (hZ cA je):=by
 intro pins s σ H x y v u Q I rx ry h;obtain⟨av,av',dx,dy,b,hx,hy,e,q⟩:=h;unfold bA at e
 by_cases h1:(ZA dx&&ZA dy&&Vq (bP dx) (bP dy))=je
 . rw [if_pos h1]at e
   simp only [jF]at h1;obtain⟨⟨s1,s2⟩,s3⟩:=h1;have e1:=hx.val s1;have e2:=hy.val s2;subst e1 e2;have e':decide (bP dx=bP dy)=b:=by simpa using e
   exact A0 pins s σ H _ _ v u Q I rx ry ⟨s3,by rw [e'];simpa using q⟩
 . rw [if_neg h1]at e
   by_cases h2:(yS (cI dx)&&yS (cI dy))=je
   . rw [if_pos h2]at e
     rw [jF]at h2;obtain⟨as,ra⟩:=Q9 hK I dx x v (yD h2.1) hx rx;obtain⟨bs,rb⟩:=Q9 hK I dy y u (yD h2.2) hy ry;have e':vz (cI dx) (cI dy)=b:=by simpa using e
     exact PyProof.Rows.ne_dataH ra rb h2.1 h2.2 hu (by rw [e'];exact⟨.bl (!b),H,I,rfl,by simpa using q⟩)
   . rw [if_neg h2]at e
     cases e
theorem bf.av0{t i:jf->Prop}{H:Hp}{d:D}{v:V}(h:bf cA t i H d v):Rep cA (λ_=>False) H d v:=(h.weak (λ_ z=>z.elim) λ_ z=>z.elim).r
theorem tw{x y d:D}(h:bA x y=ja d):∃b,d = .bl b:=by
 unfold bA at h
 split at h
 . exact⟨_,(jx h).symm⟩
 . split at h
   . exact⟨_,(jx h).symm⟩
   . cases h
theorem ia:X1 cA (hZ cA jj) bA:=λt t' i H x y vx vy d _ hx hy e Q k=>by
 obtain⟨b,rfl⟩:=tw e;exact⟨_,_,x,y,b,hx.av0,hy.av0,e,k _ H (aH.refl H) (by cases b<;>rfl)⟩
theorem Jc:X1 cA (hZ cA je) bU:=λt t' i H x y vx vy d _ hx hy e Q k=>by
 unfold bU at e;cases he:bA x y with
 |none=>rw [he]at e;cases e
 |some z=>
  obtain⟨b,rfl⟩:=tw he;rw [he]at e;have e':D.bl (!b)=d:=jx e;subst e';exact⟨_,_,x,y,b,hx.av0,hy.av0,he,k _ H (aH.refl H) (by cases b<;>rfl)⟩
noncomputable def Uq(x:al Nat)(n:Int):al Nat:=(jd n.toNat x).flatten
theorem tz(x:al Nat):∀(k:Nat)(acc:Array Nat),(jd k x.toArray).foldl (· ++ ·) acc=acc++(jd k x).flatten.toArray
 |0,acc=>by simp
 |k+1,acc=>by
  rw [qz,qz,Wk,tz x k,qW];simp
theorem CF(x:al Nat)(n:Int):Txt.mul (tx x) n=tx (Uq x n):=by
 unfold Txt.mul Uq
 by_cases h1:n<1
 . rw [if_pos h1]
   have:n.toNat=0:=by omega
   rw [this];rfl
 . rw [if_neg h1]
   by_cases h2:(n == 1||(tx x).length == 0)=je
   . rw [if_pos h2]
     rw [uG]at h2;rcases h2 with h2|h2
     . have:n=1:=by simpa using h2
       subst this;simp
     . have : x = [] := by
        have:(tx x).length=0:=by simpa using h2
        rw [Yz]at this;exact uE this
       subst this;simp
   . rw [if_neg h2]
     have:=tz x n.toNat #[];rw [this];simp
def fT:R2:=λx y H Q=>∃a n,x=S a/\y = .int n/\(n<2 ^ 63 /\ -(2 ^ 63)<=n/\a.length*n.toNat<=jv)/\Q (S (Uq a n)) H
theorem fw:bK X (yl .Mult) fT:=by
 intro pins s σ H x y v u Q I rx ry h;obtain⟨a,n,rfl,rfl,⟨h1,h2,h3⟩,q⟩:=h;obtain⟨t,rfl⟩:=rx;obtain⟨t',rfl⟩:=ry;refine SB.mul ⟨?_,λhn hc => ?_,λhn hc => ?_⟩ λt' k=>⟨S (Uq a n),H,I.tok _,⟨_,by rw [CF]⟩,q⟩
 . have e1:decide (n < -(2 ^ 63:Int))=false:=decide_eq_false (by omega)
   have e2:decide (n ≥ 2 ^ 63)=false:=decide_eq_false (by omega);rw [e1,e2];rfl
 . rw [Yz]
   have hs:jv=16777216:=jo;intro hgt
   have h5:(a.length:Int)*n<=16777216:=by
    have:(a.length:Int)*n=((a.length*n.toNat:Nat):Int):=by
     rw [Int.natCast_mul,yX (by omega)]
    rw [this];omega
   have h6:(2 ^ 63-1) / n<(a.length:Int):=hgt
   have h7:(2 ^ 63-1:Int)<(a.length:Int)*n:=by
    have:=Int.lt_mul_of_ediv_lt (show(0:Int)<n by omega) h6;rw [WZ];rw [WZ]at this;exact this
   omega
 . rw [Yz]
   show decide (a.length*n.toNat>jv)=jj;exact decide_eq_false (by omega)
def fU:R2:=λx y H Q=>rI a3 (λi j => .int (i*j)) x y H Q\/fT x y H Q
theorem CG:bK X (yl .Mult) fU:=gc.or fw
instance (i j:Int):Decidable (a3 i j):=by unfold a3;infer_instance
instance (i j:Int):Decidable (ZM i j):=by unfold ZM;infer_instance
noncomputable def aE:D->D->am D
 | .int i,.int j=>ja (.int (i+j))
 | .str a,.str b=>if a.length+b.length<=jv then ja (.str (a++b))else none
 |_,_=>none
def bi:D->D->am D
 | .int i,.int j=>ja (.int (i-j))
 |_,_=>none
def bc:D->D->am D
 | .int i,.int j=>if a3 i j then ja (.int (i*j))else none
 | .str a,.int n=>if n<2 ^ 63 /\ -(2 ^ 63)<=n/\a.length*n.toNat<=jv then ja (.str (Uq a n))else none
 |_,_=>none
def aJ:D->D->am D
 | .int i,.int j=>if ZM i j then ja (.int (i / j))else none
 |_,_=>none
def aK:D->D->am D
 | .int i,.int j=>if 0<j then ja (.int (i % j))else none
 |_,_=>none
def Zv(p:Int->Int->Bool):D->D->am D
 | .int i,.int j=>ja (.bl (p i j))
 |_,_=>none
theorem ib:X1 cA fQ aE:=λt t' i H x y vx vy d _ hx hy e Q k=>by
 cases x<;>first|(cases e;done)|(cases y<;>first|(cases e;done)|skip)
 . cases(show vx=_ from hx);cases(show vy=_ from hy)
   cases e;exact .inl ⟨_,_,rfl,rfl,k _ H (aH.refl H) rfl⟩
 . cases(show vx=_ from hx);cases(show vy=_ from hy)
   rename_i a b;dsimp only [aE]at e
   by_cases hz:a.length+b.length<=jv
   . rw [if_pos hz]at e
     cases e;exact .inr (.inl ⟨_,_,rfl,rfl,hz,k _ H (aH.refl H) rfl⟩)
   . rw [if_neg hz]at e;cases e
theorem tD:X1 cA (eh λi j => .int (i-j)) bi:=λt t' i H x y vx vy d _ hx hy e Q k=>by
 cases x<;>first|(cases e;done)|(cases y<;>first|(cases e;done)|skip)
 cases(show vx=_ from hx);cases(show vy=_ from hy);cases e;exact⟨_,_,rfl,rfl,k _ H (aH.refl H) rfl⟩
theorem CH:X1 cA fU bc:=λt t' i H x y vx vy d _ hx hy e Q k=>by
 cases x<;>first|(cases e;done)|(cases y<;>first|(cases e;done)|skip)
 . cases(show vx=_ from hx);cases(show vy=_ from hy)
   rename_i a b;dsimp only [bc]at e
   by_cases hz:a3 a b
   . rw [if_pos hz]at e
     cases e;exact .inl ⟨_,_,rfl,rfl,hz,k _ H (aH.refl H) rfl⟩
   . rw [if_neg hz]at e;cases e
 . cases(show vx=_ from hx);cases(show vy=_ from hy)
   rename_i a n;dsimp only [bc]at e
   by_cases hz:n<2 ^ 63 /\ -(2 ^ 63)<=n/\a.length*n.toNat<=jv
   . rw [if_pos hz]at e
     cases e;exact .inr ⟨_,_,rfl,rfl,hz,k _ H (aH.refl H) rfl⟩
   . rw [if_neg hz]at e;cases e
theorem tE:X1 cA (rI ZM λi j => .int (i / j)) aJ:=λt t' i H x y vx vy d _ hx hy e Q k=>by
 cases x<;>first|(cases e;done)|(cases y<;>first|(cases e;done)|skip)
 cases(show vx=_ from hx);cases(show vy=_ from hy);rename_i a b;dsimp only [aJ]at e
 by_cases hz:ZM a b
 . rw [if_pos hz]at e
   cases e;exact⟨_,_,rfl,rfl,hz,k _ H (aH.refl H) rfl⟩
 . rw [if_neg hz]at e;cases e
theorem ic:X1 cA (rI (λ_ j=>0<j) λi j => .int (i % j)) aK:=λt t' i H x y vx vy d _ hx hy e Q k=>by
 cases x<;>first|(cases e;done)|(cases y<;>first|(cases e;done)|skip)
 cases(show vx=_ from hx);cases(show vy=_ from hy);rename_i a b;dsimp only [aK]at e
 by_cases hz:0<b
 . rw [if_pos hz]at e
   cases e;exact⟨_,_,rfl,rfl,hz,k _ H (aH.refl H) rfl⟩
 . rw [if_neg hz]at e;cases e
theorem tF{p:Int->Int->Bool}:X1 cA (eh λi j => .bl (p i j)) (Zv p):=λt t' i H x y vx vy d _ hx hy e Q k=>by
 cases x<;>first|(cases e;done)|(cases y<;>first|(cases e;done)|skip)
 cases(show vx=_ from hx);cases(show vy=_ from hy);cases e;exact⟨_,_,rfl,rfl,k _ H (aH.refl H) rfl⟩
def dD(neg:Bool)(x:D):D->am D
 | .str b=>(match x with
  | .str [c]=>ja (.bl (neg != decide (c∈b)))
  |_=>none)
 | .lst ys=>if ZA x&&ys.all ZA then ja (.bl (if neg then !(eN (bP x) (ys.map bP))else eN (bP x) (ys.map bP)))else none
 | .tup ys=>if ZA x&&ys.all ZA then ja (.bl (if neg then !(eN (bP x) (ys.map bP))else eN (bP x) (ys.map bP)))else none
 |_=>none
theorem mv:ZA d=je->Vr (bP d)=true:=by
 intro h;cases d<;>first|rfl|cases h
theorem mw:∀{xs:al D},xs.all ZA=je->(xs.map bP).all Vr=je
 | [],_=>rfl
 |x::xs,h=>by
  rw [yw,jF]at h;rw [jy,yw,mv h.1,mw h.2];rfl
theorem CI{v:V}(hs:ZA d=je)(h:bf cA t i H d v):v=bP d:=by
 cases d<;>first|exact h|cases hs
theorem CJ{neg:Bool}:X1 cA (Qn cA.K neg) (dD neg):=λt t' i H x y vx vy d _ hx hy e Q k=>by
 have seq:∀ys,(y = .lst ys\/y = .tup ys)->(if ZA x&&ys.all ZA then ja (D.bl (if neg then !(eN (bP x) (ys.map bP))else eN (bP x) (ys.map bP)))else none)=ja d->Qn cA.K neg vx vy H Q:=λys hy' e=>by
  by_cases hz:(ZA x&&ys.all ZA)=je
  . rw [if_pos hz]at e
    rw [jF]at hz;have ex:=CI hz.1 hx;subst ex;cases e;rcases hy' with rfl|rfl
    . obtain⟨a,vs,rfl,_,rd,l⟩:=hy
      have ev:=l.vals hz.2;subst ev;exact .inr ⟨a,_,rfl,.inl rd,mv hz.1,mw hz.2,k _ H (aH.refl H) rfl⟩
    . obtain⟨a,vs,rfl,_,rd,l⟩:=hy
      have ev:=l.vals hz.2;subst ev;exact .inr ⟨a,_,rfl,.inr (cm.of rd),mv hz.1,mw hz.2,k _ H (aH.refl H) rfl⟩
  . rw [if_neg hz]at e;cases e
 cases y with
 |lst ys=>exact seq ys (.inl rfl) e
 |tup ys=>exact seq ys (.inr rfl) e
 |str b=>
  cases x with
  |str cs=>
   cases cs with
   |nil=>cases e
   |cons c r=>
    cases r with
    |cons _ _=>cases e
    |nil=>
     cases(show vx=_ from hx);cases(show vy=_ from hy);cases e;exact .inl ⟨c,b,rfl,rfl,k _ H (aH.refl H) rfl⟩
  |_=>cases e
 |_=>cases e
def aP:D->D->am D
 | .lst xs,.int i=>cR xs i
 | .tup xs,.int i=>cR xs i
 | .str cs,.int i=>if cs.length<=jv then(cR cs i).map λc => .str [c]else none
 |_,_=>none
theorem tG{i:Int}{d:D}(l:aD cA av H xs vs)(h:cR xs i=ja d):∃v,cR vs i=ja v/\Rep cA av H d v:=by
 unfold cR at h ⊢;rw [l.length]at h;cases e:gd vs.length i with
 |none=>rw [e]at h;cases h
 |some j=>
  rw [e]at h;exact l.get h
theorem YO:X1 cA (me cA.K) aP:=λt t' i H x y vx vy d _ hx hy e Q k=>by
 cases x<;>first|(cases e;done)|(cases y<;>first|(cases e;done)|cases(show vy=_ from hy))
 . cases(show vx=_ from hx)
   rename_i cs j;dsimp only [aP]at e
   by_cases hz:cs.length<=jv
   . rw [if_pos hz]at e
     cases ea:cR cs j with
     |none=>rw [ea]at e;cases e
     |some c=>
      rw [ea]at e;cases e;exact .inr (.inr ⟨cs,j,c,rfl,rfl,hz,ea,k _ H (aH.refl H) rfl⟩)
   . rw [if_neg hz]at e;cases e
 . rename_i j
   obtain⟨a,vs,rfl,_,rd,l⟩:=hx;obtain⟨v,h1,h2⟩:=tG l e;exact .inl ⟨a,vs,j,v,rfl,rfl,rd,h1,k v H (aH.refl H) h2⟩
 . rename_i j
   obtain⟨a,vs,rfl,_,rd,l⟩:=hx;obtain⟨v,h1,h2⟩:=tG l e;exact .inr (.inl ⟨a,vs,j,v,rfl,rfl,cm.of rd,h1,k v H (aH.refl H) h2⟩)
end
section
variable{cA:Kn}{G:Cn}{ow:al Nat}
def bD:am D->am Bool
 |some (.bl b)=>ja b
 |_=>none
theorem tH{o:am D}{b:Bool}(h:bD o=ja b):o=ja (.bl b):=by
 cases o with
 |none=>cases h
 |some d=>cases d<;>first|(cases h;rfl)|cases h
def xB(ε:Env->am D)(δ:Env):am Bool:=bD (ε δ)
theorem mx(h:VE G ow te q ε):VT G ow (tB te) (xB ε):=λH0 av A σ H δ E b e Q k=>
 h H0 av A σ H δ E _ (tH e) _ λv H' s r=>⟨b,by cases q<;>exact r,k H' s⟩
theorem Qo(h:VE G ow te q ε):VT G ow (so te) (xB ε):=λH0 av A σ H δ E b e Q k=>
 h H0 av A σ H δ E _ (tH e) _ λv H' s r=>⟨b,by cases q<;>exact r,k H' s⟩
def ZK(τ:Env->am Bool)(δ:Env):am Bool:=match τ δ with
 |some b=>ja (!b)
 |none=>none
theorem CK(h:VT G ow t τ):VT G ow (rF t) (ZK τ):=λH0 av A σ H δ E b e Q k=>by
 unfold ZK at e;cases he:τ δ with
 |none=>rw [he]at e;cases e
 |some c=>
  rw [he]at e;cases e;exact h H0 av A σ H δ E c he _ λH' s=>k H' s
def ZG(τ υ:Env->am Bool)(δ:Env):am Bool:=match τ δ with
 |some je=>υ δ
 |some jj=>ja jj
 |none=>none
def bz(τ υ:Env->am Bool)(δ:Env):am Bool:=match τ δ with
 |some je=>ja je
 |some jj=>υ δ
 |none=>none
theorem tI(h:VT G ow t τ)(h':VT G ow u υ):VT G ow (rD t u) (ZG τ υ):=λH0 av A σ H δ E b e Q k=>by
 unfold ZG at e;cases he:τ δ with
 |none=>rw [he]at e;cases e
 |some c=>
  rw [he]at e;refine h H0 av A σ H δ E c he _ λH' s => ?_
  cases c with
  |true=>exact XZ (h' H0 av A σ H' δ (E.mono s) b e _ λH2 s2=>k H2 (s.trans s2))
  |false=>cases e;exact Va (k H' s)
theorem tJ(h:VT G ow t τ)(h':VT G ow u υ):VT G ow (rE t u) (bz τ υ):=λH0 av A σ H δ E b e Q k=>by
 unfold bz at e;cases he:τ δ with
 |none=>rw [he]at e;cases e
 |some c=>
  rw [he]at e;refine h H0 av A σ H δ E c he _ λH' s => ?_
  cases c with
  |true=>cases e;exact XZ (k H' s)
  |false=>exact Va (h' H0 av A σ H' δ (E.mono s) b e _ λH2 s2=>k H2 (s.trans s2))
theorem Ur:VT G ow gF (λ_=>ja je):=λH0 av A σ H δ E b e Q k=>by
 cases e;exact k H (aH.refl H)
theorem gr{b:Bool}:cC cA av A H q (.bl b) (.bl b):=by cases q<;>exact rfl
theorem my{b:Bool}{v:V}(h:cC cA av A H q (.bl b) v):v = .bl b:=by cases q<;>exact h
def ZS(a b:Env->am D)(δ:Env):am D:=match a δ with
 |some (.bl je)=>b δ
 |some (.bl jj)=>ja (.bl jj)
 |_=>none
def bZ(a b:Env->am D)(δ:Env):am D:=match a δ with
 |some (.bl je)=>ja (.bl je)
 |some (.bl jj)=>b δ
 |_=>none
def ZT(a:Env->am D)(δ:Env):am D:=match a δ with
 |some (.bl b)=>ja (.bl (!b))
 |_=>none
theorem CM(ha:VE G ow ta qa a)(hb:VE G ow tb qb b):VE G ow (rL ta tb) qb (ZS a b):=λH0 av A σ H δ E d e Q k=>by
 unfold ZS at e;cases he:a δ with
 |none=>rw [he]at e;cases e
 |some x=>
  rw [he]at e;cases x<;>first|(cases e;done)|skip
  rename_i c;refine ha H0 av A σ H δ E _ he _ λv H' s r=>⟨c,my r,?_⟩
  cases c with
  |true=>exact XZ (hb H0 av A σ H' δ (E.mono s) d e _ λv2 H2 s2 r2=>k v2 H2 (s.trans s2) r2)
  |false=>cases e;exact Va (k _ H' s gr)
theorem CN(ha:VE G ow ta qa a)(hb:VE G ow tb qb b):VE G ow (rM ta tb) qb (bZ a b):=λH0 av A σ H δ E d e Q k=>by
 unfold bZ at e;cases he:a δ with
 |none=>rw [he]at e;cases e
 |some x=>
  rw [he]at e;cases x<;>first|(cases e;done)|skip
  rename_i c;refine ha H0 av A σ H δ E _ he _ λv H' s r=>⟨c,my r,?_⟩
  cases c with
  |false=>exact Va (hb H0 av A σ H' δ (E.mono s) d e _ λv2 H2 s2 r2=>k v2 H2 (s.trans s2) r2)
  |true=>cases e;exact XZ (k _ H' s gr)
theorem CO(ha:VE G ow ta qa a):VE G ow (rN ta) .cl (ZT a):=λH0 av A σ H δ E d e Q k=>by
 unfold ZT at e;cases he:a δ with
 |none=>rw [he]at e;cases e
 |some x=>
  rw [he]at e;cases x<;>first|(cases e;done)|skip
  cases e;exact ha H0 av A σ H δ E _ he _ λv H' s r=>⟨_,my r,k _ H' s gr⟩
def b9(τ:Env->am Bool)(a b:Env->am D)(δ:Env):am D:=match τ δ with
 |some je=>a δ
 |some jj=>b δ
 |none=>none
theorem CP(ht:VT G ow t τ)(ha:VE G ow ta q a)(hb:VE G ow tb q b):VE G ow (rP t ta tb) q (b9 τ a b):=λH0 av A σ H δ E d e Q k=>by
 unfold b9 at e;cases he:τ δ with
 |none=>rw [he]at e;cases e
 |some c=>
  rw [he]at e;refine ht H0 av A σ H δ E c he _ λH' s => ?_
  cases c with
  |true=>exact XZ (ha H0 av A σ H' δ (E.mono s) d e _ λv H2 s2 r=>k v H2 (s.trans s2) r)
  |false=>exact Va (hb H0 av A σ H' δ (E.mono s) d e _ λv H2 s2 r=>k v H2 (s.trans s2) r)
noncomputable def ZO:D->Bool
 | .non=>je
 |_=>jj
theorem CQ{v:V}(h:Rep cA av H d v):decide (v = .non)=ZO d:=by
 cases d with
 |non=>cases(show v=_ from h);rfl
 |bl b=>cases(show v=_ from h);rfl
 |int i=>cases(show v=_ from h);rfl
 |str cs=>cases(show v=_ from h);rfl
 |lst xs=>unfold Rep at h;obtain⟨a,vs,rfl,_⟩:=h;rfl
 |tup xs=>unfold Rep at h;obtain⟨a,vs,rfl,_⟩:=h;rfl
 |obj c ks xs=>unfold Rep at h;obtain⟨a,dx,vs,rfl,_⟩:=h;rfl
 |dct ks xs=>unfold Rep at h;obtain⟨a,vs,rfl,_⟩:=h;rfl
 |dtt ks xs=>unfold Rep at h;obtain⟨a,vs,rfl,_⟩:=h;rfl
 |exc c r=>unfold Rep at h;obtain⟨a,rfl,_⟩:=h;rfl
 |clo c r=>unfold Rep at h;obtain⟨p,cl,vs,rfl,_⟩:=h;rfl
def ZD(a:Env->am D)(δ:Env):am D:=match a δ with
 |some d=>ja (.bl (ZO d))
 |none=>none
def Z6(a:Env->am D)(δ:Env):am D:=match a δ with
 |some d=>ja (.bl (!ZO d))
 |none=>none
theorem mz(ha:VE G ow ta qa a):VE G ow (rC ta) .cl (ZD a):=λH0 av A σ H δ E d e Q k=>by
 unfold ZD at e;cases he:a δ with
 |none=>rw [he]at e;cases e
 |some x=>
  rw [he]at e;cases e;refine ha H0 av A σ H δ E _ he _ λv H' s r => ?_
  rw [CQ r.any];exact k _ H' s gr
def ZX(f g:D->D->am D)(a b c:Env->am D)(δ:Env):am D:=match aB f a b δ with
 |some (.bl je)=>aB g b c δ
 |some (.bl jj)=>ja (.bl jj)
 |_=>none
theorem tK{p p':Int->Int->Bool}(ha:VE G ow ta qa a)(hb:VE G ow tb qb b)(hc:VE G ow tc qc c) :
 VE G ow (sq (eh λi j => .bl (p i j)) (eh λi j => .bl (p' i j)) ta tb tc) .cl (ZX (Zv p) (Zv p') a b c):=λH0 av A σ H δ E d e Q k=>by
 unfold ZX at e;cases he:aB (Zv p) a b δ with
 |none=>rw [he]at e;cases e
 |some z=>
  rw [he]at e;obtain⟨x,y,ex,ey,ez⟩:=Q8 he;cases x<;>cases y<;>first|(cases ez;done)|skip
  rename_i i j;cases ez;refine ha H0 av A σ H δ E _ ex _ λvx H1 s1 r1=>hb H0 av A σ H1 δ (E.mono s1) _ ey _ λvy H2 s2 r2 => ?_
  have e1:vx = .int i:=r1.any;have e2:vy = .int j:=r2.any;subst e1 e2;refine⟨i,j,rfl,rfl,p i j,rfl,?_⟩;have E2:=(E.mono s1).mono s2;cases hp:p i j with
  |false=>
   rw [hp]at e;cases e;exact Va (k _ H2 (s1.trans s2) gr)
  |true=>
   rw [hp]at e;obtain⟨y',w',ey',ew,ez⟩:=Q8 e;rw [ey]at ey';cases ey';cases w'<;>first|(cases ez;done)|skip
   rename_i l;cases ez;refine XZ (hc H0 av A σ H2 δ E2 _ ew _ λvw H3 s3 r3 => ?_);have e3:vw = .int l:=r3.any;subst e3;exact⟨j,l,rfl,rfl,k _ H3 ((s1.trans s2).trans s3) gr⟩
def ZV:D->am D
 | .int i=>ja (.int (-i))
 |_=>none
def bY(f:D->am D)(a:Env->am D)(δ:Env):am D:=match a δ with
 |some x=>f x
 |none=>none
theorem mB(ha:VE G ow ta qa a):VE G ow (rY (rU λi => .int (-i)) ta) .cl (bY ZV a):=λH0 av A σ H δ E d e Q k=>by
 unfold bY at e;cases he:a δ with
 |none=>rw [he]at e;cases e
 |some x=>
  rw [he]at e;cases x<;>first|(cases e;done)|skip
  cases e;refine ha H0 av A σ H δ E _ he _ λv H' s r => ?_
  have e1:=r.any;exact⟨_,e1,k _ H' s rfl⟩
def az(_:Env):am (al D):=ja []
def Zb(a:Env->am D)(r:Env->am (al D))(δ:Env):am (al D):=match a δ with
 |some x=>match r δ with
  |some xs=>ja (x::xs)
  |none=>none
 |none=>none
theorem Zp:VA G ow cF q az:=λH0 av A σ H δ E ds e Q k=>by
 cases e;exact k [] H (aH.refl H) rfl
theorem Zh(ha:VE G ow te q a)(hr:VA G ow ta q r):VA G ow (YG te ta) q (Zb a r):=λH0 av A σ H δ E ds e Q k=>by
 unfold Zb at e;cases he:a δ with
 |none=>rw [he]at e;cases e
 |some x=>
  rw [he]at e;cases hr':r δ with
  |none=>rw [hr']at e;cases e
  |some xs=>
   rw [hr']at e;cases e;exact ha H0 av A σ H δ E x he _ λv H1 s1 r1=>hr H0 av A σ H1 δ (E.mono s1) xs hr' _ λvs H2 s2 r2=>k _ H2 (s1.trans s2) ⟨v,vs,rfl,r1.same s2,r2⟩
theorem bx.length{av:jf->Prop}{A:Nat->am jf}{H:Hp}{q:Ql}{xs:al D}{vs:al V}(h:bx cA av A H q xs vs):xs.length=vs.length:=h.any.length
def Zl(α:Env->am (al D))(δ:Env):am D:=match α δ with
 |some xs=>if xs.length<=jv then ja (.lst xs)else none
 |none=>none
theorem UN(h:VA G ow t .cl α):VF G ow (sA t) (Zl α):=λH0 av A σ H δ E d e Q k=>by
 unfold Zl at e;cases he:α δ with
 |none=>rw [he]at e;cases e
 |some xs=>
  rw [he]at e
  by_cases hz:xs.length<=jv
  . have e':D.lst xs=d:=by simpa [hz]using e
    exact h H0 av A σ H δ E xs he _ λvs H1 s1 r1=>⟨by rw [<-r1.length];exact hz,λp hp=>k p vs xs H1 s1 hp r1.cl e'.symm⟩
  . simp [hz]at e
def ZH(α:Env->am (al D))(δ:Env):am D:=match α δ with
 |some xs=>if xs.length<=jv then ja (.tup xs)else none
 |none=>none
theorem tL(h:VA G ow t .cl α):VE G ow (lG t) .cl (ZH α):=λH0 av A σ H δ E d e Q k=>by
 unfold ZH at e;cases he:α δ with
 |none=>rw [he]at e;cases e
 |some xs=>
  rw [he]at e
  by_cases hz:xs.length<=jv
  . have e':D.tup xs=d:=by simpa [hz]using e
    subst e';refine h H0 av A σ H δ E xs he _ λvs H1 s1 r1=>⟨by rw [<-r1.length];exact hz,λp hp=>k _ _ (s1.trans (YB hp)) ⟨p,vs,rfl,λz=>(E.mono s1).avl p z hp,ZF,r1.cl.same (YB hp)⟩⟩
  . simp [hz]at e
def VW(cA:Kn)(i:jf->Prop)(H:Hp):al D->al V->Prop
 | [],vs=>vs=[]
 |x::xs,vs=>∃v r,vs=v::r/\(∃t,bf cA t i H x v)/\VW cA i H xs r
theorem bx.il{av:jf->Prop}{A:Nat->am jf}{H:Hp}{q:Ql}:∀{xs:al D}{vs:al V},bx cA av A H q xs vs->VW cA (q.iv av A) H xs vs
 | [],_,h=>h
 |x::xs,vs,h=>by
  obtain⟨v,r,e,h1,h2⟩:=h;exact⟨v,r,e,⟨_,h1.tp⟩,bx.il h2⟩
def Us(cA:Kn)(r:al V->Hp->VK->Prop)(f:al D->am D):Prop:=
 ∀(i:jf->Prop)(H:Hp)(ds:al D)(vs:al V)(d:D),(∀a,i a->H a≠none)->VW cA i H ds vs->f ds=ja d->∀Q:VK,(∀v H',aH H H'->Rep cA i H' d v->Q v H')->r vs H Q
def aU(f:al D->am D)(α:Env->am (al D))(δ:Env):am D:=match α δ with
 |some ds=>f ds
 |none=>none
theorem Xj{r:al V->Hp->VK->Prop}{q:Ql}(hr:Us G.1 r f)(h:VA G ow t q α):VE G ow (fi r t) q.it (aU f α):=λH0 av A σ H δ E d e Q k=>by
 unfold aU at e;cases he:α δ with
 |none=>rw [he]at e;cases e
 |some ds=>
  rw [he]at e;refine h H0 av A σ H δ E ds he _ λvs H1 s1 r1 => ?_
  have E1:=E.mono s1;cases q with
  |cl=>exact hr _ H1 ds vs d E1.avl r1.il e _ λv H' s r=>k v H' (s1.trans s) r.t
  |tp=>exact hr _ H1 ds vs d E1.avl r1.il e _ λv H' s r=>k v H' (s1.trans s) r.t
  |dt=>exact hr _ H1 ds vs d E1.avH r1.il e _ λv H' s r=>k v H' (s1.trans s) r.t
theorem eU{x:D}{vs:al V}(h:VW cA i H [x] vs):∃v t,vs=[v]/\bf cA t i H x v:=by
 obtain⟨v,r,rfl,⟨t,h1⟩,h2⟩:=h;cases(show r=[]from h2);exact⟨v,t,rfl,h1⟩
theorem tM{x y:D}{vs:al V}(h:VW cA i H [x,y] vs):∃v u t t',vs=[v,u]/\bf cA t i H x v/\bf cA t' i H y u:=by
 obtain⟨v,r,rfl,⟨t,h1⟩,u,r',rfl,⟨t',h2⟩,h3⟩:=h;cases(show r'=[]from h3);exact⟨v,u,t,t',rfl,h1,h2⟩
noncomputable def aM:al D->am D
 | [.str a]=>if a.length<=jv then ja (.int a.length)else none
 | [.lst xs]=>ja (.int xs.length)
 | [.tup xs]=>ja (.int xs.length)
 |_=>none
theorem UO:Us cA (mh cA.K) aM:=λi H ds vs d _ h e Q k=>by
 cases ds with
 |nil=>cases e
 |cons x r=>
  cases r with
  |cons _ _=>cases x<;>cases e
  |nil=>
   obtain⟨v,t,rfl,hx⟩:=eU h;cases x<;>first|(cases e;done)|skip
   . rename_i a
     dsimp only [aM]at e
     by_cases hz:a.length<=jv
     . rw [if_pos hz]at e
       cases e;exact .inl ⟨a,by rw [show v=S a from hx],hz,k _ H (aH.refl H) rfl⟩
     . rw [if_neg hz]at e;cases e
   . obtain⟨a,ws,rfl,_,rd,l⟩:=hx
     cases e;exact .inr ⟨a,ws,rfl,.inl rd,k _ H (aH.refl H) (by rw [l.length];rfl)⟩
   . obtain⟨a,ws,rfl,_,rd,l⟩:=hx
     cases e;exact .inr ⟨a,ws,rfl,.inr (cm.of rd),k _ H (aH.refl H) (by rw [l.length];rfl)⟩
def bj:al D->am D
 | [.int i,.int j]=>ja (.int (if j<i then j else i))
 |_=>none
def bn:al D->am D
 | [.int i,.int j]=>ja (.int (if j>i then j else i))
 |_=>none
theorem CS{ds:al D}{d:D}(e:bj ds=ja d):∃i j,ds=[.int i,.int j]/\d = .int (if j<i then j else i):=by
 unfold bj at e
 split at e
 . exact⟨_,_,rfl,(jx e).symm⟩
 . cases e
theorem CT{ds:al D}{d:D}(e:bn ds=ja d):∃i j,ds=[.int i,.int j]/\d = .int (if j>i then j else i):=by
 unfold bn at e
 split at e
 . exact⟨_,_,rfl,(jx e).symm⟩
 . cases e
theorem CU:Us cA (λxs H Q=>∃i j,xs=[.int i,.int j]/\Q (.int (if j<i then j else i)) H) bj:=λi H ds vs d _ h e Q k=>by
 obtain⟨a,b,rfl,rfl⟩:=CS e;obtain⟨v,u,t,t',rfl,h1,h2⟩:=tM h;cases(show v=_ from h1);cases(show u=_ from h2);exact⟨a,b,rfl,k _ H (aH.refl H) rfl⟩
theorem CV:Us cA (λxs H Q=>∃i j,xs=[.int i,.int j]/\Q (.int (if j>i then j else i)) H) bn:=λi H ds vs d _ h e Q k=>by
 obtain⟨a,b,rfl,rfl⟩:=CT e;obtain⟨v,u,t,t',rfl,h1,h2⟩:=tM h;cases(show v=_ from h1);cases(show u=_ from h2);exact⟨a,b,rfl,k _ H (aH.refl H) rfl⟩
noncomputable def Vt:al D->am (al Bool)
 | []=>ja []
 | .bl b::r=>match Vt r with
  |some bs=>ja (b::bs)
  |none=>none
 |_=>none
theorem tN:∀{xs:al D}{bs:al Bool},Vt xs=ja bs->xs=bs.map D.bl
 | [],bs,h=>by cases h;rfl
 |x::xs,bs,h=>by
  cases x<;>first|(cases h;done)|skip
  rename_i b;unfold Vt at h;cases hr:Vt xs with
  |none=>rw [hr]at h;cases h
  |some cs=>
   rw [hr]at h;cases h;rw [jy,tN hr]
theorem tO(bs:al Bool):Vt (bs.map D.bl)=ja bs:=by
 induction bs with
 |nil=>rfl
 |cons b bs ih=>rw [jy,Vt,ih]
def Vu(f:al Bool->Bool):al D->am D
 | [.lst xs]=>match Vt xs with
  |some bs=>ja (.bl (f bs))
  |none=>none
 |_=>none
theorem Jd{f:al Bool->Bool}:Us cA (Q7 cA.K f) (Vu f):=λi H ds vs d _ h e Q k=>by
 unfold Vu at e
 split at e
 . rename_i xs
   cases hb:Vt xs with
   |none=>rw [hb]at e;cases e
   |some bs=>
    rw [hb]at e;cases e;obtain⟨v,t,rfl,a,ws,rfl,_,rd,l⟩:=eU h;have ex:=tN hb;subst ex;have ev:=l.vals (by rw [yV];exact jR.mpr λ_ _=>rfl);rw [qM]at ev;subst ev;exact⟨a,bs,rfl,rd,k _ H (aH.refl H) rfl⟩
 . cases e
def intD:al D->am D
 | [.str a]=>if a.length<=640/\a≠[]/\a.all gZ=je then ja (.int (lX a:Nat))else none
 | [.bl b]=>ja (.int (if b then 1 else 0))
 |_=>none
theorem CW:Us cA fS intD:=λi H ds vs d _ h e Q k=>by
 unfold intD at e
 split at e
 . rename_i a
   obtain⟨v,t,rfl,hx⟩:=eU h;cases(show v=_ from hx)
   by_cases hz:a.length<=640/\a≠[]/\a.all gZ=je
   . rw [if_pos hz]at e
     cases e;exact .inl ⟨a,rfl,hz.1,hz.2.1,hz.2.2,k _ H (aH.refl H) rfl⟩
   . rw [if_neg hz]at e;cases e
 . rename_i b
   obtain⟨v,t,rfl,hx⟩:=eU h;cases(show v=_ from hx);cases e;exact .inr ⟨b,rfl,k _ H (aH.refl H) rfl⟩
 . cases e
def Vv:al D->am D
 | [.lst xs]=>ja (.tup xs)
 | [.tup xs]=>ja (.tup xs)
 |_=>none
noncomputable def tP:al D->am D
 | [.lst xs]=>ja (.lst xs)
 | [.tup xs]=>ja (.lst xs)
 |_=>none
theorem ie(h:VA G ow t .cl α):VE G ow (fi (tj G.1.K) t) .cl (aU Vv α):=λH0 av A σ H δ E d e Q k=>by
 unfold aU at e;cases he:α δ with
 |none=>rw [he]at e;cases e
 |some ds=>
  rw [he]at e;refine h H0 av A σ H δ E ds he _ λvs H1 s1 r1 => ?_
  have E1:=E.mono s1;have e:Vv ds=ja d:=e;unfold Vv at e
  split at e
  . rename_i xs
    cases e;obtain⟨v,r,rfl,⟨a,ws,rfl,_,rd,l⟩,h2⟩:=r1;cases(show r=[]from h2);exact⟨a,ws,rfl,.inl ⟨rd,λp hp=>k _ _ (s1.trans (YB hp)) ⟨p,ws,rfl,λz=>E1.avl p z hp,ZF,l.same (YB hp)⟩⟩⟩
  . rename_i xs
    cases e;obtain⟨v,r,rfl,⟨a,ws,rfl,na,rd,l⟩,h2⟩:=r1;cases(show r=[]from h2);exact⟨a,ws,rfl,.inr ⟨cm.of rd,k _ H1 s1 ⟨a,ws,rfl,na,rd,l⟩⟩⟩
  . cases e
end
inductive aT where
 |nx (δ:Env)
 |rt (d:D)
 |bk (δ:Env)
 |ct (δ:Env)
def tQ(G:Cn)(owN owB owC:al Nat)(H0:Hp)(av:jf->Prop)(De:Ends):aT->Prop
 | .nx δ'=>∀A' σ' H',ER G owN H0 av A' σ' H' δ'->De.nx σ' H'
 | .rt d=>∀v H',aH H0 H'->Rep G.1 av H' d v->De.rt v H'
 | .bk δ'=>∀A' σ' H',ER G owB H0 av A' σ' H' δ'->De.bk σ' H'
 | .ct δ'=>∀A' σ' H',ER G owC H0 av A' σ' H' δ'->De.ct σ' H'
def VS(G:Cn)(ow owN owB owC:al Nat)(ts:TS)(φ:Env->am aT):Prop:=
 ∀H0 av A σ H δ,ER G ow H0 av A σ H δ->∀o,φ δ=ja o->∀De:Ends,tQ G owN owB owC H0 av De o->ts De σ H
def VG(G:Cn)(ow ow':al Nat)(g:TG)(γ:D->Env->am Env):Prop:=
 ∀H0 av A σ H δ,ER G ow H0 av A σ H δ->∀d v,Rep G.1 (AV av A) H d v->∀δ',γ d δ=ja δ'->∀Q:L2.St->Hp->Prop,(∀A' σ' H',aH H H'->ER G ow' H0 av A' σ' H' δ'->Q σ' H')->g v σ H Q
def sub(a b:al Nat):Bool:=a.all λx=>b.contains x
theorem ig{a b:al Nat}(h:sub a b=je):∀x∈a,x∈b:=λx hx=>by
 have:=jR.mp h x hx;simpa using this
section
variable{cA:Kn}{G:Cn}{ow owN owB owC ow1 ow2:al Nat}{H0 H H':Hp}{av:jf->Prop}{A:Nat->am jf}{σ:L2.St}{δ:Env}
theorem mC{α:Type}{l:al (am α)}{i j:Nat}{x y:α}(h:(l.set i (ja x))[j]? = ja (ja y)):(j=i/\y=x/\i<l.length)\/(j≠i/\l[j]? = ja (ja y)):=by
 by_cases e:j=i
 . subst e
   by_cases hl:j<l.length
   . rw [qN hl]at h
     exact .inl ⟨rfl,(jx (jx h)).symm,hl⟩
   . rw [On (by simpa using hl)]at h
     cases h
 . rw [qy (qF e)]at h
   exact .inr ⟨e,h⟩
theorem ER.set{i:Nat}{d:D}{v:V}(E:ER G ow H0 av A σ H δ)(h:Rep G.1 (AV av A) H d v)(hw:∀j,j∈ow1 ↔ j∈ow/\j≠i)(hn:G.2 i=none) :
 ER G ow1 H0 av (λj=>if j=i then none else A j) (σ.set i (ja v)) H (δ.set i (ja d)):=by
 have less:∀b,AV av (λj=>if j=i then none else A j) b->AV av A b:=λb z=>by
  rcases z with z|⟨j,z⟩
  . exact .inl z
  . by_cases e:j=i
    . simp [e]at z
    . simp [e]at z;exact .inr ⟨j,z⟩
 refine⟨E.same,E.avd,λj a e => ?_,λj k a e1 e2 => ?_,λj a e => ?_,λj e => ?_,λj hj => ?_,by simp [E.len],λj a e=>(by
  have q:j≠i:=λz=>by rw [z,hn]at e;cases e
  simp only [q,if_false];exact E.pin j a e),(λj v' e=>by
  have q:j≠i:=λz=>by rw [z,hn]at e;cases e
  rw [qy (qF q)];exact E.kept j v' e),λj d' e => ?_⟩
 . by_cases q:j=i
   . simp [q]at e
   . simp [q]at e;exact E.fr j a e
 . by_cases q:j=i
   . simp [q]at e1
   . by_cases q2:k=i
     . simp [q2]at e2
     . simp [q]at e1;simp [q2]at e2;exact E.inj j k a e1 e2
 . by_cases q:j=i
   . simp [q]at e
   . simp [q]at e;exact E.live j a e
 . by_cases q:j=i
   . simp [q]at e
   . simp [q]at e;exact(hw j).mpr ⟨E.dom j e,q⟩
 . obtain⟨h1,h2⟩:=(hw j).mp hj
   simp [h2];exact E.dom' j h1
 . rcases mC e with⟨rfl,rfl,hl⟩|⟨q,e'⟩
   . refine⟨v,?_,λ_=>h.av λb z => .inl (less b z),λa z=>by simp at z⟩
     rw [qN (by rw [E.len];exact hl)]
   . obtain⟨v',h1,h2,h3⟩:=E.var j d' e'
     refine⟨v',by rw [qy (qF q)];exact h1,λz => ?_,λa z => ?_⟩
     . simp [q]at z
       exact(h2 z).av λb z => .inl (less b z)
     . simp [q]at z
       obtain⟨r1,r2⟩:=h3 a z;refine⟨r1,?_⟩;cases d' with
       |lst xs=>obtain⟨vs,q1,q2⟩:=r2;exact⟨vs,q1,q2.av λb z => .inl (less b z)⟩
       |obj c ks xs=>obtain⟨dx,vs,q1,q0,q2⟩:=r2;exact⟨dx,vs,q1,q0,q2.av λb z => .inl (less b z)⟩
       |dct ks xs=>obtain⟨vs,q1,q0,q2⟩:=r2;exact⟨vs,q1,q0,q2.av λb z => .inl (less b z)⟩
       |dtt ks xs=>obtain⟨vs,q1,q0,q2⟩:=r2;exact⟨vs,q1,q0,q2.av λb z => .inl (less b z)⟩
       |_=>exact r2
theorem ER.own{i:Nat}{xs:al D}{vs:al V}{p:jf}(E:ER G ow H0 av A σ H δ)(hp:H p=none)(l:aD G.1 (AV av A) H xs vs)(hw:∀j,j∈ow1 ↔ j∈ow\/j=i)(hn:G.2 i=none) :
 ER G ow1 H0 av (λj=>if j=i then ja p else A j) (σ.set i (ja (.ref p))) (aV H p (.lst vs)) (δ.set i (ja (.lst xs))):=by
 have hs:aH H (aV H p (.lst vs)):=YB hp
 have less:∀b,AV av (λj=>if j=i then ja p else A j) b->AV av A b\/H b=none:=λb z=>by
  rcases z with z|⟨j,z⟩
  . exact .inl (.inl z)
  . by_cases e:j=i
    . simp [e]at z;subst z;exact .inr hp
    . simp [e]at z;exact .inl (.inr ⟨j,z⟩)
 have np:∀j a,A j=ja a->a≠p:=λj a e z=>by subst z;exact E.live j a e hp
 have h0:H0 p=none:=by
  cases q:H0 p with
  |none=>rfl
  |some o=>rw [E.same p o q]at hp;cases hp
 refine⟨E.same.trans hs,E.avd,λj a e => ?_,λj k a e1 e2 => ?_,λj a e => ?_,λj e => ?_,λj hj => ?_,by simp [E.len],λj a e=>(by
  have q:j≠i:=λz=>by rw [z,hn]at e;cases e
  simp only [q,if_false];exact E.pin j a e),(λj v' e=>by
  have q:j≠i:=λz=>by rw [z,hn]at e;cases e
  rw [qy (qF q)];exact E.kept j v' e),λj d' e => ?_⟩
 . by_cases q:j=i
   . simp [q]at e;subst e;exact h0
   . simp [q]at e;exact E.fr j a e
 . by_cases q:j=i
   . by_cases q2:k=i
     . rw [q,q2]
     . simp [q]at e1;simp [q2]at e2
       exact absurd e1.symm (np k a e2)
   . by_cases q2:k=i
     . simp [q]at e1;simp [q2]at e2
       exact absurd e2.symm (np j a e1)
     . simp [q]at e1;simp [q2]at e2;exact E.inj j k a e1 e2
 . by_cases q:j=i
   . simp [q]at e;subst e;rw [ZF];exact λz=>by cases z
   . simp [q]at e
     rw [Zn (np j a e)];exact E.live j a e
 . by_cases q:j=i
   . exact(hw j).mpr (.inr q)
   . simp [q]at e;exact(hw j).mpr (.inl (E.dom j e))
 . by_cases q:j=i
   . simp [q]
   . simp [q]
     exact E.dom' j (((hw j).mp hj).resolve_right q)
 . rcases mC e with⟨rfl,rfl,hl⟩|⟨q,e'⟩
   . refine⟨.ref p,?_,λz=>by simp at z,λa z => ?_⟩
     . rw [qN (by rw [E.len];exact hl)]
     . simp at z
       subst z;exact⟨rfl,vs,ZF,(l.av less).same hs⟩
   . obtain⟨v',h1,h2,h3⟩:=E.var j d' e'
     refine⟨v',by rw [qy (qF q)];exact h1,λz => ?_,λa z => ?_⟩
     . simp [q]at z
       exact((h2 z).av less).same hs
     . simp [q]at z
       obtain⟨r1,r2⟩:=h3 a z;refine⟨r1,?_⟩;cases d' with
       |lst xs=>obtain⟨vs',q1,q2⟩:=r2;exact⟨vs',hs _ _ q1,(q2.av less).same hs⟩
       |obj c ks xs=>obtain⟨dx,vs',q1,q0,q2⟩:=r2;exact⟨dx,vs',hs _ _ q1,q0,(q2.av less).same hs⟩
       |dct ks xs=>obtain⟨vs',q1,q0,q2⟩:=r2;exact⟨vs',hs _ _ q1,q0,(q2.av less).same hs⟩
       |dtt ks xs=>obtain⟨vs',q1,q0,q2⟩:=r2;exact⟨vs',hs _ _ q1,q0,(q2.av less).same hs⟩
       |_=>exact r2
theorem ER.put{i:Nat}{a:jf}{d d':D}(E:ER G ow H0 av A σ H δ)(hi:A i=ja a)(hd:δ[i]? = ja (ja d))(hk:∀b o,b≠a->H b=ja o->H' b=ja o)(hl:H' a≠none)(ho:dL G.1 (AV av A) H' d' a) :
 ER G ow H0 av A σ H' (δ.set i (ja d')):=by
 have kk:∀b o,¬AV av A b->H b=ja o->H' b=ja o:=λb o n e=>hk b o (λz=>n (.inr ⟨i,by rw [z];exact hi⟩)) e
 refine⟨λb o e=>hk b o (λz => ?_) (E.same b o e),E.avd,E.fr,E.inj,λj b e => ?_,E.dom,E.dom',by simp [E.len],E.pin,E.kept,λj d'' e => ?_⟩
 . rw [z,E.fr i a hi]at e;cases e
 . by_cases q:b=a
   . subst q;exact hl
   . have:=E.live j b e
     cases e':H b with
     |none=>exact absurd e' this
     |some o=>rw [hk b o q e'];exact λz=>by cases z
 . rcases mC e with⟨rfl,rfl,hl'⟩|⟨q,e'⟩
   . obtain⟨v,h1,_,h3⟩:=E.var j d hd
     obtain⟨r1,_⟩:=h3 a hi
     exact⟨v,h1,λz=>(by rw [hi]at z;cases z),λb z=>by
      rw [hi]at z;cases z;exact⟨r1,ho⟩⟩
   . obtain⟨v',h1,h2,h3⟩:=E.var j d'' e'
     refine⟨v',h1,λz=>(h2 z).ext kk,λb z => ?_⟩;obtain⟨r1,r2⟩:=h3 b z;have nb:b≠a:=λw=>q (E.inj j i a (by rw [<-w];exact z) hi)
     refine⟨r1,?_⟩;cases d'' with
     |lst xs=>obtain⟨vs,q1,q2⟩:=r2;exact⟨vs,hk _ _ nb q1,q2.ext kk⟩
     |obj c ks xs=>obtain⟨dx,vs,q1,q0,q2⟩:=r2;exact⟨dx,vs,hk _ _ nb q1,q0,q2.ext kk⟩
     |dct ks xs=>obtain⟨vs,q1,q0,q2⟩:=r2;exact⟨vs,hk _ _ nb q1,q0,q2.ext kk⟩
     |dtt ks xs=>obtain⟨vs,q1,q0,q2⟩:=r2;exact⟨vs,hk _ _ nb q1,q0,q2.ext kk⟩
     |_=>exact r2
theorem ER.freeze(i:Nat)(E:ER G ow H0 av A σ H δ)(hw:∀j,j∈ow1 ↔ j∈ow/\j≠i)(hn:G.2 i=none):ER G ow1 H0 av (λj=>if j=i then none else A j) σ H δ:=by
 have less:∀b,AV av (λj=>if j=i then none else A j) b->AV av A b:=λb z=>by
  rcases z with z|⟨j,z⟩
  . exact .inl z
  . by_cases e:j=i
    . simp [e]at z
    . simp [e]at z;exact .inr ⟨j,z⟩
 refine⟨E.same,E.avd,λj a e => ?_,λj k a e1 e2 => ?_,λj a e => ?_,λj e => ?_,λj hj => ?_,E.len,λj a e=>(by
  have q:j≠i:=λz=>by rw [z,hn]at e;cases e
  simp only [q,if_false];exact E.pin j a e),E.kept,λj d' e => ?_⟩
 . by_cases q:j=i
   . simp [q]at e
   . simp [q]at e;exact E.fr j a e
 . by_cases q:j=i
   . simp [q]at e1
   . by_cases q2:k=i
     . simp [q2]at e2
     . simp [q]at e1;simp [q2]at e2;exact E.inj j k a e1 e2
 . by_cases q:j=i
   . simp [q]at e
   . simp [q]at e;exact E.live j a e
 . by_cases q:j=i
   . simp [q]at e
   . simp [q]at e;exact(hw j).mpr ⟨E.dom j e,q⟩
 . obtain⟨h1,h2⟩:=(hw j).mp hj
   simp [h2];exact E.dom' j h1
 . obtain⟨v',h1,h2,h3⟩:=E.var j d' e
   refine⟨v',h1,λz => ?_,λa z => ?_⟩
   . by_cases q:j=i
     . subst q
       cases hA:A j with
       |none=>exact(h2 hA).av λb z => .inl (less b z)
       |some a=>
        obtain⟨rfl,r2⟩:=h3 a hA
        have na:¬AV av (λk=>if k=j then none else A k) a:=λz=>by
         rcases z with z|⟨k,z⟩
         . exact E.avd a z (E.fr j a hA)
         . by_cases qk:k=j
           . simp [qk]at z
           . simp [qk]at z;exact qk (E.inj k j a z hA)
        cases d' with
        |lst xs=>obtain⟨vs,q1,q2⟩:=r2;unfold Rep;exact⟨a,vs,rfl,λz=>(na z).elim,bv.of q1,q2.av λb z => .inl (less b z)⟩
        |obj c ks xs=>obtain⟨dx,vs,q1,q0,q2⟩:=r2;unfold Rep;exact⟨a,dx,vs,rfl,na,q1,q0,q2.av λb z => .inl (less b z)⟩
        |dct ks xs=>obtain⟨vs,q1,q0,q2⟩:=r2;unfold Rep;exact⟨a,vs,rfl,na,q1,q0,q2.av λb z => .inl (less b z)⟩
        |dtt ks xs=>obtain⟨vs,q1,q0,q2⟩:=r2;unfold Rep;exact⟨a,vs,rfl,na,q1,q0,q2.av λb z => .inl (less b z)⟩
        |_=>exact qi r2
     . simp [q]at z
       exact(h2 z).av λb z => .inl (less b z)
   . by_cases q:j=i
     . simp [q]at z
     . simp [q]at z
       obtain⟨r1,r2⟩:=h3 a z;refine⟨r1,?_⟩;cases d' with
       |lst xs=>obtain⟨vs,q1,q2⟩:=r2;exact⟨vs,q1,q2.av λb z => .inl (less b z)⟩
       |obj c ks xs=>obtain⟨dx,vs,q1,q0,q2⟩:=r2;exact⟨dx,vs,q1,q0,q2.av λb z => .inl (less b z)⟩
       |dct ks xs=>obtain⟨vs,q1,q0,q2⟩:=r2;exact⟨vs,q1,q0,q2.av λb z => .inl (less b z)⟩
       |dtt ks xs=>obtain⟨vs,q1,q0,q2⟩:=r2;exact⟨vs,q1,q0,q2.av λb z => .inl (less b z)⟩
       |_=>exact r2
open Classical in
def ii(A:Nat->am jf)(H:Hp):Hp:=λb=>if ∃i,A i=ja b then none else H b
theorem mD{b:jf}{o:HO}(h:ii A H b=ja o):H b=ja o/\¬∃i,A i=ja b:=by
 unfold ii at h
 by_cases e:∃i,A i=ja b
 . rw [if_pos e]at h;cases h
 . rw [if_neg e]at h;exact⟨h,e⟩
theorem Qp{b:jf}(e:¬∃i,A i=ja b):ii A H b=H b:=by
 unfold ii;rw [if_neg e]
theorem ER.cut(E:ER G ow H0 av A σ H δ):ER G ow (DL.ii A H) av A σ H δ:=by
 refine⟨λb o e=>(mD e).1,λa z => ?_,λi a e => ?_,E.inj,E.live,E.dom,E.dom',E.len,E.pin,E.kept,E.var⟩
 . rw [Qp λ⟨i,e⟩=>E.avd a z (E.fr i a e)]
   exact E.avH a z
 . unfold DL.ii
   rw [if_pos ⟨i,e⟩]
theorem ER.sub0(E:ER G ow H0 av A σ H δ):aH H0 (DL.ii A H):=λb o e=>by
 rw [Qp λ⟨i,z⟩=>by rw [E.fr i b z]at e;cases e];exact E.same b o e
theorem ER.uncut{A':Nat->am jf}{σ':L2.St}{δ':Env}(E:ER G ow H0 av A σ H δ)(E':ER G ow1 (DL.ii A H) av A' σ' H' δ'):ER G ow1 H0 av A' σ' H' δ':=
 ⟨E.sub0.trans E'.same,E.avd,λi a e=>E.sub0.free (E'.fr i a e),E'.inj,E'.live,E'.dom,E'.dom',E'.len,E'.pin,E'.kept,E'.var⟩
def aL(δ:Env):am aT:=ja (.nx δ)
theorem Yd:VS G ow ow owB owC fM aL:=λH0 av A σ H δ E o e De k=>by
 cases e;exact k A σ H E
def Zf(φ ψ:Env->am aT)(δ:Env):am aT:=match φ δ with
 |some (.nx δ')=>ψ δ'
 |r=>r
theorem Zj(h1:VS G ow ow1 owB owC t φ)(h2:VS G ow1 owN owB owC u ψ):VS G ow owN owB owC (VQ t u) (Zf φ ψ):=λH0 av A σ H δ E o e De k=>by
 unfold Zf at e;cases he:φ δ with
 |none=>rw [he]at e;cases e
 |some o1=>
  rw [he]at e;refine h1 H0 av A σ H δ E o1 he _ ?_;cases o1 with
  |nx δ'=>exact λA' σ' H' E'=>h2 H0 av A' σ' H' δ' E' o e De k
  |rt d=>cases e;exact k
  |bk δ'=>cases e;exact k
  |ct δ'=>cases e;exact k
def bp(τ:Env->am Bool)(φ ψ:Env->am aT)(δ:Env):am aT:=match τ δ with
 |some je=>φ δ
 |some jj=>ψ δ
 |none=>none
theorem Yo(hc:VT G ow c τ)(h1:VS G ow owN owB owC t φ)(h2:VS G ow owN owB owC u ψ):VS G ow owN owB owC (Qg c t u) (bp τ φ ψ):=λH0 av A σ H δ E o e De k=>by
 unfold bp at e;cases he:τ δ with
 |none=>rw [he]at e;cases e
 |some b=>
  rw [he]at e;refine hc H0 av A σ H δ E b he _ λH' s => ?_
  cases b with
  |true=>exact XZ (h1 H0 av A σ H' δ (E.mono s) o e De k)
  |false=>exact Va (h2 H0 av A σ H' δ (E.mono s) o e De k)
def Zm(ε:Env->am D)(δ:Env):am aT:=match ε δ with
 |some d=>ja (.rt d)
 |none=>none
theorem ZW(h:VE G ow te q ε):VS G ow owN owB owC (QW te) (Zm ε):=λH0 av A σ H δ E o e De k=>by
 unfold Zm at e;cases he:ε δ with
 |none=>rw [he]at e;cases e
 |some d=>
  rw [he]at e;cases e;exact h H0 av A σ H δ E d he _ λv H' s r=>k v H' (E.same.trans s) r.any
def Ye(_:Env):am aT:=ja (.rt .non)
def Yg(_:Env):am aT:=none
def Zg(i:Nat)(ε:Env->am D)(δ:Env):am aT:=match ε δ with
 |some d=>ja (.nx (δ.set i (ja d)))
 |none=>none
theorem ij{i:Nat}(h1:sub ow1 ow=je)(h2:ow1.contains i=jj)(h3:sub ow (i::ow1)=je):∀j,j∈ow1 ↔ j∈ow/\j≠i:=λj=>by
 constructor
 . intro h
   refine⟨ig h1 j h,λe => ?_⟩;subst e;have:j∉ow1:=by simpa using h2
   exact this h
 . rintro⟨h,n⟩
   rcases jp.mp (ig h3 j h)with e|e
   . exact absurd e n
   . exact e
theorem CY{i:Nat}(h1:sub ow1 (i::ow)=je)(h2:ow1.contains i=je)(h3:sub ow ow1=je):∀j,j∈ow1 ↔ j∈ow\/j=i:=λj=>by
 constructor
 . intro h
   rcases jp.mp (ig h1 j h)with e|e
   . exact .inr e
   . exact .inl e
 . rintro(h|rfl)
   . exact ig h3 j h
   . simpa using h2
theorem Zo(i:Nat)(h:VE G ow te .cl ε)(hn:autoParam (G.2 i=none) ah)(h1:autoParam (sub owN ow=true) ah)(h2:autoParam (owN.contains i=false) ah)(h3:autoParam (sub ow (i::owN)=true) ah):VS G ow owN owB owC (Uj te (Uh i)) (Zg i ε):=λH0 av A σ H δ E o e De k=>by
 unfold Zg at e;cases he:ε δ with
 |none=>rw [he]at e;cases e
 |some d=>
  rw [he]at e;cases e;exact h H0 av A σ H δ E d he _ λv H' s r=>k _ _ H' ((E.mono s).set (bf.r r) (ij h1 h2 h3) hn)
theorem Qq(i:Nat)(h:VF G ow te ε)(hn:autoParam (G.2 i=none) ah)(h1:autoParam (sub owN (i::ow)=true) ah)(h2:autoParam (owN.contains i=true) ah)(h3:autoParam (sub ow owN=true) ah):VS G ow owN owB owC (Uj te (Uh i)) (Zg i ε):=λH0 av A σ H δ E o e De k=>by
 unfold Zg at e;cases he:ε δ with
 |none=>rw [he]at e;cases e
 |some d=>
  rw [he]at e;cases e;refine h H0 av A σ H δ E d he _ λp vs xs H1 s hp l hd => ?_
  subst hd;exact k _ _ _ ((E.mono s).own hp l (CY h1 h2 h3) hn)
def ZP(ε:Env->am D)(δ:Env):am aT:=match ε δ with
 |some _=>ja (.nx δ)
 |none=>none
theorem tR(h:VE G ow te q ε):VS G ow ow owB owC (XN te) (ZP ε):=λH0 av A σ H δ E o e De k=>by
 unfold ZP at e;cases he:ε δ with
 |none=>rw [he]at e;cases e
 |some d=>
  rw [he]at e;cases e;exact h H0 av A σ H δ E d he _ λv H' s r=>k A σ H' (E.mono s)
def Ut(i:Nat)(ε:Env->am D)(δ:Env):am aT:=match Za i δ with
 |some (.lst xs)=>match ε δ with
  |some d=>if xs.length<jv then ja (.nx (δ.set i (ja (.lst (xs++[d])))))else none
  |none=>none
 |_=>none
theorem ik{K:jb}(i:Nat)(hi:ow.contains i=je)(h:VE G ow te .cl ε):VS G ow ow owB owC (XN (gq K "list" dS (Xu i) (YG te cF))) (Ut i ε):=λH0 av A σ H δ E o e De k=>by
 unfold Ut at e;cases hv:Za i δ with
 |none=>rw [hv]at e;cases e
 |some x=>
  rw [hv]at e;cases x<;>first|(cases e;done)|skip
  rename_i xs;dsimp only at e;cases he:ε δ with
  |none=>rw [he]at e;cases e
  |some d=>
   rw [he]at e;dsimp only at e
   by_cases hz:xs.length<jv
   . rw [if_pos hz]at e
     cases e;have hi':i∈ow:=by simpa using hi
     cases hA:A i with
     |none=>exact absurd hA (E.dom' i hi')
     |some a=>
      obtain⟨v,h1,_,h3⟩:=E.var i _ (Xi hv);obtain⟨rfl,vs,q1,q2⟩:=h3 a hA;refine⟨_,h1,.inl ⟨rfl,vs,bv.of q1⟩,h H0 av A σ H δ E d he _ λv H' s r => ?_⟩;have E':=E.mono s;have q1':=s _ _ q1;refine⟨a,vs,v,rfl,rfl,q1',by rw [<-q2.length];exact hz,k A σ _ (E'.put hA (Xi hv) (λb o hb e=>by rw [Zn hb];exact e) (by rw [ZF];exact λz=>by cases z) ⟨_,ZF,?_⟩)⟩
      have ex:∀b o,¬AV av A b->H' b=ja o->aV H' a (.lst (vs++[v])) b=ja o:=λb o n e=>by
       rw [Zn λz=>n (.inr ⟨i,by rw [z];exact hA⟩)];exact e
      exact((q2.same s).append (.cons (bf.r r) .nil)).ext ex
   . rw [if_neg hz]at e;cases e
theorem VS.frz{t:TS}{φ:Env->am aT}(i:Nat)(h:VS G ow1 owN owB owC t φ)(hn:autoParam (G.2 i=none) ah)(h1:autoParam (sub ow1 ow=true) ah)(h2:autoParam (ow1.contains i=false) ah)(h3:autoParam (sub ow (i::ow1)=true) ah):VS G ow owN owB owC t φ:=λH0 av A σ H δ E o e De k=>
 h H0 av _ σ H δ (E.freeze i (ij h1 h2 h3) hn) o e De k
theorem VS.frzN{t:TS}{φ:Env->am aT}(i:Nat)(h:VS G ow owN owB owC t φ)(hn:G.2 i=none)(h1:sub ow1 owN=je)(h2:ow1.contains i=jj)(h3:sub owN (i::ow1)=je):VS G ow ow1 owB owC t φ:=λH0 av A σ H δ E o e De k=>
 h H0 av A σ H δ E o e De (by
  cases o with
  |nx δ'=>exact λA' σ' H' E'=>k _ σ' H' (E'.freeze i (ij h1 h2 h3) hn)
  |rt d=>exact k
  |bk δ'=>exact k
  |ct δ'=>exact k)
def Zw(i:Nat)(d:D)(δ:Env):am Env:=ja (δ.set i (ja d))
theorem Uu(i:Nat)(hi:autoParam (ow.contains i=false) ah)(hn:autoParam (G.2 i=none) ah):VG G ow ow (Uh i) (Zw i):=λH0 av A σ H δ E d v r δ' e Q k=>by
 cases e
 exact k _ _ H (aH.refl H) (E.set r (λj=>by
  have:i∉ow:=by simpa using hi
  exact⟨λh=>⟨h,λz=>this (z▸h)⟩,λh=>h.1⟩) hn)
def gH(G:Cn)(ow ow':al Nat)(g:gn)(γ:al D->Env->am Env):Prop:=
 ∀H0 av A σ H δ,ER G ow H0 av A σ H δ->∀ds vs,aD G.1 (AV av A) H ds vs->∀δ',γ ds δ=ja δ'->∀Q:L2.St->Hp->Prop,(∀A' σ' H',aH H H'->(∀b,AV av A' b->AV av A b)->ER G ow' H0 av A' σ' H' δ'->Q σ' H')->g vs σ H Q
def bG(ds:al D)(δ:Env):am Env:=match ds with
 | []=>ja δ
 |_=>none
theorem tS:gH G ow ow gD bG:=λH0 av A σ H δ E ds vs r δ' e Q k=>by
 cases ds with
 |nil=>cases e;exact⟨r.nil_of,k A σ H (aH.refl H) (λ_ z=>z) E⟩
 |cons _ _=>cases e
def Yh(i:Nat)(γs:al D->Env->am Env)(ds:al D)(δ:Env):am Env:=match ds with
 |d::r=>γs r (δ.set i (ja d))
 | []=>none
theorem mE(i:Nat)(hi:ow.contains i=jj)(hn:G.2 i=none)(h:gH G ow ow gs γs):gH G ow ow (rQ (Uh i) gs) (Yh i γs):=λH0 av A σ H δ E ds vs r δ' e Q k=>by
 cases ds with
 |nil=>cases e
 |cons d ds=>
  obtain⟨v,vr,rfl,r1,r2⟩:=r.uncons;refine⟨v,vr,rfl,?_⟩
  have less:∀b,AV av (λj=>if j=i then none else A j) b->AV av A b:=λb z=>by
   rcases z with z|⟨j,z⟩
   . exact .inl z
   . by_cases e:j=i
     . simp [e]at z
     . simp [e]at z;exact .inr ⟨j,z⟩
  have E1:ER G ow H0 av (λj=>if j=i then none else A j) (σ.set i (ja v)) H (δ.set i (ja d)):=E.set r1 (λj=>by
   have:i∉ow:=by simpa using hi
   exact⟨λh=>⟨h,λz=>this (z▸h)⟩,λh=>h.1⟩) hn
  exact h H0 av _ _ H _ E1 ds vr (r2.av λb z => .inl (less b z)) δ' e Q λA' σ' H' s l E'=>k A' σ' H' s (λb z=>less b (l b z)) E'
def Xd(n:Nat)(γs:al D->Env->am Env)(d:D)(δ:Env):am Env:=match d with
 | .tup ds=>if ds.length=n then γs ds δ else none
 |_=>none
theorem tT{K:jb}{n:Nat}(h:gH G ow ow gs γs):VG G ow ow (lv K n gs) (Xd n γs):=λH0 av A σ H δ E d v r δ' e Q k=>by
 cases d<;>first|(cases e;done)|skip
 rename_i ds;dsimp only [Xd]at e
 by_cases hz:ds.length=n
 . rw [if_pos hz]at e
   unfold Rep at r;obtain⟨a,vs,rfl,_,rd,l⟩:=r;exact⟨a,vs,rfl,cm.of rd,by rw [<-l.length];exact hz,h H0 av A σ H δ E ds vs l δ' e Q λA' σ' H' s _ E'=>k A' σ' H' s E'⟩
 . rw [if_neg hz]at e;cases e
def Uv(cA:Kn)(iv:jf->Prop)(J:It)(xs:al D)(H0:Hp):Prop:=∀H,aH H0 H ->
 (∀i,i<xs.length->J.go i H) /\
 (∀(i:Nat)x v H',xs[i]? = ja x->J.yld i H v H'->aH H H'/\∀av':jf->Prop,(∀b,av' b->H b≠none)->(∀b,av' b->iv b\/H0 b=none)->Rep cA av' H' x v) /\
 (∀i,xs.length<=i->J.stop i H)
def VI(G:Cn)(ow:al Nat)(wi:TI)(ι:Env->am (al D)):Prop:=
 ∀H0 av A σ H δ,ER G ow H0 av A σ H δ->∀xs,ι δ=ja xs->∀R:It->Hp->Prop,(∀J H1,aH H H1->Uv G.1 (AV av A) J xs (DL.ii A H1)->R J H1)->wi σ H R
noncomputable def YY(γ:D->Env->am Env)(φ:Env->am aT):al D->Env->am aT
 | [],δ=>ja (.nx δ)
 |x::r,δ=>match γ x δ with
  |none=>none
  |some δ1=>match φ δ1 with
   |none=>none
   |some (.nx δ2)=>YY γ φ r δ2
   |some (.ct δ2)=>YY γ φ r δ2
   |some (.bk δ2)=>ja (.nx δ2)
   |some (.rt d)=>ja (.rt d)
def Vw(ι:Env->am (al D))(γ:D->Env->am Env)(φ:Env->am aT)(δ:Env):am aT:=match ι δ with
 |some xs=>YY γ φ xs δ
 |none=>none
theorem io(hi:VI G ow wi ι)(hg:VG G ow ow g γ)(hb:VS G ow ow ow ow tb φ):VS G ow ow owB owC (J6 wi g tb) (Vw ι γ φ):=λH0 av A σ H δ E o e De k=>by
 unfold Vw at e;cases he:ι δ with
 |none=>rw [he]at e;cases e
 |some xs=>
  rw [he]at e;have e:YY γ φ xs δ=ja o:=e;refine hi H0 av A σ H δ E xs he _ λJ H1 s1 W => ?_
  have E1:=E.mono s1;refine⟨λi m σ' H'=>m=xs.length-i/\i<=xs.length/\∃A' δ',ER G ow (DL.ii A H1) av A' σ' H' δ'/\YY γ φ (xs.drop i) δ'=ja o,⟨xs.length,by simp,yr _,A,δ,E1.cut,e⟩,?_⟩
  rintro i m σ' H' ⟨rfl,hle,A',δ',E',e'⟩
  obtain⟨w1,w2,w3⟩:=W H' E'.same
  by_cases hlt:i<xs.length
  . refine .inr ⟨w1 i hlt,λσ2 H2=>∃A2 δ2,ER G ow (DL.ii A H1) av A2 σ2 H2 δ2/\YY γ φ (xs.drop (i+1)) δ2=ja o,λσ2 H2 ⟨A2,δ2,E2,e2⟩=>⟨xs.length-(i+1),by omega,rfl,hlt,A2,δ2,E2,e2⟩,λv H2 y => ?_⟩
    have hx:xs[i]? = ja xs[i]:=jQ hlt;obtain⟨s2,rep⟩:=w2 i _ v H2 hx y;have E2:=E'.mono s2
    have rep':Rep G.1 (AV av A') H2 xs[i] v:=rep _ E'.avl λb z=>by
     rcases z with z|⟨j,z⟩
     . exact .inl (.inl z)
     . exact .inr (E'.fr j b z)
    rw [yt hlt]at e';unfold YY at e';cases hγ:γ xs[i] δ' with
    |none=>rw [hγ]at e';cases e'
    |some δ1=>
     rw [hγ]at e';dsimp only at e';refine hg _ av A' σ' H2 δ' E2 _ v rep' δ1 hγ _ λA3 σ3 H3 s3 E3 => ?_
     cases hφ:φ δ1 with
     |none=>rw [hφ]at e';cases e'
     |some o1=>
      rw [hφ]at e';refine hb _ av A3 σ3 H3 δ1 E3 o1 hφ _ ?_;cases o1 with
      |nx δ2=>exact λA4 σ4 H4 E4=>⟨A4,δ2,E4,e'⟩
      |ct δ2=>exact λA4 σ4 H4 E4=>⟨A4,δ2,E4,e'⟩
      |bk δ2=>cases e';exact λA4 σ4 H4 E4=>k A4 σ4 H4 (E1.uncut E4)
      |rt d=>cases e';exact λv H4 s4 r4=>k v H4 (E1.sub0.trans s4) r4
  . have ei:i=xs.length:=by omega
    subst ei;rw [u3]at e';cases e';exact .inl ⟨w3 _ (jz _),k A' σ' H' (E1.uncut E')⟩
open Classical in
end
section
variable{cA:Kn}{G:Cn}{ow owN owB owC:al Nat}
def Z2(ε:Env->am D)(δ:Env):am (al D):=match ε δ with
 |some (.lst xs)=>ja xs
 |some (.tup xs)=>ja xs
 |some (.str cs)=>ja (cs.map λc => .str [c])
 |_=>none
theorem aD.cut{av:jf->Prop}{A:Nat->am jf}{H:Hp}{d:al D}{v:al V}(h:aD cA (AV av A) H d v):aD cA (AV av A) (DL.ii A H) d v:=h.ext λb o n e=>by
 rw [Qp λ⟨i,z⟩=>n (.inr ⟨i,z⟩)];exact e
theorem CZ(rd:bv cA.K H0 a vs)(l:aD cA iv H0 xs vs):Uv cA iv (lx cA.K a) xs H0:=λH s=>by
 have rd':bv cA.K H a vs:=s.seq rd;refine⟨λi hi => ?_,λi x v H' hx y => ?_,λi hi=>⟨vs,rd',by rw [<-l.length];exact hi⟩⟩
 . obtain⟨v,hv,_⟩:=l.get (jQ hi)
   exact⟨vs,v,rd',hv⟩
 . obtain⟨rfl,hy⟩:=y
   obtain⟨v',hv,r⟩:=l.get hx;rw [hy vs rd']at hv;cases hv;exact⟨aH.refl _,λav' _ h2=>(r.av h2).same s⟩
theorem C0{K:jb}{H0:Hp}(rd:H0 a=ja (.tup vs))(l:aD cA iv H0 xs vs):Uv cA iv (gU K a) xs H0:=λH s=>by
 have rd':cm K H a vs:=cm.of (s _ _ rd);refine⟨λi hi => ?_,λi x v H' hx y => ?_,λi hi=>⟨vs,rd',by rw [<-l.length];exact hi⟩⟩
 . obtain⟨v,hv,_⟩:=l.get (jQ hi)
   exact⟨vs,v,rd',hv⟩
 . obtain⟨rfl,hy⟩:=y
   obtain⟨v',hv,r⟩:=l.get hx;rw [hy vs rd']at hv;cases hv;exact⟨aH.refl _,λav' _ h2=>(r.av h2).same s⟩
theorem C2{cs:al Nat}:Uv cA iv (hJ cs) (cs.map λc => .str [c]) H0:=λH s=>by
 refine⟨λi hi=>(show i<cs.length by simpa using hi),λi x v H' hx y => ?_,λi hi=>(show cs.length<=i by simpa using hi)⟩;obtain⟨rfl,c,hc,rfl⟩:=y;rw [j9,hc]at hx;cases hx;exact⟨aH.refl _,λ_ _ _=>rfl⟩
theorem VY(h:VE G ow tl .cl ε):VI G ow (ma G.1.K tl) (Z2 ε):=λH0 av A σ H δ E xs e R k=>by
 unfold Z2 at e;cases he:ε δ with
 |none=>rw [he]at e;cases e
 |some d=>
  rw [he]at e;refine h H0 av A σ H δ E d he _ λv H1 s r => ?_
  cases d<;>first|(cases e;done)|skip
  . cases e
    exact .inr (.inr ⟨_,r,k _ H1 s C2⟩)
  . cases e
    obtain⟨a,vs,rfl,na,rd,l⟩:=r;exact .inl ⟨a,vs,rfl,rd,k _ H1 s (CZ (mq na rd λb o n e=>by rw [Qp λ⟨i,z⟩=>n (.inr ⟨i,z⟩)];exact e) l.cut)⟩
  . cases e
    obtain⟨a,vs,rfl,na,rd,l⟩:=r;exact .inr (.inl ⟨a,vs,rfl,cm.of rd,k _ H1 s (C0 (by rw [Qp λ⟨i,z⟩=>na (.inr ⟨i,z⟩)];exact rd) l.cut)⟩)
noncomputable def YC(lo c:Int)(n:Nat):al D:=(qG n).map λk => .int (lo+(k:Nat)*c)
theorem C3{lo:Int}{n:Nat}:Uv cA iv (gW lo n) (YC lo 1 n) H0:=λH s=>by
 refine⟨λi hi=>(show i<n by simpa [YC]using hi),λi x v H' hx y => ?_,λi hi=>(show n<=i by simpa [YC]using hi)⟩;obtain⟨rfl,rfl⟩:=y;have hi:i<n:=by have:=(jL.mp hx).1;simpa [YC]using this
 have:x = .int (lo+i):=by
  unfold YC at hx;rw [j9,Oz hi]at hx;have:=jx hx;rw [<-this];show D.int (lo+(i:Int)*1)=_;rw [W7]
 subst this;exact⟨aH.refl _,λ_ _ _=>rfl⟩
theorem C4{lo c:Int}{n:Nat}:Uv cA iv (ml lo c n) (YC lo c n) H0:=λH s=>by
 refine⟨λi hi=>(show i<n by simpa [YC]using hi),λi x v H' hx y => ?_,λi hi=>(show n<=i by simpa [YC]using hi)⟩;obtain⟨rfl,rfl⟩:=y;have hi:i<n:=by have:=(jL.mp hx).1;simpa [YC]using this
 have:x = .int (lo+i*c):=by
  unfold YC at hx;rw [j9,Oz hi]at hx;exact(jx hx).symm
 subst this;exact⟨aH.refl _,λ_ _ _=>rfl⟩
def Y8(α:Env->am (al D))(δ:Env):am (al D):=match α δ with
 |some [.int j]=>if -(2 ^ 62)<=j/\j<2 ^ 62 then ja (YC 0 1 j.toNat)else none
 |some [.int i,.int j]=>if -(2 ^ 62)<=i/\i<2 ^ 62 /\ -(2 ^ 62)<=j/\j<2 ^ 62 then ja (YC i 1 (j-i).toNat)else none
 |some [.int i,.int j,.int c]=>if c≠0/\c.natAbs<1073741824/\yv i j c=je then ja (YC i c (jZ i j c).toNat)else none
 |_=>none
theorem tU{x:Int}{vs:al V}(h:bx cA av A H q [.int x] vs):vs=[.int x]:=by
 obtain⟨v,r,rfl,h1,h2⟩:=h;have:=h1.any;cases(show v=_ from this);cases(show r=[]from h2);rfl
theorem C5{x y:Int}{vs:al V}(h:bx cA av A H q [.int x,.int y] vs):vs=[.int x,.int y]:=by
 obtain⟨v,r,rfl,h1,h2⟩:=h;have:=h1.any;cases(show v=_ from this);rw [tU h2]
theorem C6{x y z:Int}{vs:al V}(h:bx cA av A H q [.int x,.int y,.int z] vs):vs=[.int x,.int y,.int z]:=by
 obtain⟨v,r,rfl,h1,h2⟩:=h;have:=h1.any;cases(show v=_ from this);rw [C5 h2]
theorem C7{a:Env->am (al D)}(h:VA G ow ta q a)(hl:∀δ ds,a δ=ja ds->ds.length=1):VI G ow (rV ta) (Y8 a):=λH0 av A σ H δ E xs e R k=>by
 unfold Y8 at e;cases he:a δ with
 |none=>rw [he]at e;cases e
 |some ds=>
  rw [he]at e;refine h H0 av A σ H δ E ds he _ λvs H1 s r => ?_
  have hln:=hl δ ds he
  split at e
  . rename_i j he2
    cases he2
    by_cases hz : -(2 ^ 62)<=j/\j<2 ^ 62
    . rw [if_pos hz]at e
      cases e;exact⟨j,tU r,hz.1,hz.2,k _ H1 s C3⟩
    . rw [if_neg hz]at e;cases e
  . rename_i he2;cases he2;simp at hln
  . rename_i he2;cases he2;simp at hln
  . cases e
theorem C8{a:Env->am (al D)}(h:VA G ow ta q a)(hl:∀δ ds,a δ=ja ds->ds.length=3):VI G ow (tq ta) (Y8 a):=λH0 av A σ H δ E xs e R k=>by
 unfold Y8 at e;cases he:a δ with
 |none=>rw [he]at e;cases e
 |some ds=>
  rw [he]at e;refine h H0 av A σ H δ E ds he _ λvs H1 s r => ?_
  have hln:=hl δ ds he
  split at e
  . rename_i he2;cases he2;simp at hln
  . rename_i he2;cases he2;simp at hln
  . rename_i i j c he2
    cases he2
    by_cases hz:c≠0/\c.natAbs<1073741824/\yv i j c=je
    . rw [if_pos hz]at e
      cases e;exact⟨i,j,c,C6 r,hz,k _ H1 s C4⟩
    . rw [if_neg hz]at e;cases e
  . cases e
theorem C9{ds:al D}(h:az δ=ja ds):ds.length=0:=by cases h;rfl
theorem mF{r:Env->am (al D)}{n:Nat}(hr:∀δ ds,r δ=ja ds->ds.length=n):∀δ ds,Zb a r δ=ja ds->ds.length=n+1:=λδ ds h=>by
 unfold Zb at h;cases ha:a δ with
 |none=>rw [ha]at h;cases h
 |some x=>
  rw [ha]at h;cases hr':r δ with
  |none=>rw [hr']at h;cases h
  |some xs=>rw [hr']at h;cases h;rw [jh,hr δ xs hr']
theorem tV:∀δ ds,Zb a az δ=ja ds->ds.length=1:=mF λ_ _=>C9
theorem Db:∀δ ds,Zb a (Zb b az) δ=ja ds->ds.length=2:=mF tV
theorem Dc:∀δ ds,Zb a (Zb b (Zb c az)) δ=ja ds->ds.length=3:=mF Db
noncomputable def Y9(n:Nat)(δ:Env)(js:al Nat):Env:=jd n none++js.map λj=>(δ[j]?).getD none
noncomputable def YD(γ:D->Env->am Env)(τ:Env->am Bool)(ε:Env->am D)(δ0:Env):al D->am (al D)
 | []=>ja []
 |x::r=>match γ x δ0 with
  |none=>none
  |some δ1=>match τ δ1 with
   |none=>none
   |some jj=>YD γ τ ε δ0 r
   |some je=>match ε δ1 with
    |none=>none
    |some y=>match YD γ τ ε δ0 r with
     |none=>none
     |some ys=>ja (y::ys)
def Yr(ι:Env->am (al D))(γ:D->Env->am Env)(τ:Env->am Bool)(ε:Env->am D)(n:Nat)(js:al Nat)(δ:Env):am D:=match ι δ with
 |none=>none
 |some xs=>match YD γ τ ε (Y9 n δ js) xs with
  |none=>none
  |some ys=>if ys.length<=jv then ja (.lst ys)else none
theorem ER.blk{H0 H:Hp}{av:jf->Prop}{A:Nat->am jf}{σ:L2.St}{δ:Env}(n:Nat)(js:al Nat)(hjs:js.all (λj => !ow.contains j)=je)(E:ER G ow H0 av A σ H δ) :
 ER ⟨G.1,λ_=>none⟩ [] H (AV av A) (λ_=>none) (L2.eo n σ js) H (Y9 n δ js):=by
 refine⟨aH.refl H,E.avl,λ_ _ z=>(by cases z),λ_ _ _ z=>(by cases z),λ_ _ z=>(by cases z),λ_ z=>absurd rfl z,λ_ z=>(by cases z),?_,λ_ _ z=>(by cases z),λ_ _ z=>(by cases z),λi d e => ?_⟩
 . unfold L2.eo Y9 cM
   rw [jt,jt,jP,jP,jk,jk]
 . unfold Y9 at e
   by_cases hi:i<n
   . rw [qp (by simpa using hi),yg,if_pos hi]at e
     cases e
   . rw [qj (by simpa using hi),jP,j9]at e
     cases hj:js[i-n]? with
     |none=>rw [hj]at e;cases e
     |some j=>
      rw [hj]at e;have e':(δ[j]?).getD none=ja d:=jx e
      have e2:δ[j]? = ja (ja d):=by
       cases q:δ[j]? with
       |none=>rw [q]at e';cases e'
       |some z=>rw [q]at e';exact congrArg ja e'
      obtain⟨v,h1,h2,_⟩:=E.var j d e2
      have hjo:A j=none:=by
       cases q:A j with
       |none=>rfl
       |some a=>
        have h3:=E.dom j (by rw [q];exact λz=>by cases z);have h4:=jR.mp hjs j (qK hj);simp at h4;exact absurd h3 h4
      refine⟨v,?_,λ_=>(h2 hjo).av λb z => ?_,λ_ z=>(by cases z)⟩
      . unfold L2.eo cM
        rw [qj (by simpa using hi),jP,j9,hj];show ja ((σ[j]?).getD none)=_;rw [h1];rfl
      . rcases z with z|⟨_,z⟩
        . exact .inl z
        . cases z
theorem UP {n:Nat} {js:al Nat}
 (hjs:js.all (λj => !ow.contains j)=je) (hi:VI G ow wi ι) (hg:VG ⟨G.1,λ_=>none⟩ [] [] g γ) (ht:VT ⟨G.1,λ_=>none⟩ [] tt τ) (he:VE ⟨G.1,λ_=>none⟩ [] te .cl ε):VF G ow (Q5 wi g tt te n js) (Yr ι γ τ ε n js):=λH0 av A σ H δ E d e Q k=>by
 unfold Yr at e;cases hι:ι δ with
 |none=>rw [hι]at e;cases e
 |some xs=>
  rw [hι]at e;dsimp only at e;cases hc:YD γ τ ε (Y9 n δ js) xs with
  |none=>rw [hc]at e;cases e
  |some full=>
   rw [hc]at e;dsimp only at e
   by_cases hz:full.length<=jv
   . rw [if_pos hz]at e
     have ed:D.lst full=d:=jx e;refine hi H0 av A σ H δ E xs hι _ λJ H1 s1 W => ?_
     have E1:=E.mono s1
     refine⟨λi m ys H'=>m=xs.length-i/\i<=xs.length/\aH H1 H'/\∃done rest,aD G.1 (AV av A) H' done ys/\YD γ τ ε (Y9 n δ js) (xs.drop i)=ja rest/\done++rest=full,
      ⟨xs.length,by simp,yr _,aH.refl _,[],full,.nil,hc,rfl⟩,?_⟩
     rintro i m ys H' ⟨rfl,hle,s',done,rest,rl,hr,hf⟩
     have E':=E1.mono s';have sc:aH (DL.ii A H1) H':=λb o z=>s' b o (mD z).1
     obtain⟨w1,w2,w3⟩:=W H' sc
     by_cases hlt:i<xs.length
     . refine .inr ⟨w1 i hlt,λv H2 y => ?_⟩
       have hx:xs[i]? = ja xs[i]:=jQ hlt;obtain⟨s2,rep⟩:=w2 i _ v H2 hx y;have rep':Rep G.1 (AV av A) H2 xs[i] v:=rep _ E'.avl λb z => .inl z
       have E2:=E'.mono s2;have EB:ER ⟨G.1,λ_=>none⟩ [] H2 (AV av A) (λ_=>none) (L2.eo n σ js) H2 (Y9 n δ js):=E2.blk n js hjs
       have triv:∀(A':Nat->am jf){σ':L2.St}{H3:Hp}{δ':Env},ER ⟨G.1,λ_=>none⟩ [] H2 (AV av A) A' σ' H3 δ'->∀b,AV (AV av A) A' b ↔ AV av A b:=λA' {σ' H3 δ'} E3 b=>by
        constructor
        . rintro(z|⟨j,z⟩)
          . exact z
          . have:=E3.dom j (by rw [z];exact λz=>by cases z)
            cases this
        . exact λz => .inl z
       rw [yt hlt]at hr;unfold YD at hr;cases hγ:γ xs[i] (Y9 n δ js)with
       |none=>rw [hγ]at hr;cases hr
       |some δ1=>
        rw [hγ]at hr;dsimp only at hr;refine hg _ _ _ _ H2 _ EB _ v (rep'.av λb z => .inl ((triv _ EB b).mp z)) δ1 hγ _ λA3 σ3 H3 s3 E3 => ?_
        cases hτ:τ δ1 with
        |none=>rw [hτ]at hr;cases hr
        |some c=>
         rw [hτ]at hr;refine ht _ _ A3 σ3 H3 δ1 E3 c hτ _ λH4 s4 => ?_
         have E4:=E3.mono s4;cases c with
         |false=>
          exact Va ⟨xs.length-(i+1),by omega,rfl,hlt,(s'.trans s2).trans (s3.trans s4),done,rest,rl.same ((s2.trans s3).trans s4),hr,hf⟩
         |true=>
          dsimp only at hr;cases hε:ε δ1 with
          |none=>rw [hε]at hr;cases hr
          |some yd=>
           rw [hε]at hr;dsimp only at hr;cases hr':YD γ τ ε (Y9 n δ js) (xs.drop (i+1))with
           |none=>rw [hr']at hr;cases hr
           |some rest'=>
            rw [hr']at hr;have hrr:yd::rest'=rest:=jx hr;subst hrr;refine XZ (he _ _ A3 σ3 H4 δ1 E4 yd hε _ λvy H5 s5 r5 => ?_);have sall:aH H' H5:=((s2.trans s3).trans s4).trans s5;refine⟨?_,xs.length-(i+1),by omega,rfl,hlt,s'.trans sall,done++[yd],rest',(rl.same sall).append (.cons ((bf.r r5).av λb z => .inl ((triv _ E4 b).mpr z)) .nil),hr',by rw [<-hf];simp⟩
            have:=congrArg yE hf;rw [jt,jh]at this;have:=rl.length;omega
     . have ei:i=xs.length:=by omega
       subst ei;rw [u3]at hr;cases hr;refine .inl ⟨w3 _ (jz _),λp hp=>k p ys full H' (s1.trans s') hp (by rw [<-hf,qh];exact rl) ed.symm⟩
   . rw [if_neg hz]at e;cases e
noncomputable def cp(cA:Kn)(n:Nat)(m:al D->am D):Sp:=λvs H Q _=>∃av ds d,(∀a,av a->H a≠none)/\aD cA av H ds vs/\ds.length=n/\m ds=ja d/\∀v H',aH H H'->Rep cA av H' d v->Q v H'
def Zi(n:Nat)(m:al D->am D)(dds:al D)(α:Env->am (al D))(δ:Env):am D:=match α δ with
 |some ds=>if(ds++dds).length=n then m (ds++dds)else none
 |none=>none
def Ql.cq:Ql->Ql
 | .cl => .cl
 |_ => .dt
theorem XF{n:Nat}{q:Ql}{E0:XK}(dds:al D)(hd:dds.all ZA=je)(h:VA G ow t q α):VE G ow (XB (cp G.1 n m) (dds.map bP) E0 t) q.cq (Zi n m dds α):=λH0 av A σ H δ E d e Q k=>by
 unfold Zi at e;cases he:α δ with
 |none=>rw [he]at e;cases e
 |some ds=>
  rw [he]at e;dsimp only at e
  by_cases hz:(ds++dds).length=n
  . rw [if_pos hz]at e
    refine h H0 av A σ H δ E ds he _ λvs H1 s1 r1 => ?_
    have E1:=E.mono s1;cases q with
    |cl=>exact⟨AV av A,ds++dds,d,E1.avl,r1.cl.append (.of_vals hd),hz,e,λv H' s r=>k v H' (s1.trans s) r.t⟩
    |tp=>exact⟨av,ds++dds,d,E1.avH,r1.any.append (.of_vals hd),hz,e,λv H' s r=>k v H' (s1.trans s) r.t⟩
    |dt=>exact⟨av,ds++dds,d,E1.avH,r1.any.append (.of_vals hd),hz,e,λv H' s r=>k v H' (s1.trans s) r.t⟩
  . rw [if_neg hz]at e;cases e
noncomputable def run(N:Nat)(φ:Env->am aT)(ds:al D):am D:=match φ (ds.map ja++jd (N-ds.length) none)with
 |some (.rt d)=>ja d
 |some (.nx _)=>ja .non
 |_=>none
theorem Dd{N:al Str}{ds:al D}(r:aD cA av H ds vs){i:Nat}{d:D}(h:(ds.map ja++jd (N.length-ds.length) none)[i]? = ja (ja d)) :
 ∃v,(L2.start N vs)[i]? = ja (ja v)/\Rep cA av H d v:=by
 by_cases hi:i<ds.length
 . rw [qp (by simpa using hi),j9]at h
   cases hd:ds[i]? with
   |none=>rw [hd]at h;cases h
   |some x=>
    rw [hd]at h;cases h;obtain⟨v,hv,rv⟩:=r.get hd;refine⟨v,?_,rv⟩;unfold L2.start;have:i<vs.length:=by rw [<-r.length];exact hi
    rw [qp (by simpa using this),j9,hv];rfl
 . rw [qj (by simpa using hi),yg]at h
   split at h<;>cases h
theorem VZ{N:al Str}{ds:al D}{av:jf->Prop}{H:Hp}(ha:∀a,av a->H a≠none)(r:aD cA av H ds vs) :
 ER ⟨cA,λ_=>none⟩ [] H av (λ_=>none) (L2.start N vs) H (ds.map ja++jd (N.length-ds.length) none):=by
 refine⟨aH.refl H,ha,λ_ _ z=>(by cases z),λ_ _ _ z=>(by cases z),λ_ _ z=>(by cases z),λ_ z=>absurd rfl z,λ_ z=>(by cases z),?_,λ_ _ z=>(by cases z),λ_ _ z=>(by cases z),λi d e => ?_⟩
 . unfold L2.start
   rw [jt,jt,jk,jk,jP,jP,r.length]
 . obtain⟨v,h1,h2⟩:=Dd r e
   refine⟨v,h1,λ_=>h2.av λb z => ?_,λ_ z=>(by cases z)⟩;rcases z with z|⟨_,z⟩
   . exact .inl z
   . cases z
theorem mG{lo hi:am Int}:Ul vs lo hi=bB vs lo hi:=by
 unfold Ul bB;have e:∀n d o,HT.cz n d o=YA n d o:=λn d o=>by cases o<;>rfl
 rw [e,e]
theorem aD.cutL{av:jf->Prop}{H:Hp}{xs:al D}{vs:al V}(l:aD cA av H xs vs)(lo hi:am Int):aD cA av H (L2.bB xs lo hi) (L2.bB vs lo hi):=by
 unfold L2.bB;rw [l.length];exact(l.drop _).take _
def aS(_:Env):am (am Int):=ja none
def xP(ε:Env->am D)(δ:Env):am (am Int):=match ε δ with
 |some (.int i)=>ja (ja i)
 |_=>none
def VO(G:Cn)(ow:al Nat)(to:TO)(ω:Env->am (am Int)):Prop:=
 ∀H0 av A σ H δ,ER G ow H0 av A σ H δ->∀x,ω δ=ja x->∀Q:am Int->Hp->Prop,(∀H',aH H H'->Q x H')->to σ H Q
theorem Xk:VO G ow dR aS:=λH0 av A σ H δ E x e Q k=>by
 cases e;exact k H (aH.refl H)
theorem Xl(h:VE G ow te q ε):VO G ow (sJ te) (xP ε):=λH0 av A σ H δ E x e Q k=>by
 unfold xP at e;cases he:ε δ with
 |none=>rw [he]at e;cases e
 |some d=>
  rw [he]at e;cases d<;>first|(cases e;done)|skip
  cases e;exact h H0 av A σ H δ E _ he _ λv H' s r=>⟨_,r.any,k H' s⟩
def ip:D->am Int->am Int->am D
 | .str a,lo,hi=>if a.length<=jv then ja (.str (L2.bB a lo hi))else none
 | .lst xs,lo,hi=>ja (.lst (L2.bB xs lo hi))
 | .tup xs,lo,hi=>if YA xs.length 0 lo=0/\YA xs.length xs.length hi=xs.length then none else ja (.tup (L2.bB xs lo hi))
 |_,_,_=>none
def bq(a:Env->am D)(lo hi:Env->am (am Int))(δ:Env):am D:=match a δ with
 |some x=>match lo δ with
  |some l=>match hi δ with
   |some u=>ip x l u
   |none=>none
  |none=>none
 |none=>none
theorem tW{a:Env->am D}{lo hi:Env->am (am Int)}{d:D}(h:bq a lo hi δ=ja d):∃x l u,a δ=ja x/\lo δ=ja l/\hi δ=ja u/\ip x l u=ja d:=by
 unfold bq at h;cases ea:a δ with
 |none=>rw [ea]at h;cases h
 |some x=>
  rw [ea]at h;cases el:lo δ with
  |none=>rw [el]at h;cases h
  |some l=>
   rw [el]at h;cases eu:hi δ with
   |none=>rw [eu]at h;cases h
   |some u=>rw [eu]at h;exact⟨x,l,u,rfl,rfl,rfl,h⟩
theorem XR{q:Ql}(hq:q = .cl\/q = .tp)(ha:VE G ow ta q a)(hl:VO G ow tl lo)(hh:VO G ow th hi):VE G ow (lK (hU G.1.K) ta tl th) .cl (bq a lo hi):=λH0 av A σ H δ E d e Q k=>by
 obtain⟨x,l,u,ex,el,eu,ed⟩:=tW e;refine ha H0 av A σ H δ E x ex _ λv H1 s1 r1=>hl H0 av A σ H1 δ (E.mono s1) l el _ λH2 s2=>hh H0 av A σ H2 δ ((E.mono s1).mono s2) u eu _ λH3 s3 => ?_
 have s13:=s2.trans s3;have E3:=(E.mono s1).mono s13
 have r3:bf G.1 av (AV av A) H3 x v:=by
  have:=(r1.same s13).tp;rcases hq with rfl|rfl<;>exact this
 cases x<;>first|(cases ed;done)|skip
 . rename_i cs
   cases(show v=_ from r3);dsimp only [ip]at ed
   by_cases hz:cs.length<=jv
   . rw [if_pos hz]at ed
     cases ed;exact .inl ⟨cs,rfl,hz,k _ H3 (s1.trans s13) rfl⟩
   . rw [if_neg hz]at ed;cases ed
 . cases ed
   obtain⟨p,vs,rfl,_,rd,ll⟩:=r3;refine .inr (.inl ⟨p,vs,rfl,rd,λp' hp => ?_⟩);rw [mG];exact k _ _ ((s1.trans s13).trans (YB hp)) ⟨p',_,rfl,λz=>(E3.avl p' z hp).elim,bv.of ZF,(ll.cutL l u).same (YB hp)⟩
 . rename_i xs
   dsimp only [ip]at ed
   by_cases hz:YA xs.length 0 l=0/\YA xs.length xs.length u=xs.length
   . rw [if_pos hz]at ed;cases ed
   . rw [if_neg hz]at ed
     cases ed;obtain⟨p,vs,rfl,_,rd,ll⟩:=r3;refine .inr (.inr ⟨p,vs,rfl,cm.of rd,?_,λp' hp => ?_⟩)
     . have e:∀n d o,HT.cz n d o=YA n d o:=λn d o=>by cases o<;>rfl
       rw [e,e,<-ll.length];exact hz
     . rw [mG]
       exact k _ _ ((s1.trans s13).trans (YB hp)) ⟨p',_,rfl,λz=>E3.avl p' z hp,ZF,(ll.cutL l u).same (YB hp)⟩
def mH(K:jb):al V->Hp->VK->Prop:=λxs H Q=>Ct K xs H Q\/∃p vs c cv b,xs=[.ref p,c]/\(∀v,RelV c v->v=cv)/\KL K p vs/\ju K (.type "list") cv=ja b/\Q (.bl b) H
theorem tX{X:Cx}{K:jb}(hK:autoParam (X.K=K) ah):bg X (.builtin "isinstance") (mH K):=by
 subst hK;intro pins s σ H xs us Q I rs h;rcases h with h|⟨p,vs,c,cv,b,rfl,hc,⟨o,its,n,hk,h1,_⟩,e,q⟩
 . exact Cp pins s σ H xs us Q I rs h
 . obtain⟨u,w',rfl,rx,rc⟩:=UI rs
   have ec:=hc _ rc;subst ec;cases(show u=jY p from rx);exact qC OB I.kIn ⟨o,I.kIn p o hk,h1⟩ e (λz=>nomatch z) λtk=>⟨.bl b,H,I.tok tk,rfl,q⟩
noncomputable def kind:D->String
 | .non => "NoneType"
 | .bl _ => "bool"
 | .int _ => "int"
 | .str _ => "str"
 | .lst _ => "list"
 | .tup _ => "tuple"
 | .obj c _ _=>c
 | .dct _ _ => "dict"
 | .dtt _ _ => "dict"
 | .exc _ _ => "dict"
 | .clo _ _ => "function"
def aF:al String:=["NoneType", "bool", "int", "str", "list", "tuple"]
def ZY(tab:al (String×Bool)):D->am Bool
 | .obj c _ _=>if aF.contains c then none else tab.lookup c
 | .dct _ _=>none
 | .dtt _ _=>none
 | .exc _ _=>none
 | .clo _ _=>none
 |d=>tab.lookup (kind d)
def ZI(tab:al (String×Bool))(a:Env->am D)(δ:Env):am D:=match a δ with
 |some d=>match ZY tab d with
  |some b=>ja (.bl b)
  |none=>none
 |none=>none
structure di(K:jb)(C:jf):Prop where
 cl:dC K C
 ha:jm K (.ref C) "__class__" = ja (ja (.builtin "object.__class__"))
 hn:yH K (.builtin "object.__class__") "__get__" = ja (ja (.builtin "getset_descriptor.__get__"))
 htk:OO K (.builtin "object.__class__")=ja je
 hm:qE K C (.type "object")=ja je
structure dw(K:jb)(cA:Kn)(cv:jc)(tab:List (String×Bool)):Prop where
 plain:∀k∈aF,∀b,tab.lookup k=ja b->ju K (.type k) cv=ja b
 own:∀(c:String)b,aF.contains c=jj->tab.lookup c=ja b->ju K (.ref (cA.c c)) cv=ja b/\di K (cA.c c)
theorem mI{β:Type}{c:String}{b:β}:∀{tab:al (String×β)},tab.lookup c=ja b->(c,b)∈tab
 | [],h=>by simp at h
 |(c',b')::r,h=>by
  rw [jC]at h;cases hc:c == c' with
  |true=>
   rw [hc]at h;cases h;rw [eq_of_beq hc];exact jr
  |false=>
   rw [hc]at h;exact jq _ (mI h)
theorem mJ{K:jb}{cA:Kn}{tab:al (String×Bool)}(h:∀p∈tab,if aF.contains p.1=je then ju K (.type p.1) cv=ja p.2 else ju K (.ref (cA.c p.1)) cv=ja p.2/\di K (cA.c p.1)):dw K cA cv tab where
 plain:=λk hk b hl=>by
  have:=h _ (mI hl)
  rwa [if_pos (by simpa using hk)]at this
 own:=λc b hc hl=>by
  have:=h _ (mI hl)
  rwa [if_neg (by simpa using hc)]at this
theorem mK{cv:jc}{tab:al (String×Bool)}(hc:∀v,RelV c v->v=cv)(I:dw G.1.K G.1 cv tab)(ha:VE G ow ta q a) :
 VE G ow (fi (mH G.1.K) (YG ta (YG (tC c) cF))) .cl (ZI tab a):=λH0 av A σ H δ E d e Q k=>by
 unfold ZI at e;cases he:a δ with
 |none=>rw [he]at e;cases e
 |some x=>
  rw [he]at e;dsimp only at e;cases ht:ZY tab x with
  |none=>rw [ht]at e;cases e
  |some b=>
   rw [ht]at e;cases e;refine ha H0 av A σ H δ E x he _ λv H1 s r => ?_
   have r':=r.any;have fin:∀t,cy G.1.K H1 v t->ju G.1.K t cv=ja b->mH G.1.K [v,c] H1 Q:=λt ty e => .inl ⟨v,c,cv,t,b,rfl,hc,ty,e,k _ H1 s rfl⟩
   cases x with
   |non=>cases(show v=_ from r');exact fin _ .non (I.plain _ (by decide) b (by exact ht))
   |bl y=>cases(show v=_ from r');exact fin _ (.bl y) (I.plain _ (by decide) b (by exact ht))
   |int y=>cases(show v=_ from r');exact fin _ (.int y) (I.plain _ (by decide) b (by exact ht))
   |str y=>cases(show v=_ from r');exact fin _ (.str _) (I.plain _ (by decide) b (by exact ht))
   |lst y=>
    unfold Rep at r';obtain⟨p,vs,rfl,_,rd,_⟩:=r';rcases rd with(rd|⟨o,rd⟩)|rd
    . exact fin _ (.lst rd) (I.plain _ (by decide) b (by exact ht))
    . exact fin _ (.frz rd) (I.plain _ (by decide) b (by exact ht))
    . exact .inr ⟨p,vs,c,cv,b,rfl,hc,rd,I.plain _ (by decide) b (by exact ht),k _ H1 s rfl⟩
   |tup y=>
    unfold Rep at r';obtain⟨p,vs,rfl,_,rd,_⟩:=r';exact fin _ (.tup rd) (I.plain _ (by decide) b (by exact ht))
   |dct ks y=>cases ht
   |dtt ks y=>cases ht
   |exc c y=>cases ht
   |clo c y=>cases ht
   |obj c' ks y=>
    unfold Rep at r';obtain⟨p,dx,vs,rfl,_,rd,_⟩:=r';dsimp only [ZY]at ht;cases hp:aF.contains c' with
    |true=>rw [hp,if_pos rfl]at ht;cases ht
    |false=>
    rw [hp,if_neg jI]at ht;obtain⟨h1,h2⟩:=I.own c' b hp ht;exact fin _ (.ins rd h2.cl h2.ha h2.hn h2.htk h2.hm) h1
end
end DL
namespace L2
open PySem PySem.Spec
section
variable{X:Cx}
theorem Dh:ge X "str.count" (λx xs H Q=>∃a c,x=S a/\xs=[S [c]]/\Q (.int (a.count c:Nat)) H):=by
 intro pins s σ H x xs v us Q I rx rs h;obtain⟨a,c,rfl,rfl,q⟩:=h;obtain⟨t,rfl⟩:=rx;obtain⟨u,rfl,t',rfl⟩:=YW rs;refine SC.count ?_;rw [B4];exact⟨.int _,H,I.tok _,⟨_,rfl⟩,q⟩
theorem tY:∀{l:al (al Nat)}{us:al jc},aR (l.map S) us->PyProof.Rows.StrsAre us (l.map tx)
 | [],us,r=>by
  rw [Oi]at r;cases r;exact .nil
 |a::l,us,r=>by
  rw [jy]at r;cases r with
  |cons r1 r2=>
   obtain⟨t,rfl⟩:=r1;exact .cons _ t (tY r2)
theorem Di{K:jb}(hK:autoParam (X.K=K) ah):ge X "str.join" (λx xs H Q=>∃sep p l,x=S sep/\xs=[.ref p]/\bv K H p (l.map S)/\(l.map yE).sum+l.length*sep.length<=jv/\Q (S (Zr sep l)) H):=by
 subst hK;intro pins s σ H x xs v us Q I rx rs h;obtain⟨sep,p,l,rfl,rfl,hq,hz,q⟩:=h;obtain⟨t,rfl⟩:=rx;obtain⟨u,rfl,rp⟩:=YW rs;cases rp;obtain⟨its,rv,pl,_⟩:=I.list hq;have hs:jv=16777216:=jo;refine PyProof.Rows.join_list (ys:=l.map tx) pl.isList (by simpa using tY rv) ?_ λt' k=>⟨S (Zr sep l),H,I.tok _,⟨t',?_⟩,q⟩
 . have e : ((l.map tx).map (·.length)) = l.map yE := by
    rw [qM];exact uI λa _=>Yz a
   rw [e,jk,Yz];omega
 . have:=lZ sep l
   show uK (Builtin.Str.glued (tx sep) (l.map tx)) t'=_;rw [StrLaws.glued_eq_join,lZ]
end
end L2
namespace DL
open PySem PySem.Spec L2
section
variable{cA:Kn}{G:Cn}{ow:al Nat}
def UQ(cA:Kn)(r:V->al V->Hp->VK->Prop)(f:al Nat->al D->am D):Prop:=
 ∀(i:jf->Prop)(H:Hp)(a:al Nat)(ds:al D)(vs:al V)(d:D),(∀a,i a->H a≠none)->VW cA i H ds vs->f a ds=ja d->∀Q:VK,(∀v H',aH H H'->Rep cA i H' d v->Q v H')->r (S a) vs H Q
def bH(f:al Nat->al D->am D)(a:Env->am D)(α:Env->am (al D))(δ:Env):am D:=match a δ with
 |some (.str cs)=>match α δ with
  |some ds=>f cs ds
  |none=>none
 |_=>none
theorem Je{K:jb}{r:V->al V->Hp->VK->Prop}{f:al Nat->al D->am D}{q0 q:Ql}(hr:UQ G.1 r f)(ha:VE G ow to q0 a)(h:VA G ow t q α) :
 VE G ow (gq K "str" r to t) q.it (bH f a α):=λH0 av A σ H δ E d e Q k=>by
 unfold bH at e;cases hx:a δ with
 |none=>rw [hx]at e;cases e
 |some x=>
  rw [hx]at e;cases x<;>first|(cases e;done)|skip
  rename_i cs;dsimp only at e;cases he:α δ with
  |none=>rw [he]at e;cases e
  |some ds=>
   rw [he]at e;refine ha H0 av A σ H δ E _ hx _ λv H1 s1 r1 => ?_
   have e1:v=S cs:=r1.any;subst e1;refine⟨rfl,h H0 av A σ H1 δ (E.mono s1) ds he _ λvs H2 s2 r2 => ?_⟩;have E2:=(E.mono s1).mono s2;have s12:=s1.trans s2;cases q with
   |cl=>exact hr _ H2 cs ds vs d E2.avl r2.il e _ λv H' s r=>k v H' (s12.trans s) r.t
   |tp=>exact hr _ H2 cs ds vs d E2.avl r2.il e _ λv H' s r=>k v H' (s12.trans s) r.t
   |dt=>exact hr _ H2 cs ds vs d E2.avH r2.il e _ λv H' s r=>k v H' (s12.trans s) r.t
def dj(a:al Nat):al D->am D
 | [.str b]=>ja (.bl (b.isPrefixOf a))
 |_=>none
noncomputable def cJ(a:al Nat):al D->am D
 | [.str [c]]=>ja (.int (a.count c:Nat))
 |_=>none
theorem iq{vs:al V}(h:VW cA i H [.str b] vs):vs=[S b]:=by
 obtain⟨v,t,rfl,hx⟩:=eU h;rw [show v=S b from hx]
theorem Dj:UQ cA (λx xs H Q=>∃a b,x=S a/\xs=[S b]/\Q (.bl (b.isPrefixOf a)) H) dj:=λi H a ds vs d _ h e Q k=>by
 unfold dj at e
 split at e
 . cases e;exact⟨a,_,rfl,iq h,k _ H (aH.refl H) rfl⟩
 . cases e
theorem Dk:UQ cA (λx xs H Q=>∃a c,x=S a/\xs=[S [c]]/\Q (.int (a.count c:Nat)) H) cJ:=λi H a ds vs d _ h e Q k=>by
 unfold cJ at e
 split at e
 . cases e;exact⟨a,_,rfl,iq h,k _ H (aH.refl H) rfl⟩
 . cases e
noncomputable def strs? : al D->am (al (al Nat))
 | []=>ja []
 | .str a::r=>match strs? r with
  |some l=>ja (a::l)
  |none=>none
 |_=>none
theorem cH:∀{xs:al D}{l:al (al Nat)},strs? xs=ja l->xs=l.map D.str
 | [],l,h=>by cases h;rfl
 |x::xs,l,h=>by
  cases x<;>first|(cases h;done)|skip
  rename_i a;unfold strs? at h;cases hr:strs? xs with
  |none=>rw [hr]at h;cases h
  |some r=>
   rw [hr]at h;cases h;rw [jy,cH hr]
theorem Dl(l:al (al Nat)):strs? (l.map D.str)=ja l:=by
 induction l with
 |nil=>rfl
 |cons a l ih=>rw [jy,strs?,ih]
def cc(sep:al Nat):al D->am D
 | [.lst xs]=>match strs? xs with
  |some l=>if(l.map yE).sum+l.length*sep.length<=jv then ja (.str (Zr sep l))else none
  |none=>none
 |_=>none
theorem Dm:UQ cA (λx xs H Q=>∃sep p l,x=S sep/\xs=[.ref p]/\bv cA.K H p (l.map S)/\(l.map yE).sum+l.length*sep.length<=jv/\Q (S (Zr sep l)) H) cc:=λi H a ds vs d _ h e Q k=>by
 unfold cc at e
 split at e
 . rename_i xs
   cases hs:strs? xs with
   |none=>rw [hs]at e;cases e
   |some l=>
    rw [hs]at e;dsimp only at e
    by_cases hz:(l.map yE).sum+l.length*a.length<=jv
    . rw [if_pos hz]at e
      cases e;obtain⟨v,t,rfl,p,ws,rfl,_,rd,ll⟩:=eU h;have ex:=cH hs;subst ex;have ev:=ll.vals (by rw [yV];exact jR.mpr λ_ _=>rfl);rw [qM]at ev;subst ev;exact⟨a,p,l,rfl,rfl,rd,hz,k _ H (aH.refl H) rfl⟩
    . rw [if_neg hz]at e;cases e
 . cases e
end
end DL
namespace L2
open PySem PySem.Spec
structure bu(K:jb)(x qual:Str)(st:qv)(f:jf)(fd:qI):Prop where
 ex:∃(oc:jc) (od:Option jf) (dV kV doc pm:jc) (an:Option jf) (cdv ct:jc) (osl:Array (Option jc)),
  fd=fnOf x qual (ba st) (aN st) (aA st) dV kV doc pm an cdv ct/\K.lookup f=ja ⟨oc,od,.func fd,osl⟩/\codeIn K cdv qual=je
theorem dI.x{K:jb}{x qual:Str}{st:qv}{f:jf}{fd:qI}(F:dI K x qual st f fd):bu K x qual st f fd:=by
 obtain⟨oc,od,kV,doc,pm,an,cdv,ct,osl,h⟩:=F.ex;exact⟨oc,od,.none,kV,doc,pm,an,cdv,ct,osl,h⟩
section
variable{P:jS}{w:jV}{K:jb}{mg:Str->am jc}{base:jX}
theorem bu.ok {x qual:Str} {st:qv} {f:jf} {fd:qI} {N ps:al Str} {k:Nat} {sp:Sp} (F:bu K x qual st f fd) (S:aG N ps (aA st)) (len:∀vs H Q E,sp vs H Q E->vs.length=ps.length)
 (hbody:∀(cdv:jc)(A:qe)(outer:al Env)(s:jg)(H:Hp)(vs:al V)(Q:VK)(E:XK),a4 k (A.deeper (qm qual (aA st) s.heap.objs.size f cdv))->sp vs H Q E ->
   ∃t,cK (ZJ bF P w K mg base N qual (aA st) f cdv A outer s H E).nox (aN st) t/\t { nx:=λ_ H'=>Q .non H',rt:=Q } (start N vs) H):aO P w K mg base bF (k+1) f fd ps sp:=by
 obtain⟨oc,od,dV,kV,doc,pm,an,cdv,ct,osl,rfl,lk,hcd⟩:=F.ex;refine J9 lk hcd S len λA outer s H vs Q E hr hsp => ?_
 obtain⟨t,h,q⟩:=hbody cdv A outer s H vs Q E hr hsp;exact⟨t,h.nox,q⟩
theorem tZ {st:qv} {o:Obj} {ps:al Str} {ds items:al jc} {n:Nat} {kV doc pm:jc} (us0:al Str) (ht:K.lookup dT=ja o) (hd:o.data = .seq items.toArray n) (hn:us0.length+ds.length=ps.length)
 (h:∀(us:al jc),us.length=us0.length->∃k,bindArgs (fnOf x qual (ba st) (aN st) (aA st) (.ref dT) kV doc pm an cdv ct) ⟨us,[]⟩=seqItems? (.ref dT) >>= k/\k (ja items.toArray)=pure (ps.zip (us++ds))) :
 Binds K (fnOf x qual (ba st) (aN st) (aA st) (.ref dT) kV doc pm an cdv ct) ps ds:=λs us X hl=>by
 obtain⟨k,h1,h2⟩:=h us (by rw [jt]at hl;omega);exact BindsTo.of_defaults (T:=dT) (o:=o) (items:=items.toArray) (n:=n) rfl (X _ _ ht) hd h1 h2
end
structure fV(K:jb)(C:jf)(m:Str)(f:jf):Prop where
 ga:yH K (.ref C) "__getattribute__" = ja (ja (.builtin "type.__getattribute__"))
 rd:OQ K C (.type "type")=je
 fc:OR K (.ref C) (.type "type") m=ja (.val (.ref f))
 kp:jM K (.ref f)=je
section
variable{X:Cx}{CX:dq}{k:Nat}{f C:jf}{fd:qI}{ps:al Str}{sp:Sp}{dvs:al V}{ds:al jc}{E:XK}{x m:Str}{p pos apos:Pos}{e o:qA}{es:al qA}{ta:TE}{t:TA}
theorem Qr {pl:Sem Bool} (hg:Gl X x) (hmg:X.mg x=ja (.ref C)) (hm:fV X.K C m f) (F:aO X.prog X.w X.K X.mg X.base CX k f fd ps sp) (hr:a4 k X.A) (hb:Binds X.K fd ps ds) (hd:aR dvs ds) (hx:Xc CX X E) (ha:PA X (e::es) t)
 (hdb:autoParam ((x == ("__debug__" : Str))=false) ad)
 (hst:autoParam (starEach (e::es) X.env=(jj,eval e X.env)::starEach es X.env) ah) (hpl:autoParam ((backTo pos (starEach es X.env)).any (·.1)=false) ah)
 (ht:autoParam (eval (.Call (.Attribute (.Name x p) m apos) (e::es) [] pos) X.env=(do
   let ov <-eval (.Name x p) X.env
   standAt apos.atName
   let(f,first) <-holding [ov] (getMethod ov m pl)
   callWith pos f first (backTo pos (starEach (e::es) X.env)) (backToKw pos (keywordEach [] X.env)))) ah) :
 PE X (.Call (.Attribute (.Name x p) m apos) (e::es) [] pos) (XB sp dvs E t):=by
 intro pins s σ H Q I h;refine oA (pl:=pl) (X8 I hg hmg ?_ hdb) ht;refine PySem.W.method_cls I.kIn hm.ga (PySem.W.cls_value I.kIn hm.rd hm.fc rfl ?_);have I1:Inv X pins σ H { s with toks:=s.toks+1 }:=I.tok _;refine yW (first:=[]) (h₀:=X.base) I.ok.mod.kin hm.kp (aW (ha pos pins _ σ H _ I1 h) λus s2 ⟨vs,H2,I2,r,q2⟩=>⟨I2.kIn,?_⟩) hst hpl;exact lH (us:=us) (vs:=vs) F hr hb hd hx I2 r q2
end
end L2
namespace DL
open PySem PySem.Spec L2
theorem wa{a b:String}(h:jE a=jE b):a=b:=by
 rw [vg,vg]at h
 have h1:(a.toList.map Oj)=(b.toList.map Oj):=by
  have:=congrArg (λs:Str=>s.cps.toList) h;simpa using this
 have inj:∀{x y:al Char},x.map Oj=y.map Oj->x=y:=by
  intro x
  induction x with
  |nil=>
   intro y h;cases y with
   |nil=>rfl
   |cons _ _=>cases h
  |cons c x ih=>
   intro y h;cases y with
   |nil=>cases h
   |cons d y=>
    rw [jy,jy,vB]at h;have:c=d:=Char.toNat_inj.mp h.1;rw [this,ih h.2]
 exact String.toList_inj.mp (inj h1)
theorem Dn(a b:String):(jE a == jE b)=(a == b):=by
 rw [yu,beq_iff_eq,beq_iff_eq];exact⟨wa,λh=>by rw [h]⟩
section
variable{cA:Kn}{G:Cn}{ow owN owB owC:al Nat}
theorem wb{f:String}:∀{ks:al String}{xs:al D}{vs:al V}{d:D},aD cA av H xs vs->(ks.zip xs).lookup f=ja d->∃v,((ks.map jE).zip vs).lookup (jE f)=ja v/\Rep cA av H d v
 | [],_,_,_,_,h=>by simp at h
 |k::ks,[],_,_,_,h=>by simp at h
 |k::ks,x::xs,vs,d,l,h=>by
  obtain⟨v,r,rfl,h1,h2⟩:=l.uncons;rw [yF,jC]at h;rw [jy,yF,jC,Dn];cases hk:f == k with
  |true=>rw [hk]at h;cases h;exact⟨v,rfl,h1⟩
  |false=>rw [hk]at h;exact wb h2 h
theorem wc{f:String}{y:V}:∀{ks:al String}{vs:al V},ks.length=vs.length->ks.contains f=jj->YX (jE f) y ((ks.map jE).zip vs)=(((ks++[f]).map jE).zip (vs++[y]))
 | [],[],_,_=>rfl
 | [],_::_,h,_=>by simp at h
 |_::_,[],h,_=>by simp at h
 |k::ks,v::vs,h,hf=>by
  rw [OH,Bool.or_eq_false_iff]at hf
  have hne:¬jE k=jE f:=λz=>by
   have:=wa z;have h1:=hf.1;rw [this]at h1;simp at h1
  rw [jy,yF,q5,q5,jy,yF];rw [show YX (jE f) y ((jE k,v)::(ks.map jE).zip vs)=(if jE k=jE f then(jE k,y)::(ks.map jE).zip vs else(jE k,v)::YX (jE f) y ((ks.map jE).zip vs))from rfl,if_neg hne];rw [wc (by simpa using h) hf.2]
def XS(K:jb)(cA:Kn)(cls:al String)(f:String):Prop:=∀c∈cls,dC K (cA.c c)/\cx K (cA.c c) (jE f)
noncomputable def ZU(cls:al String)(f:String)(a:Env->am D)(δ:Env):am D:=match a δ with
 |some (.obj c ks xs)=>if cls.contains c then(ks.zip xs).lookup f else none
 |_=>none
theorem Do{K:jb}{q:Ql}{cls:al String}{f:String}(F:XS K G.1 cls f)(ha:VE G ow ta q a):VE G ow (lF K ta (jE f)) q.it (ZU cls f a):=λH0 av A σ H δ E d e Q k=>by
 unfold ZU at e;cases he:a δ with
 |none=>rw [he]at e;cases e
 |some x=>
  rw [he]at e;cases x<;>first|(cases e;done)|skip
  rename_i c ks xs;dsimp only at e
  by_cases hc:cls.contains c=je
  . rw [if_pos hc]at e
    obtain⟨h1,h2⟩:=F c (by simpa using hc);refine ha H0 av A σ H δ E _ he _ λv H1 s r => ?_
    obtain⟨p,dx,vs,rfl,_,rd,_,l⟩:=r.tp;obtain⟨w,hw,rw'⟩:=wb l e;refine⟨p,_,dx,_,w,rfl,rd,h1,h2,hw,k w H1 s ?_⟩;cases q<;>exact rw'.t
  . rw [if_neg hc]at e;cases e
def ZB(i:Nat)(cls:al String)(f:String)(ε:Env->am D)(δ:Env):am aT:=match ε δ with
 |some d=>match Za i δ with
  |some (.obj c ks xs)=>if cls.contains c && !ks.contains f&&decide (ks.length<1000)then ja (.nx (δ.set i (ja (.obj c (ks++[f]) (xs++[d])))))else none
  |_=>none
 |none=>none
theorem XT{K:jb}{cls:al String}{f:String}(i:Nat)(hi:ow.contains i=je)(F:XS K G.1 cls f)(h:VE G ow te .cl ε):VS G ow ow owB owC (sy K (Xu i) te (jE f)) (ZB i cls f ε):=λH0 av A σ H δ E o e De k=>by
 unfold ZB at e;cases he:ε δ with
 |none=>rw [he]at e;cases e
 |some d=>
  rw [he]at e;dsimp only at e;cases hv:Za i δ with
  |none=>rw [hv]at e;cases e
  |some x=>
   rw [hv]at e;cases x<;>first|(cases e;done)|skip
   rename_i c ks xs;dsimp only at e
   by_cases hz:(cls.contains c && !ks.contains f&&decide (ks.length<1000))=je
   . rw [if_pos hz]at e
     cases e;simp only [jF,decide_eq_true_eq,ul]at hz;obtain⟨⟨z1,z2⟩,z3⟩:=hz;obtain⟨h1,h2⟩:=F c (by simpa using z1);have hi':i∈ow:=by simpa using hi
     cases hA:A i with
     |none=>exact absurd hA (E.dom' i hi')
     |some a=>
      refine h H0 av A σ H δ E d he _ λy H1 s r => ?_
      have E1:=E.mono s;obtain⟨v,g1,_,g3⟩:=E1.var i _ (Xi hv);obtain⟨rfl,dx,vs,q1,q0,q2⟩:=g3 a hA;have hl:ks.length=vs.length:=q0.trans q2.length;refine⟨_,g1,a,_,dx,_,rfl,q1,h1,h2,?_,k A σ _ (E1.put hA (Xi hv) (λb o hb e=>by rw [Zn hb];exact e) (by rw [ZF];exact λz=>by cases z) ?_)⟩
      . rw [List.length_zip,jk];omega
      . refine⟨dx,vs++[y],?_,by rw [jt,jt,q0];rfl,?_⟩
        . rw [ZF,wc hl z2]
        . have ex : ∀ b o, ¬ AV av A b -> H1 b = ja o -> aV H1 a (.ins (G.1.c c) dx (YX (jE f) y ((ks.map jE).zip vs))) b = ja o := fun b o n e => by
           rw [Zn λz=>n (.inr ⟨i,by rw [z];exact hA⟩)];exact e
          exact(q2.append (.cons (bf.r r) .nil)).ext ex
   . rw [if_neg hz]at e;cases e
def Dp(cA:Kn)(n:Nat)(m:al D->am D):Sp:=λvs H Q _=>∃(x:jf) (r:al V) (av:jf->Prop) (ds:al D) (d d':D),vs = .ref x::r/\(∀a,av a->H a≠none)/\¬av x/\dL cA (λa=>av a\/a=x) H d x/\aD cA (λa=>av a\/a=x) H ds r/\(d::ds).length=n/\m (d::ds)=ja d' /\
 ∀H',(∀b o,b≠x->H b=ja o->H' b=ja o)->dL cA (λa=>av a\/a=x) H' d' x->Q .non H'
theorem dL.live{av:jf->Prop}{H:Hp}{d:D}{a:jf}(h:dL cA av H d a):H a≠none:=by
 cases d with
 |lst xs=>obtain⟨vs,q,_⟩:=h;rw [q];exact λz=>by cases z
 |obj c ks xs=>obtain⟨dx,vs,q,_⟩:=h;rw [q];exact λz=>by cases z
 |dct ks xs=>obtain⟨vs,q,_⟩:=h;rw [q];exact λz=>by cases z
 |dtt ks xs=>obtain⟨vs,q,_⟩:=h;rw [q];exact λz=>by cases z
 |_=>exact h.elim
theorem dL.av{av av':jf->Prop}{H:Hp}{d:D}{a:jf}(k:∀b,av' b->av b\/H b=none)(h:dL cA av H d a):dL cA av' H d a:=by
 cases d with
 |lst xs=>obtain⟨vs,q,l⟩:=h;exact⟨vs,q,l.av k⟩
 |obj c ks xs=>obtain⟨dx,vs,q,z,l⟩:=h;exact⟨dx,vs,q,z,l.av k⟩
 |dct ks xs=>obtain⟨vs,q,z,l⟩:=h;exact⟨vs,q,z,l.av k⟩
 |dtt ks xs=>obtain⟨vs,q,z,l⟩:=h;exact⟨vs,q,z,l.av k⟩
 |_=>exact h.elim
theorem dL.rep{av:jf->Prop}{H:Hp}{d:D}{a:jf}(n:¬av a)(h:dL cA av H d a):Rep cA av H d (.ref a):=by
 cases d with
 |lst xs=>obtain⟨vs,q,l⟩:=h;unfold Rep;exact⟨a,vs,rfl,λz=>(n z).elim,bv.of q,l⟩
 |obj c ks xs=>obtain⟨dx,vs,q,z,l⟩:=h;unfold Rep;exact⟨a,dx,vs,rfl,n,q,z,l⟩
 |dct ks xs=>obtain⟨vs,q,z,l⟩:=h;unfold Rep;exact⟨a,vs,rfl,n,q,z,l⟩
 |dtt ks xs=>obtain⟨vs,q,z,l⟩:=h;unfold Rep;exact⟨a,vs,rfl,n,q,z,l⟩
 |_=>exact h.elim
noncomputable def ZN(c:String)(n:Nat)(m:al D->am D)(dds:al D)(α:Env->am (al D))(δ:Env):am D:=match α δ with
 |some ds=>if(D.obj c [] []::(ds++dds)).length=n then m (.obj c [] []::(ds++dds))else none
 |none=>none
def Z1(i n:Nat)(m:al D->am D)(dds:al D)(α:Env->am (al D))(δ:Env):am aT:=match Za i δ with
 |some d=>match α δ with
  |some ds=>if(d::(ds++dds)).length=n then(match m (d::(ds++dds))with
   |some d'=>ja (.nx (δ.set i (ja d')))
   |none=>none)else none
  |none=>none
 |none=>none
def fA(N:Nat)(φ:Env->am aT)(ds:al D):am D:=match φ (ds.map ja++jd (N-ds.length) none)with
 |some (.nx δ)=>Za 0 δ
 |_=>none
section
variable{P:jS}{w:jV}{K:jb}{mg:Str->am jc}{base:jX}
theorem Dq {st:qv} {N ps:al Str} {k:Nat} (F:bu K x qual st f fd) (S:aG N ps (aA st))
 (hbody:∀(cdv:jc)(A:qe)(outer:al yq)(s:jg)(H:Hp)(E:XK),a4 k (A.deeper (qm qual (aA st) s.heap.objs.size f cdv)) ->
   ∃t,cK (ZJ bF P w K mg base N qual (aA st) f cdv A outer s H E).nox (aN st) t/\∃owN,VS ⟨cA,λ_=>none⟩ [] owN [] [] t φ):aO P w K mg base bF (k+1) f fd ps (cp cA ps.length (run N.length φ)):=by
 refine F.ok S (λvs H Q E h => ?_) λcdv A outer s H vs Q E hr h => ?_
 . obtain⟨av,ds,d,_,r,hl,_⟩:=h
   rw [<-r.length,hl]
 . obtain⟨av,ds,d,ha,r,hl,hm,q⟩:=h
   obtain⟨t,ht,owN,hv⟩:=hbody cdv A outer s H E hr;refine⟨t,ht,?_⟩;unfold run at hm;cases hφ:φ (ds.map ja++jd (N.length-ds.length) none)with
   |none=>rw [hφ]at hm;cases hm
   |some o=>
    rw [hφ]at hm;refine hv H av _ _ H _ (VZ ha r) o hφ _ ?_;cases o with
    |nx δ'=>cases hm;exact λA' σ' H' E'=>q .non H' E'.same rfl
    |rt d'=>cases hm;exact λv H' s' r'=>q v H' s' r'
    |bk δ'=>cases hm
    |ct δ'=>cases hm
end
abbrev mL:=al (String×(Nat×(al D->am D)))
noncomputable def Yi(m:String)(tab:mL)(a:Env->am D)(α:Env->am (al D))(δ:Env):am D:=match a δ with
 |some (.obj c ks xs)=>if ks.contains m then none else(match tab.lookup c with
  |some (n,mm)=>match α δ with
   |some ds=>if(D.obj c ks xs::ds).length=n then mm (.obj c ks xs::ds)else none
   |none=>none
  |none=>none)
 |_=>none
def cr:D->D->am D
 | .bl a,.bl b=>ja (.bl (a == b))
 |_,_=>none
end
noncomputable def XG:Nat->al D->al D
 |_,[]=>[]
 |k,x::xs => .tup [.int (k:Nat),x]::XG (k+1) xs
theorem Jf:∀(k:Nat)(xs:al D),(XG k xs).length=xs.length
 |_,[]=>rfl
 |k,x::xs=>by rw [XG,jh,jh,Jf]
theorem mM:∀(k:Nat)(xs:al D)(i:Nat),(XG k xs)[i]? = (xs[i]?).map λx => .tup [.int ((k+i:Nat):Int),x]
 |_,[],i=>by simp [XG]
 |k,x::xs,0=>by simp [XG]
 |k,x::xs,i+1=>by
  rw [XG,u2,u2,mM (k+1) xs i];have:k+1+i=k+(i+1):=by omega
  rw [this]
section
variable{cA:Kn}{G:Cn}{ow:al Nat}
theorem Dr{n0:Nat}{cs:al Nat}:Uv cA iv (mn n0 cs) (XG n0 (cs.map λc => .str [c])) H0:=λH s=>by
 refine⟨λi hi => ?_,λi x v H' hx y => ?_,λi hi => ?_⟩
 . have:i<cs.length:=by simpa [Jf]using hi
   exact this
 . obtain⟨c,p,hc,hp,rfl,rfl⟩:=y
   rw [mM,j9,hc]at hx;cases hx;refine⟨YB hp,λav' h1 _ => ?_⟩;unfold Rep;exact⟨p,_,rfl,λz=>h1 p z hp,ZF,.cons rfl (.cons rfl .nil)⟩
 . have:cs.length<=i:=by simpa [Jf]using hi
   exact this
end
section
variable{cA:Kn}{P:jS}{w:jV}{K:jb}{mg:Str->am jc}{base:jX}
theorem Xa {st:qv} {N ps:al Str} {k:Nat} {body:al qv} {scope:qH} {n:Nat} {m:al D->am D} (F:bu K x qual st f fd) (S:aG N ps (aA st)) (hS:aA st=scope) (hB:aN st=body)
 (hbody:∀(cdv:jc)(A:qe)(outer:al yq)(s:jg)(H:Hp)(E:XK),a4 k (A.deeper (qm qual scope s.heap.objs.size f cdv)) ->
   ∃t,cK (ZJ bF P w K mg base N qual scope f cdv A outer s H E).nox body t/\∃owN,VS ⟨cA,λ_=>none⟩ [] owN [] [] t φ)  (hm:m=run N.length φ) (hn:ps.length=n):aO P w K mg base bF (k+1) f fd ps (cp cA n m):=by
 subst hS hB hm hn;exact Dq F S hbody
end
end DL
namespace L2
open PySem PySem.Spec PySem.W PyProof.Rows
noncomputable def eD:al jc:=[.type "ValueError",.type "Exception",.type "BaseException",.type "object"]
theorem Ds{K:jb}{hp:jX}{nid:String}(KX:K.In hp)(q0:excIn K C tlB nid=je) :
 ∃bm N nm q bs hdct sn sub ab col dd k0 k1 k2 k3 k5 mN,hp.get? C=ja (excClassObj nm q C N bs bm hdct sn sub ab col dd k0 k1 k2 k3 k5 nid)/\hp.Ns N mN/\mN "__init__" = none/\OwnTail hp tlB bm:=by
 unfold excIn at q0
 split at q0
 . rename_i dict0 cls0 slots0 look0
   split at q0
   . rename_i C1 rest0 j0 j1 j2 j3 nid1 j5 mro0 sl0
     simp only [jF,beq_iff_eq,ul]at q0;have e1:C1=C:=q0.1.1.1.1.1;have e2:nid1=nid:=q0.1.1.1.1.2;have e3:=q0.1.1.1.2;have e4:=q0.1.1.2;have e5:=q0.1.2;have e6:=q0.2;subst e1 e2;cases cls0 with
     |mk f1 f2 f3 f4 f5 f6 f7 f8 f9 f10 f11=>
      dsimp only at mro0 e3 e5 e6;subst mro0 e3
      have es:slots0 = #[j0,j1,j2,j3,ja (.builtin nid1),j5]:=by
       cases slots0 with
       |mk l=>exact congrArg OM sl0
      subst es;exact⟨rest0,f4,f1,f5,f2,f6,f7,f8,f9,f10,dict0,j0,j1,j2,j3,j5,_,KX _ _ look0,.of_isNs (isNs_of_in KX e5),nsMap_none_of_in KX e5 e6,tail_of_in KX e4⟩
   . cases q0
 . cases q0
def mO(X:Cx)(E:XK)(C:jf):Prop:=∀(pins:al (jf×Obj))(σ:St)(H:Hp)(s:jg)(h':jX)(e:jf)(us:al jc),Inv X pins σ H s->Heap.MadeExcOf s.heap h' e (.ref C) us->E (.ref C) none H->X.xe (.ref e) { s with heap:=h' }
def mP(E:XK)(C:jf)(t:TA):TS:=λ_ σ H=>t σ H λvs H1=>vs.length<=8/\E (.ref C) none H1
section
variable{X:Cx}{E:XK}{C:jf}{x:Str}{p cpos pos:Pos}{e:qA}{es:al qA}{t:TA}
theorem we (hg:Gl X x) (hm:X.mg x=ja (.ref C)) (hq:excIn X.K C eD "ValueError.__new__" = je) (hR:mO X E C) (ha:PA X (e::es) t) (hc:autoParam (X.calm=true) ah)
 (he:autoParam (starEach (e::es) X.env=(jj,eval e X.env)::starEach es X.env) ah) (hpl:autoParam ((backTo cpos (starEach es X.env)).any (·.1)=false) ah) (hdb:autoParam ((x == ("__debug__" : Str))=false) ad) :
 PS X (.Raise (ja (.Call (.Name x p) (e::es) [] cpos)) none pos) (mP E C t):=by
 intro pins s σ H D I h;obtain⟨tl,N,nm,q,bs,hdct,sn,sub,ab,col,dd,k0,k1,k2,k3,k5,mN,hC,hN,hni,T⟩:=Ds I.ok.mod.kin hq
 refine wpAny_Raise_call_subT (C:=C) (nm:=nm) (q:=q) (N:=N) (bs:=bs) (bm:=tl) (hdct:=hdct) (sn:=sn) (sub:=sub) (ab:=ab) (col:=col) (dd:=dd) (k0:=k0) (k1:=k1) (k2:=k2) (k3:=k3) (k5:=k5)
  yp (mN:=mN) (T.hasType yp.hasBase) (I.ok.hd hc) (by rw [he];show(jj||(backTo cpos (starEach es X.env)).any (·.1))=jj;rw [hpl];rfl) hni (X8 I hg hm ⟨rfl,?_⟩ hdb)
 have h1:=ha cpos pins s σ H _ I h;rw [he]at h1 ⊢;refine vi (aW h1 λus s2 ⟨vs,H2,I2,r,hl,hE⟩=>⟨rfl,?_,I2.bk _ _ hC,hN.keeps I2.bk,T.keeps I2.bk,λh' ea hx => ?_⟩)
 . show us.length<=jv
   rw [<-r.length];exact jK hl (by decide)
 . exact hR pins σ H2 s2 h' ea us I2 hx hE
end
theorem bS.hide{P:jS}{w:jV}{H:Hp}{h:jX}{as:al jf}(x:bS P w H h)(hn:∀b∈as,H b=none):bS P w H (hideAll h as):=λa o e=>
 (x a o e).stay (λb u hb q=>y0 _ q λz=>by
   rcases hb with rfl|hb
   . rw [hn _ z]at e;cases e
   . rw [hn _ z]at hb;cases hb) (λ_ q=>q) λ_ _ q=>q
def eO(P:jS)(w:jV):dq:=λouter H s E ev s'=>∃(ea:jf) (cls a0:jc) (B:jX) (H':Hp),ev = .ref ea/\s'.os=s.os/\AllBare s'.gens/\yo B outer ea cls a0 s'.heap /\
 (∀b o,s.heap.get? b=ja o->H b=none->b∉bI outer->B.get? b=ja o)/\bS P w H' B/\aH H H'/\(∀b o,s.heap.get? b=ja o->H b=none->H' b=none)/\(∀b o,s.heap.get? b=ja o->b∈bI outer->∃sl,s'.heap.get? b=ja { o with slots:=sl })/\E cls none H'
section
variable{P:jS}{w:jV}{K:jb}{mg:Str->am jc}{base:jX}{N:al Str}{qual:Str}{scope:qH}{f:jf}{cd:jc}{A:qe}{outer:al Env}{s:jg}{H:Hp}{E:XK}
theorem Dt:mO (ZJ (eO P w) P w K mg base N qual scope f cd A outer s H E) (λc d H'=>aH H H'/\E c d H') C:=by
 intro pins σ H1 s1 h' e us I hx ⟨hsm,hw⟩;show jJ (model P w) _ (leaving _ (.ref e)) _ _ _;have hin:∀env∈((ZJ (eO P w) P w K mg base N qual scope f cd A outer s H E).stack),∀b,env.frame=ja b->b∈bI (ZJ (eO P w) P w K mg base N qual scope f cd A outer s H E).stack:=λenv he b hb=>uQ.mpr ⟨env,he,hb⟩
 have hfr:=I.ok.frames;have hfun:=vb I.stack hin;have hfree:=I.stkFree;have hsub:=I.stkSub;refine Wu (base:=hideAll s1.heap (bI (ZJ (eO P w) P w K mg base N qual scope f cd A outer s H E).stack)) (h:=s1.heap) (outer:=outer) hfr rfl (λb o q=>uo _ q) hfun hx λh2 t x1 x2 x3 x4 => ?_
 refine⟨e,.ref C,.ref t,_,H1,rfl,I.os,I.bare,x1,λb o q n hb => ?_,bS.hide I.hok hfree,hsm,λb o q n=>I.base.free b o q n (λz=>nomatch z),λb o q hb => ?_,hw⟩
 . have q1:=I.base.keep b o q n hb (λz=>nomatch z)
   refine y0 _ q1 λz => ?_
   rcases jp.mp (hsub b z)with e'|z
   . have:=I.ok.above
     exact absurd (jw q) (ym.mpr (by rw [e'];exact this))
   . exact hb z
 . obtain⟨sl,q1⟩:=I.base.slot b o q (I.ok.frf b hb) hb (λz=>nomatch z)
   obtain⟨_,o',q2,hnf⟩:=I.ok.funs.mem hb;have:o'=o:=jx (q2.symm.trans q);subst this;obtain⟨sl2,q4⟩:=x4 b _ (hx.keeps b _ q1) (show ∀vs,({ cls:=o'.cls,dict:=o'.dict,data:=o'.data,slots:=sl }:Obj).data ≠ .fields vs from hnf);exact⟨sl2,q4⟩
end
end L2
namespace L2
open PySem PySem.Spec PySem.W PyProof.Rows PySem.Calls PySem.Builtin PySem.Builtin.ObjectAttr PySem.Builtin.Getset_descriptor
structure br(K:jb)(C:jf):Prop where
 ga:findIn K (.ref C) "__getattribute__" = ja (ja (.builtin "BaseException.__getattribute__"))
 mb:mroIn K C (.type "BaseException")=ja je
 gt:findIn K (.ref C) "__getattr__" = ja none
 ca:findIn K (.ref C) "__class__" = ja (ja (.builtin "object.__class__"))
 cg:specialIn K (.builtin "object.__class__") "__get__" = ja (ja (.builtin "getset_descriptor.__get__"))
 ct:takesIn K (.builtin "object.__class__")=ja je
 mo:mroIn K C (.type "object")=ja je
 cl:(clsIn K C).isSome=je
section
variable{P:jS}{w:jV}{A:qe}{E:jc->jg->Prop}{s:jg}{K:jb}{e C:jf}
theorem UR{M:Model}(p:Vb e (.ref C) hp):Looks M hp (typeOf (.ref e)) (.ref C):=by
 obtain⟨o,h1,h2⟩:=p;exact h2▸(Looks.ld h1).andThen .now
theorem Du{M:Model}(T:br K C)(KX:K.In hp):Looks M hp (Builtin.ObjectAttr.find (.ref e) (.ref C) "__class__") (.bind (.builtin "getset_descriptor.__get__") (.builtin "object.__class__")):=
 (uB (M:=M) KX T.ca).andThen ((show Looks M hp (Builtin.ObjectAttr.getOf (ja (.builtin "object.__class__"))) _ from looks_specialIn KX T.cg).andThen
   ((show Looks M hp (Builtin.ObjectAttr.dataDescriptor? (ja (.builtin "object.__class__")) (ja (.builtin "getset_descriptor.__get__"))) (ja (yI "getset_descriptor.__get__",yI "object.__class__"))from(looks_takesIn (M:=M) KX T.ct).andThen .now).andThen (Looks.tag .now)))
theorem Dv{tp:jc}{R:WB->jg->Prop}(T:br K C)(KX:K.In s.heap)(p:Vb e (.ref C) s.heap)(hr:R (.ok (.ret (.ref C))) s) :
 codeAny (model P w) A (.call (.builtin "getset_descriptor.__get__") ⟨[.builtin "object.__class__",.ref e,tp],[]⟩) R s:=by
 cases s with
 |mk hp gs dr tk os'=>
 have Y0:=UR (M:=model P w) p;have Y1:=oB (M:=model P w) KX T.mo
 refine yk KF.slot_gs.plain KF.entry_gs (KF.slot_gs.check _ _ _ _ _ _ _ _ KF.type_class (KF.args_gs _ _ _) (by
  unfold Builtin.«getset_descriptor.__get__» descrGet;rw [dga_obj];refine jl (jB ?_);unfold descrGetter descrCheckInstance descrNameAndClass isInstance;simp only [KF.owner_class];(repeat lk);refine⟨uP _ (by decide +kernel),W4 KF.entry_class (by unfold Builtin.«object.__class__» shownTypeOf;(repeat lk);exact hr)⟩))
theorem Dw{Q:Fin->jg->Prop}(T:br K C)(KX:K.In s.heap)(p:Vb e (.ref C) s.heap)(hq:Q (.done (.ret (.ref C))) s):jJ (model P w) A (Builtin.«object.__getattribute__» ⟨[.ref e,.str "__class__" tk],[]⟩) Q E s:=by
 have Y0:=UR (M:=model P w) p;have Y2:=Du (e:=e) (M:=model P w) T KX;unfold Builtin.«object.__getattribute__»;refine jl (jB ?_);refine jl (jB ?_);refine jl (Y0.here (jl (Y2.here ?_)));show jJ _ _ (holding [yI "object.__class__"] (call (.builtin "getset_descriptor.__get__") [.builtin "object.__class__",.ref e,.ref C]) >>= ret) _ _ _
 exact jl (yA (yL (Dv T KX p (jB hq))))
theorem Dx{nameV:jc}{Q:Unit->jg->Prop}(T:br K C)(KX:K.In s.heap)(p:Vb e (.ref C) s.heap)(hq:Q () s):jJ (model P w) A (checkBuiltinCall "BaseException.__getattribute__" ⟨[.ref e,nameV],[]⟩) Q E s:=by
 cases s with
 |mk hp gs dr tk os'=>
 have Y0:=UR (M:=model P w) p;have Y1:=oB (M:=model P w) KX T.mb;have e1:builtinKind "BaseException.__getattribute__" = ja .slot:=by decide +kernel
 have e2:splitId "BaseException.__getattribute__" = ja ("BaseException", "__getattribute__"):=by decide +kernel
 have e3:=F.args_bexc_ga (.ref e) nameV;simp only [checkBuiltinCall,e1,e2];unfold isInstance
 repeat (first|exact hq|assumption|lk|wp_step)
theorem Dy{Q:am jc->jg->Prop}(T:br K C)(KX:K.In s.heap)(p:Vb e (.ref C) s.heap)(hq:Q (ja (.ref C)) { s with toks:=s.toks+1 }):jJ (model P w) A (getAttr? (.ref e) "__class__") Q E s:=by
 cases s with
 |mk hp gs dr tk os'=>
 have Y0:=UR (M:=model P w) p;have Y1:=uB (M:=model P w) KX T.ga;have Y3:=uB (M:=model P w) KX T.gt;have b1:=PySem.F.attr_ValueError.ga.bind (.ref e);unfold getAttr? getAttrBy? getAttrBy;refine jl (wpAny_mkText (jl (vC (yA (jl (Y0.at (jl (Y1.at ?_))))))));show jJ _ _ (getAttrByItsOwn (.ref e) _ (.ref C) (.builtin "BaseException.__getattribute__") jj jj) _ _ _
 unfold getAttrByItsOwn hookBefore;refine jl (Y3.at ?_);refine jl (vC (yA ?_));show jJ _ _ (boundAndCalled (.builtin "BaseException.__getattribute__") (.ref e) _) _ _ _;unfold boundAndCalled;rw [b1];refine jl (jB ?_);show jJ _ _ (call (.builtin "BaseException.__getattribute__") [.ref e,.str "__class__" _]) _ _ _;refine yL (yk PySem.F.attr_ValueError.ga.plain F.entry_bexc_ga (Dx (s:=⟨hp,gs,dr,tk+1,os'⟩) T KX p (Dw (s:=⟨hp,gs,dr,tk+1,os'⟩) T KX p ?_)))
 exact j7 (handed_on (E:=λ_ _=>False) rfl (show(λv s''=>Q (ja v) s'') (.ref C) _ from hq)) (λv s'' hv=>jB hv) (λ_ _ z=>z.elim)
theorem wf(T:br K C):KitX K (.ref e) (.ref C) (Vb e (.ref C)) where
 ty:=λ_ _ _ p=>UR p
 it:=λM hp KX _=>by
  have hc:=T.cl;cases hq:clsIn K C with
  |none=>rw [hq]at hc;cases hc
  |some cd=>
   unfold clsIn at hq
   split at hq
   . rename_i look0
     intro A' Q' E' s' k0 q0;unfold isType loadHead;exact jl (o9 (k0 _ _ (KX _ _ look0)) (jB q0))
   . cases hq
 ne:=λhp tp dd its n sl KX htp=>by
  have hc:=T.cl;cases hq:clsIn K C with
  |none=>rw [hq]at hc;cases hc
  |some cd=>
   cases hz:(jY C == jY tp)with
   |false=>rfl
   |true=>
    exfalso
    have ez:C=tp:=Value.ref.inj (beq_iff_eq.mp hz);subst ez;unfold clsIn at hq
    split at hq
    . rename_i look0
      have:=(KX _ _ look0).symm.trans htp;cases this
    . cases hq
 ca:=λKX p k=>Dy T KX p k
end
end L2
namespace L2
open PySem PySem.Spec PySem.W PyProof.Rows
theorem aZ.there{P:jS}{w:jV}{H:Hp}{hp:jX}{a:jf}{o:HO}(x:aZ P w H hp a o):∃u,hp.get? a=ja u:=by
 cases o with
 |lst xs=>obtain⟨_,_,_,_,e⟩:=x;exact⟨_,e⟩
 |tup xs=>obtain⟨_,_,_,ob,e,_⟩:=x;exact⟨_,e⟩
 |dK kvs=>obtain⟨_,_,_,_,o,_,_,e,_⟩:=x;exact⟨_,e⟩
 |dT kvs=>obtain⟨_,_,_,_,o,_,_,e,_⟩:=x;exact⟨_,e⟩
 |set S n=>obtain⟨o,_,_,_,e,_⟩:=x;exact⟨_,e⟩
 |ins C dx fs=>obtain⟨_,_,_,e,_⟩:=x;exact⟨_,e⟩
 |own y=>exact x
 |xd fs=>obtain⟨_,⟨_,_,_,e,_⟩,_⟩:=x;exact⟨_,e⟩
 |rng lo hi=>obtain⟨_,_,_,e⟩:=x;exact⟨_,e⟩
 |frz ob u=>obtain⟨e,_⟩:=x;exact⟨_,e⟩
 |tbl ps=>obtain⟨_,e,_⟩:=x;exact⟨_,e⟩
 |cod q=>obtain⟨_,_,_,_,e,g,_⟩:=x;cases e;exact⟨_,g⟩
 |fnc c q=>obtain⟨e,_⟩:=x;exact e
 |met f y=>exact⟨_,x⟩
 |ext φ=>exact x.2.1
section
variable{X:Cx}{pins:al (jf×Obj)}{σ:St}{H H':Hp}{s s':jg}{B hp:jX}{ea:jf}{C:jc}
theorem ir {M:Model} {E:jc->jg->Prop} {i:Nat} {n:Str} {Q:Unit->jg->Prop} (I:Inv X pins σ H s) (hN:X.N.Nodup) (hi:X.N[i]? = ja n) (hk:X.env.scope.names.lookup n=ja .local)
 (hq:∀s',Inv X pins (σ.set i none) H s'->Q () s'):jJ M A (do bindName X.env n .none;unbindBehindTheSuite X.env n pos) Q E s:=by
 obtain⟨m,hn,hl⟩:=id I.loc;have hcls:(X.env.scope.kind == .class||(X.env.scope.kind == .module&&X.env.locals != X.env.globals))=false:=by rw [I.ok.kind];rfl
 have cne:=I.cne;refine wpAny_nameGoes_keeps hk hn hcls λh1 v hn1 hs => ?_
 obtain⟨oL,_,_,hoL,_⟩:=id hn;have low:∀{b:jf}{o:Obj},X.s₀.heap.get? b=ja o->b≠X.env.locals:=λ{b o} e=>jU (jA (jw e) I.ok.above)
 refine hq _ ⟨I.ok,I.os,I.bare,⟨λb o e n' hb hx=>(hs.2 b (low e)).trans (I.base.keep b o e n' hb hx),λb o e n' hb hx => ?_,I.base.free,λb o e hx => ?_,I.base.tups,I.base.frzs,I.base.tbls⟩,⟨_,hn1,λj y v' e1 e2 e3 => ?_⟩,λy c e => ?_,I.free,I.freeC,λp hp => ?_,λb ob e => ?_,by simpa using I.len,I.fzs⟩
 . obtain⟨sl,e1⟩:=I.base.slot b o e n' hb hx
   exact⟨sl,(hs.2 b (low e)).trans e1⟩
 . obtain⟨o',e1⟩:=I.base.there b o e hx
   exact⟨o',(hs.2 b (low e)).trans e1⟩
 . by_cases hj:j=i
   . subst hj
     have:j<σ.length:=by rw [I.len];exact(jL.mp hi).1
     rw [qN this]at e2;cases e2
   . rw [qy (qF hj)]at e2
     obtain⟨u',r',q⟩:=hl j y v' e1 e2 e3;refine⟨u',r',?_⟩;rcases q with⟨k1,e⟩|⟨k1,c,e,z⟩
     . refine .inl ⟨k1,?_⟩
       have hyn:y≠n:=λe=>hj (lh hN e1 (e▸hi))
       show(if y=n then v else m y)=ja u';rw [if_neg hyn];exact e
     . exact .inr ⟨k1,c,e,z.sameBut hs (cne y c e)⟩
 . obtain⟨w',z⟩:=I.cell y c e
   exact⟨w',z.sameBut hs (cne y c e)⟩
 . obtain⟨e,n',ne,nf,d⟩:=I.pin p hp
   exact⟨(hs.2 p.1 ne).trans e,n',ne,nf,d⟩
 . refine(I.hok b ob e).stay (λc w' hc q=>(hs.2 c ?_).trans q) (λ_ q=>q) λ_ _ q=>q
   intro z;have fr:=I.free;rcases hc with hc|hc
   . rw [<-z,hc,e]at fr;cases fr
   . rw [<-z,hc]at fr;cases fr
end
noncomputable abbrev Cx.suite(X:Cx)(ea:jf):Cx:={ X with A:=X.A.mark (ja (.ref ea)),calm:=jj,xe:=λ_ _=>False }
theorem Inv.suite{X:Cx}{pins:al (jf×Obj)}{σ:St}{H:Hp}{s:jg}(I:Inv X pins σ H s)(ea:jf):Inv (X.suite ea) pins σ H s:=
 ⟨⟨I.ok.mod,I.ok.kind,I.ok.glob,I.ok.blt,I.ok.above,I.ok.inj,I.ok.has,I.ok.cab,(λz=>nomatch z),I.ok.frames,I.ok.stk,I.ok.exf,I.ok.bs,I.ok.bsz,I.ok.noex,I.ok.exfs,I.ok.funs,I.ok.frf,I.ok.tb⟩,I.os,I.bare,I.base,I.loc,I.cell,I.free,I.freeC,I.pin,I.hok,I.len,I.fzs⟩
theorem Inv.unsuite{X:Cx}{pins:al (jf×Obj)}{σ:St}{H:Hp}{s:jg}{ea:jf}(ok:X.Ok)(I:Inv (X.suite ea) pins σ H s):Inv X pins σ H s:=
 ⟨ok,I.os,I.bare,I.base,I.loc,I.cell,I.free,I.freeC,I.pin,I.hok,I.len,I.fzs⟩
def wg(i:Nat)(D:Ends):Ends:={ nx:=λσ H=>D.nx (σ.set i none) H,rt:=D.rt,bk:=λσ H=>D.bk (σ.set i none) H,ct:=λσ H=>D.ct (σ.set i none) H }
end L2
namespace DL
open PySem PySem.Spec L2
def gu(cA:Kn)(n:Nat)(m:al D->am D)(x:al D->am String):Sp:=λvs H Q E=>cp cA n m vs H Q E \/
 ∃(av:jf->Prop) (ds:al D) (c:String),(∀a,av a->H a≠none)/\aD cA av H ds vs/\ds.length=n/\x ds=ja c/\∀H',aH H H'->E (.ref (cA.c c)) none H'
def X2(N:Nat)(χ:Env->am String)(ds:al D):am String:=χ (ds.map ja++jd (N-ds.length) none)
def VX(G:Cn)(ow:al Nat)(E:XK)(ts:TS)(χ:Env->am String):Prop:=
 ∀H0 av A σ H δ,ER G ow H0 av A σ H δ->∀c,χ δ=ja c->(∀H',aH H0 H'->E (.ref (G.1.c c)) none H')->∀De:Ends,ts De σ H
def eF(G:Cn)(ow:al Nat)(E:XK)(te:TE)(χ:Env->am String):Prop:=
 ∀H0 av A σ H δ,ER G ow H0 av A σ H δ->∀c,χ δ=ja c->(∀H',aH H H'->E (.ref (G.1.c c)) none H')->∀Q:VK,te σ H Q
def iu(G:Cn)(ow:al Nat)(E:XK)(ts:TS)(χ:Env->am String):Prop:=
 ∀H0 av A σ H δ,ER G ow H0 av A σ H δ->∀c,χ δ=ja c->(∀H',aH H H'->E (.ref (G.1.c c)) none H')->∀De:Ends,ts De σ H
section
variable{cA:Kn}{G:Cn}{ow ow1 owB owC owN:al Nat}{E:XK}
noncomputable def Qs(c:String)(α:Env->am (al D))(δ:Env):am String:=match α δ with
 |some ds=>if ds.length<=8 then ja c else none
 |none=>none
theorem Dz{C:jf}(c:String)(hC:C=G.1.c c)(h:VA G ow t q α):VX G ow E (mP E C t) (Qs c α):=λH0 av A σ H δ R c' e k De=>by
 unfold Qs at e;cases he:α δ with
 |none=>rw [he]at e;cases e
 |some ds=>
  rw [he]at e;dsimp only at e
  by_cases hz:ds.length<=8
  . rw [if_pos hz]at e
    cases e;subst hC;exact h H0 av A σ H δ R ds he _ λvs H1 s1 r1=>⟨by rw [<-r1.any.length];exact hz,k H1 (R.same.trans s1)⟩
  . rw [if_neg hz]at e;cases e
def mQ(τ:Env->am Bool)(χ ψ:Env->am String)(δ:Env):am String:=match τ δ with
 |some je=>χ δ
 |some jj=>ψ δ
 |none=>none
theorem DA(hc:VT G ow c τ)(h1:VX G ow E t χ)(h2:VX G ow E u ψ):VX G ow E (Qg c t u) (mQ τ χ ψ):=λH0 av A σ H δ R c' e k De=>by
 unfold mQ at e;cases he:τ δ with
 |none=>rw [he]at e;cases e
 |some b=>
  rw [he]at e;refine hc H0 av A σ H δ R b he _ λH' s => ?_
  cases b with
  |true=>exact XZ (h1 H0 av A σ H' δ (R.mono s) c' e k De)
  |false=>exact Va (h2 H0 av A σ H' δ (R.mono s) c' e k De)
def mR(χ:Env->am String)(φ:Env->am aT)(ψ:Env->am String)(δ:Env):am String:=match χ δ with
 |some c=>ja c
 |none=>match φ δ with
  |some (.nx δ1)=>ψ δ1
  |_=>none
theorem DB(h1:VX G ow E t χ)(hv:VS G ow ow1 owB owC t φ)(h2:VX G ow1 E u ψ):VX G ow E (VQ t u) (mR χ φ ψ):=λH0 av A σ H δ R c e k De=>by
 unfold mR at e;cases hx:χ δ with
 |some c'=>
  rw [hx]at e;cases e;exact h1 H0 av A σ H δ R c hx k _
 |none=>
  rw [hx]at e;dsimp only at e;cases hp:φ δ with
  |none=>rw [hp]at e;cases e
  |some o=>
   rw [hp]at e;cases o with
   |nx δ1=>exact hv H0 av A σ H δ R _ hp _ λA' σ' H' R'=>h2 H0 av A' σ' H' δ1 R' c e k De
   |rt d=>cases e
   |bk δ1=>cases e
   |ct δ1=>cases e
theorem iu.vx{ts:TS}{χ:Env->am String}(h:iu G ow E ts χ):VX G ow E ts χ:=λH0 av A σ H δ R c e k De=>h H0 av A σ H δ R c e (λH' s=>k H' (R.same.trans s)) De
theorem DC(h:eF G ow E te χ):iu G ow E (XN te) χ:=λH0 av A σ H δ R c e k De=>h H0 av A σ H δ R c e k _
theorem DD{n:Nat}{x:al D->am String}{q:Ql}{E0:XK}(dds:al D)(hd:dds.all ZA=je)(h:VA G ow t q α):VE G ow (XB (gu G.1 n m x) (dds.map bP) E0 t) q.cq (Zi n m dds α):=λH0 av A σ H δ R d e Q k=>by
 unfold Zi at e;cases he:α δ with
 |none=>rw [he]at e;cases e
 |some ds=>
  rw [he]at e;dsimp only at e
  by_cases hz:(ds++dds).length=n
  . rw [if_pos hz]at e
    refine h H0 av A σ H δ R ds he _ λvs H1 s1 r1 => .inl ?_
    have E1:=R.mono s1;cases q with
    |cl=>exact⟨AV av A,ds++dds,d,E1.avl,r1.cl.append (.of_vals hd),hz,e,λv H' s r=>k v H' (s1.trans s) r.t⟩
    |tp=>exact⟨av,ds++dds,d,E1.avH,r1.any.append (.of_vals hd),hz,e,λv H' s r=>k v H' (s1.trans s) r.t⟩
    |dt=>exact⟨av,ds++dds,d,E1.avH,r1.any.append (.of_vals hd),hz,e,λv H' s r=>k v H' (s1.trans s) r.t⟩
  . rw [if_neg hz]at e;cases e
def iw(n:Nat)(x:al D->am String)(dds:al D)(α:Env->am (al D))(δ:Env):am String:=match α δ with
 |some ds=>if(ds++dds).length=n then x (ds++dds)else none
 |none=>none
theorem DE{n:Nat}{x:al D->am String}(dds:al D)(hd:dds.all ZA=je)(h:VA G ow t q α):eF G ow E (XB (gu G.1 n m x) (dds.map bP) E t) (iw n x dds α):=λH0 av A σ H δ R c e k Q=>by
 unfold iw at e;cases he:α δ with
 |none=>rw [he]at e;cases e
 |some ds=>
  rw [he]at e;dsimp only at e
  by_cases hz:(ds++dds).length=n
  . rw [if_pos hz]at e
    refine h H0 av A σ H δ R ds he _ λvs H1 s1 r1 => .inr ⟨av,ds++dds,c,(R.mono s1).avH,r1.any.append (.of_vals hd),hz,e,λH' s=>k H' (s1.trans s)⟩
  . rw [if_neg hz]at e;cases e
end
section
variable{P:jS}{w:jV}{K:jb}{mg:Str->am jc}{base:jX}{cA:Kn}
theorem DF {st:qv} {N ps:al Str} {k:Nat} {body:al qv} {scope:qH} {n:Nat} {m:al D->am D} {xm:al D->am String} (F:bu K x qual st f fd) (S:aG N ps (aA st)) (hS:aA st=scope) (hB:aN st=body)
 (hbody:∀(cdv:jc)(A:qe)(outer:al yq)(s:jg)(H:Hp)(E:XK),a4 k (A.deeper (qm qual scope s.heap.objs.size f cdv)) ->
   ∃t,cK (ZJ (eO P w) P w K mg base N qual scope f cdv A outer s H E) body t/\∃owN,VS ⟨cA,λ_=>none⟩ [] owN [] [] t φ/\VX ⟨cA,λ_=>none⟩ [] (λc d H'=>aH H H'/\E c d H') t χ) (hm:m=run N.length φ) (hx:xm=X2 N.length χ) (hn:ps.length=n) :
 aO P w K mg base (eO P w) (k+1) f fd ps (gu cA n m xm):=by
 subst hS hB hm hx hn;obtain⟨oc,od,dV,kV,doc,pm,an,cdv,ct,osl,rfl,lk,hcd⟩:=F.ex;refine J9 lk hcd S (λvs H Q E h => ?_) λA outer s H vs Q E hr h => ?_
 . rcases h with⟨av,ds,d,_,r,hl,_⟩|⟨av,ds,c,_,r,hl,_⟩
   . rw [<-r.length,hl]
   . rw [<-r.length,hl]
 . obtain⟨t,ht,owN,hv,hX⟩:=hbody cdv A outer s H E hr
   refine⟨t,ht,?_⟩;rcases h with⟨av,ds,d,ha,r,hl,hm,q⟩|⟨av,ds,c,ha,r,hl,hm,q⟩
   . unfold run at hm
     cases hφ:φ (ds.map ja++jd (N.length-ds.length) none)with
     |none=>rw [hφ]at hm;cases hm
     |some o=>
      rw [hφ]at hm;refine hv H av _ _ H _ (VZ ha r) o hφ _ ?_;cases o with
      |nx δ'=>cases hm;exact λA' σ' H' E'=>q .non H' E'.same rfl
      |rt d'=>cases hm;exact λv H' s' r'=>q v H' s' r'
      |bk δ'=>cases hm
      |ct δ'=>cases hm
   . exact hX H av _ _ H _ (VZ ha r) c hm (λH' s'=>⟨s',q H' s'⟩) _
end
noncomputable def Qt(c:String):al (al (String×Bool))->am (al Bool)
 | []=>ja []
 |t::r=>match t.lookup c,Qt c r with
  |some b,ja bs=>ja (b::bs)
  |_,_=>none
def DG(K:jb)(cA:Kn)(v:V)(tab:al (String×Bool)):Prop:=∀c b,tab.lookup c=ja b->∃cv,(∀u,RelV v u->u=cv)/\ju K (.ref (cA.c c)) cv=ja b
inductive cX(K:jb)(cA:Kn):List V->List (List (String×Bool))->Prop where
 |nil:cX K cA [] []
 |cons {v:V} {t:List (String×Bool)} {vs:List V} {ts:List (List (String×Bool))}:DG K cA v t->cX K cA vs ts->cX K cA (v::vs) (t::ts)
section
variable{cA:Kn}{G:Cn}{ow owB owC:al Nat}
theorem ER.none{H0 H:Hp}{av:jf->Prop}{A:Nat->am jf}{σ:L2.St}{δ:Env}{i:Nat}{x:am V}(R:ER G ow H0 av A σ H δ)(hi:ow.contains i=jj)(hn:G.2 i=OU):ER G ow H0 av A (σ.set i x) H (δ.set i OU):=
 ⟨R.same,R.avd,R.fr,R.inj,R.live,R.dom,R.dom',by rw [O4,O4];exact R.len,R.pin,(λj v' e=>by
   have q:j≠i:=λz=>by rw [z,hn]at e;cases e
   rw [qy (qF q)];exact R.kept j v' e),λj d e=>by
   have hj:j≠i:=by
    intro z;subst z
    by_cases hl:j<δ.length
    . rw [qN hl]at e;cases e
    . rw [On (by rw [O4];omega)]at e;cases e
   rw [qy (qF hj)]at e;obtain⟨v,h1,h2⟩:=R.var j d e;exact⟨v,by rw [qy (qF hj)];exact h1,h2⟩⟩
end
end DL
namespace DL
open PySem PySem.Spec L2 PyProof.Rows
def Wd(i:Int):Prop:=i.natAbs<2 ^ 8000
instance (i:Int):Decidable (Wd i):=by unfold Wd;infer_instance
def cY(i j:Int):Prop:=(Wd i/\Wd j)\/a3 i j
instance (i j:Int):Decidable (cY i j):=by unfold cY;infer_instance
def wj(_ j:Int):Prop:=j≠0/\Wd j
instance (i j:Int):Decidable (wj i j):=by unfold wj;infer_instance
instance (i j:Int):Decidable (sd i j):=by unfold sd;infer_instance
theorem DH{i:Int}(h:Wd i)(h0:i≠0):i.natAbs.log2<8000:=(vG (by omega)).mpr h
theorem cY.ok{i j:Int}(h:cY i j):IntMulOk i j:=by
 rcases h with⟨h1,h2⟩|h
 . have bits : ∀ {a : Int}, Wd a -> ol a <= 2 ^ 20 := fun {a} ha => by
    unfold ol
    by_cases h0:a=0
    . subst h0;decide
    . have:=DH ha h0
      have e:(2:Nat) ^ 20=1048576:=by decide
      rw [e]
      split<;>omega
   exact .of_bits (bits h1) (bits h2)
 . exact h.ok
section
variable{X:Cx}{cA:Kn}
theorem ix:bK X (yl .Mult) (rI cY λi j => .int (i*j)):=gX λ_ _ _ _ _ _ _ hc q=>mul_int q hc.ok
end
end DL
namespace L2
open PySem PySem.Spec PyProof.Rows
section
variable{X:Cx}
def wk(K:jb):R2:=λx y H Q=>∃l b xs zs,x = .ref l/\y = .ref b/\bv K H l xs/\bv K H b zs/\xs.length+zs.length<=jv/\∀p,H p=none->Q (.ref p) (aV H p (.lst (xs++zs)))
theorem DI:bK X (yl .Add) (wk X.K):=by
 intro pins s σ H x y v u Q I rx ry h;obtain⟨l,b,xs,zs,rfl,rfl,hH,hB,hz,q⟩:=h;cases rx;cases ry;obtain⟨its,r,pl,_⟩:=I.list hH;obtain⟨its2,r2,pl2,_⟩:=I.list hB;obtain⟨⟨c1,d1,da1,sl1⟩,n1,g1,e1,e2,e3⟩:=pl;obtain⟨⟨c2,d2,da2,sl2⟩,n2,g2,f1,f2,f3⟩:=pl2;dsimp only at e1 e2 e3 f1 f2 f3;subst e1 e2 e3 f1 f2 f3;have hl:=r.length;have hl2:=r2.length;refine concat_meets ⟨_,g1,rfl⟩ ⟨_,g2,rfl⟩ noFill_list_add seq_list_add PySem.F.slot_list_add PySem.F.entry_list_add (PySem.F.args_list_add_2 _ _) (list_addW l b its.toArray its2.toArray n1 n2 none none sl1 sl2 (by rw [jN,jN];omega)) ⟨g1,g2,?_⟩
 have ea:its.toArray++its2.toArray=(its++its2).toArray:=by simp
 rw [ea];exact⟨.ref _,_,I.lnew (t':=s.toks) (r.append r2) (by rw [jt];omega),rfl,q _ I.fresh⟩
def wl(K:jb):R2:=λx y H Q=>∃l k xs,x = .ref l/\y = .int k/\bv K H l xs /\ -(2 ^ 63)<=k/\k<2 ^ 63/\xs.length*k.toNat<=jv/\∀p,H p=none->Q (.ref p) (aV H p (.lst (jd k.toNat xs).flatten))
theorem DJ:bK X (yl .Mult) (wl X.K):=by
 intro pins s σ H x y v u Q I rx ry h;obtain⟨l,k,xs,rfl,rfl,hH,h1,h2,hz,q⟩:=h;cases rx;obtain⟨t,rfl⟩:=ry;obtain⟨its,r,pl,_⟩:=I.list hH;obtain⟨⟨c1,d1,da1,sl1⟩,n1,g1,e1,e2,e3⟩:=pl;dsimp only at e1 e2 e3;subst e1 e2 e3;have hl:=r.length;have hlen:its.toArray.size*k.toNat<=jv:=by rw [jN,<-hl];exact hz
 have hcap:¬its.toArray.size*k.toNat>(2 ^ 63-1) / 8:=by
  have:(jv:Nat)<=(2 ^ 63-1) / 8:=by decide
  omega
 have hfit:¬(!uy k)=true:=by
  rw [fitsIndex_both h1 h2];exact jI
 have hlong:¬yO (its.toArray.size*k.toNat)=true:=by
  rw [sS hlen];exact jI
 have hnew:vN (λx1 x2=>x1++x2) #[] (jd (if its.toArray.isEmpty=je then 0 else k.toNat) its.toArray)=(jd k.toNat its).flatten.toArray:=by
  have f0:∀m:Nat,vN (λx1 x2=>x1++x2) #[] (jd m its.toArray)=(jd m its).flatten.toArray:=λm=>by
   have:=sR its m [];rw [ub]at this;exact this
  rw [f0];cases its with
  |nil=>simp
  |cons a r'=>rw [if_neg (by simp)]
 refine wpAny_binaryOp_repeat_ref (T:="list") (U:="int") (by decide) ⟨_,g1,rfl⟩ (λs'=>Wx s' k t) noFill_list_mul F.fills_int_mul WN repeat_list F.slot_int_index.lookup
  (um WN (Wx s k t) F.entry_int_rmul (F.args_int_rmul_2 _ _) (lm_int_rmul_list_any k t l its.toArray n1 none sl1)
    ⟨g1,rfl,⟨_,g1,rfl⟩,um F.slot_list_mul ⟨_,g1,rfl⟩ F.entry_list_mul (F.args_list_mul_2 _ _) (lm_list_mul_any l its.toArray n1 none sl1 k t hfit hcap hlong) ⟨g1,?_⟩⟩)
 rw [hnew];exact⟨.ref _,_,I.lnew (t':=s.toks) (r.rep k.toNat) (by rw [BN,WX];exact hz),rfl,q _ I.fresh⟩
def mS(K:jb):R2:=λx y H Q=>eh (λi j => .int (i+j)) x y H Q\/eT x y H Q\/wk K x y H Q
theorem DK:bK X (yl .Add) (mS X.K):=eR.or (dW.or DI)
theorem DM{K:jb}(hK:autoParam (X.K=K) ah):bK X (yl .Add) (mS K):=hK▸DK
def mT(K:jb):R2:=λx y H Q=>rI DL.cY (λi j => .int (i*j)) x y H Q\/DL.fT x y H Q\/wl K x y H Q
theorem DN:bK X (yl .Mult) (mT X.K):=DL.ix.or (DL.fw.or DJ)
theorem DO{K:jb}(hK:autoParam (X.K=K) ah):bK X (yl .Mult) (mT K):=hK▸DN
end
end L2
namespace DL
open PySem PySem.Spec L2
section
variable{cA:Kn}{G:Cn}{ow owB owC:al Nat}
def iy:D->D->am D
 | .lst a,.lst b=>if a.length+b.length<=jv then ja (.lst (a++b))else none
 |x,y=>aE x y
theorem aD.rep{av:jf->Prop}{H:Hp}{xs:al D}{vs:al V}(l:aD cA av H xs vs):∀n:Nat,aD cA av H (jd n xs).flatten (jd n vs).flatten
 |0 => .nil
 |n+1=>by
  rw [qz,qz,qW,qW];exact l.append (aD.rep l n)
def Qu:D->D->am D
 | .int i,.int j=>if cY i j then ja (.int (i*j))else none
 | .str a,.int n=>if n<2 ^ 63 /\ -(2 ^ 63)<=n/\a.length*n.toNat<=jv then ja (.str (Uq a n))else none
 | .lst a,.int n=>if n<2 ^ 63 /\ -(2 ^ 63)<=n/\a.length*n.toNat<=jv then ja (.lst (jd n.toNat a).flatten)else none
 |_,_=>none
end
end DL
namespace L2
open PySem PySem.Spec PySem.W PyProof.Rows
def X3(cs:al Nat):al Nat:=(reprText (tx cs)).cps.toList
theorem wm(cs:al Nat)(h:cs.all (λc=>decide (c<65536))=je):(X3 cs).length<=10*cs.length+2:=by
 have:=StrLaws.reprText_len (tx cs) (λc hc=>by
  have h1:=jR.mp h c (by simpa using hc);have:c<65536:=of_decide_eq_true h1;exact vm this (by decide))
 simpa [X3,uU]using this
section
variable{X:Cx}{e:qA}{te:TE}{pos:Pos}
def wn(te:TE):TE:=λσ H Q=>te σ H λv H1=>∃cs,v=S cs/\(X3 cs).length<=jv/\Q (S (X3 cs)) H1
theorem DP(he:PE X e te):PE X (.FormattedValue e 114 none pos) (wn te):=by
 intro pins s σ H Q I h;refine wpAny_FormattedValue_repr (aW (he pins s σ H _ I h) λu s1 z=>?_);obtain⟨v,H1,I1,r,cs,ev,hl,q⟩:=z;subst ev;obtain⟨t,rfl⟩:=r;have er:tx (X3 cs)=reprText (tx cs):=rfl;have hz:(reprText (tx cs)).length<=jv:=by simpa [X3,uU]using hl
 refine wpAny_pyReprObj_str ?_ hz;refine v8 ⟨S (X3 cs),H1,I1.tok _,⟨_,rfl⟩,q⟩ ⟨S (X3 cs),H1,(I1.tok _),⟨_,rfl⟩,q⟩ hz
def wo(te:TE):TE:=λσ H Q=>te σ H λv H1=>(∃cs,v=S cs/\cs.length<=jv/\Q (S cs) H1)\/∃n:Nat,v = .int n/\n<10 ^ 10/\Q (S (Uo n)) H1
theorem DQ(he:PE X e te):PE X (.FormattedValue e (-1) none pos) (wo te):=by
 intro pins s σ H Q I h;refine wpAny_FormattedValue_plain (aW (he pins s σ H _ I h) λu s1 z=>?_);obtain⟨v,H1,I1,r,q⟩:=z;rcases q with⟨cs,ev,hl,q⟩|⟨n,ev,hn,q⟩
 . subst ev
   obtain⟨t,rfl⟩:=r;have hz:(tx cs).length<=jv:=by simpa [uU]using hl
   exact v8 ⟨S cs,H1,I1,⟨_,rfl⟩,q⟩ ⟨S cs,H1,I1.tok _,⟨_,rfl⟩,q⟩ hz
 . subst ev
   obtain⟨t,rfl⟩:=r;refine formatField_int_small ?_ ?_
   . have h1 : n.log2 < 40 := by
      by_cases h0:n=0
      . subst h0;decide
      . exact(vG h0).mpr (vm hn (by decide))
     show(n:Int).natAbs.log2<1920;rw [Int.natAbs_natCast];omega
   . refine⟨S (Uo n),H1,I1.tok _,⟨s1.toks+1,?_⟩,q⟩
     rw [Cf]
inductive PJ(X:Cx):List qA->List TE->Prop where
 |nil:PJ X [] []
 |cons {e:qA} {es:List qA} {t:TE} {ts:List TE}:PE X e t->PJ X es ts->PJ X (e::es) (t::ts)
def iA:al TE->al Nat->L2.St->Hp->(al Nat->Hp->Prop)->Prop
 | [],acc,_,H,Q=>Q acc H
 |t::r,acc,σ,H,Q=>t σ H λv H1=>∃cs,v=S cs/\(acc++cs).length<=jv/\iA r (acc++cs) σ H1 Q
theorem wq{Q:al Nat->Hp->Prop}:∀{es:al qA}{ts:al TE}{acc:al Nat}{H:Hp}{s:jg},PJ X es ts->Inv X pins σ H s->acc.length<=jv->iA ts acc σ H Q ->
 Joins (model X.prog X.w) X.A X.xe (evalEach es X.env) (tx acc) (λout s1=>∃cs H',out=tx cs/\Inv X pins σ H' s1/\cs.length<=jv/\Q cs H') s
 |_,_,acc,H,s,.nil,I,hl,q=>⟨acc,H,rfl,I,hl,q⟩
 |_,_,acc,H,s,.cons he hr,I,hl,q=>by
  show jJ (model X.prog X.w) X.A _ _ X.xe s;refine aW (he pins s σ H _ I q) λu s1 z=>?_;obtain⟨v,H1,I1,r,cs,ev,hz,q1⟩:=z
  subst ev;obtain⟨t,rfl⟩:=r
  have ea:tx acc++tx cs=tx (acc++cs):=by
   show(⟨acc.toArray++cs.toArray⟩:Str)=⟨(acc++cs).toArray⟩
   simp
  refine⟨_,_,rfl,?_,?_⟩
  . rw [ea];simpa [uU]using hz
  . rw [ea];exact wq hr I1 hz q1
theorem wt{P Q:Str->jg->Prop}(k:∀x s,P x s->Q x s):∀{parts:al (Sem jc)}{acc:Str}{s:jg},Joins (model X.prog X.w) X.A X.xe parts acc P s->Joins (model X.prog X.w) X.A X.xe parts acc Q s
 | [],acc,s,h=>k _ _ h
 |x::r,acc,s,h=>aW h λv s1 ⟨y,t,e,hz,q⟩=>⟨y,t,e,hz,wt k q⟩
def mU(ts:al TE):TE:=λσ H Q=>iA ts [] σ H λcs H1=>Q (S cs) H1
theorem wu{e1 e2:qA}{es:al qA}{ts:al TE}(h:PJ X (e1::e2::es) ts):PE X (.JoinedStr (e1::e2::es) pos) (mU ts):=by
 intro pins s σ H Q I q;refine wpAny_JoinedStr (wt (λx s1 z=>?_) (wq (acc:=[]) h I (yr _) q));obtain⟨cs,H1,ex,I1,hl,q1⟩:=z;subst ex;exact⟨by simpa [uU]using hl,S cs,H1,I1.tok _,⟨_,rfl⟩,q1⟩
end
end L2
namespace DL
open PySem PySem.Spec L2
def Jg:D->am D
 | .str cs=>if cs.length<=1000/\cs.all (λc=>decide (c<65536))=je then ja (.str (X3 cs))else none
 |_=>none
def Jh(f:D->am D)(a:Env->am D)(δ:Env):am D:=match a δ with
 |some d=>f d
 |none=>none
section
variable{G:Cn}{ow:al Nat}
theorem DR(h:VE G ow te .cl a):VE G ow (wn te) .cl (Jh Jg a):=λH0 av A σ H δ E d e Q k=>by
 unfold Jh at e;cases hx:a δ with
 |none=>rw [hx]at e;cases e
 |some x=>
  rw [hx]at e;dsimp only at e;unfold Jg at e
  split at e
  . rename_i cs
    by_cases hz:cs.length<=1000/\cs.all (λc=>decide (c<65536))=je
    . rw [if_pos hz]at e
      cases e;refine h H0 av A σ H δ E _ hx _ λv H1 s1 r1=>⟨cs,r1,?_,k _ H1 s1 rfl⟩
      have:=wm cs hz.2;have hs:jv=16777216:=jo;omega
    . rw [if_neg hz]at e;cases e
  . cases e
inductive VJ(G:Cn)(ow:List Nat):List TE->List (Env->Option D)->Prop where
 |nil:VJ G ow [] []
 |cons {t:TE} {a:Env->Option D} {ts:List TE} {as:List (Env->Option D)}:VE G ow t .cl a->VJ G ow ts as->VJ G ow (t::ts) (a::as)
noncomputable def fB:al (Env->am D)->al Nat->Env->am (al Nat)
 | [],acc,_=>ja acc
 |a::r,acc,δ=>match a δ with
  |some (.str cs)=>if(acc++cs).length<=jv then fB r (acc++cs) δ else none
  |_=>none
theorem wv:∀{ts:al TE}{as:al (Env->am D)},VJ G ow ts as->∀{acc cs:al Nat}{H:Hp},ER G ow H0 av A σ H δ->fB as acc δ=ja cs->∀Q:al Nat->Hp->Prop,(∀H',aH H H'->Q cs H')->iA ts acc σ H Q
 |_,_,.nil,acc,cs,H,E,e,Q,k=>by cases e;exact k H (aH.refl H)
 |_,_,.cons h hr,acc,cs,H,E,e,Q,k=>by
  rename_i t a ts as;unfold fB at e;cases hx:a δ with
  |none=>rw [hx]at e;cases e
  |some x=>
   rw [hx]at e;cases x<;>first|(cases e;done)|skip
   rename_i c1;dsimp only at e
   by_cases hz:(acc++c1).length<=jv
   . rw [if_pos hz]at e
     exact h H0 av A σ H δ E _ hx _ λv H1 s1 r1=>⟨c1,r1,hz,wv hr (E.mono s1) e _ λH' s=>k H' (s1.trans s)⟩
   . rw [if_neg hz]at e;cases e
def Ji(as:al (Env->am D))(δ:Env):am D:=match fB as [] δ with
 |some cs=>ja (.str cs)
 |none=>none
theorem DS{ts:al TE}{as:al (Env->am D)}(h:VJ G ow ts as):VE G ow (mU ts) .cl (Ji as):=λH0 av A σ H δ E d e Q k=>by
 unfold Ji at e;cases hx:fB as [] δ with
 |none=>rw [hx]at e;cases e
 |some cs=>
  rw [hx]at e;cases e;exact wv h E hx _ λH' s=>k _ H' s rfl
end
end DL
namespace L2
open PySem PySem.Spec PySem.W PyProof.Rows
theorem ww:∀(cs:al Nat)(its:al jc),its.length=cs.length->(∀(j:Nat)(v:jc),its[j]? = ja v->∃(c:Nat) (u:Tok),cs[j]? = ja c/\v=uK ⟨#[c]⟩ u)->aR (cs.map λc=>S [c]) its
 | [],[],_,_ => .nil
 |c::cs,[],h,_=>by simp at h
 | [],v::its,h,_=>by simp at h
 |c::cs,v::its,h,k=>by
  refine .cons ?_ (ww cs its (by simpa using h) λj v hj=>by simpa using k (j+1) v (by simpa using hj));obtain⟨c',u,e1,e2⟩:=k 0 v rfl;cases e1;exact⟨u,e2⟩
def wx(K:jb):al V->Hp->VK->Prop:=λxs H Q=>Cv K xs H Q\/∃cs,xs=[S cs]/\cs.length<=jv/\∀l,H l=none->Q (.ref l) (aV H l (.lst (cs.map λc=>S [c])))
theorem DT{X:Cx}{K:jb}(hc:autoParam (X.calm=true) ah)(hK:autoParam (X.K=K) ah):bg X (.type "list") (wx K):=by
 subst hK;intro pins s σ H xs us Q I r h;rcases h with h|⟨cs,rfl,hz,q⟩
 . exact BH pins s σ H xs us Q I r h
 . obtain⟨u,rfl,rx⟩:=YW r
   obtain⟨t,rfl⟩:=rx;refine call_list_str (I.ok.hd hc) (tx cs) t (λh' tk acc' c' kp e hi => ?_) (by simpa using hz)
   have hv:aR (cs.map λc=>S [c]) acc'.toList:=ww cs _ (by simpa using hi.1) λj v hj=>by
    obtain⟨c,u,e1,e2⟩:=hi.2 j v (by simpa using hj);exact⟨c,u,by simpa using e1,e2⟩
   exact⟨.ref s.heap.objs.size,_,I.laid (t':=tk) kp (jz _) (show aZ X.prog X.w _ h' _ (.lst _)from⟨by rw [jk];exact hz,acc'.toList,c',hv,e⟩),rfl,q _ (I.hok.fresh (jz _))⟩
end L2
namespace DL
open PySem PySem.Spec L2
def iB:al D->am D
 | [.str cs]=>if cs.length<=jv then ja (.lst (cs.map λc => .str [c]))else none
 |ds=>tP ds
section
variable{G:Cn}{ow:al Nat}
theorem wy:∀cs:al Nat,aD cA av H (cs.map λc=>D.str [c]) (cs.map λc=>S [c])
 | [] => .nil
 |c::cs => .cons rfl (wy cs)
theorem DU{q:Ql}(hq:q = .cl\/q = .tp)(h:VA G ow t q α):VF G ow (fi (wx G.1.K) t) (aU iB α):=λH0 av A σ H δ E d e Q k=>by
 unfold aU at e;cases he:α δ with
 |none=>rw [he]at e;cases e
 |some ds=>
  rw [he]at e;replace e:iB ds=ja d:=e;unfold iB at e
  split at e
  . rename_i cs
    by_cases hz:cs.length<=jv
    . rw [if_pos hz]at e
      cases e;refine h H0 av A σ H δ E _ he _ λvs H1 s1 r1 => ?_
      have il:VW G.1 (AV av A) H1 [.str cs] vs:=by
       rcases hq with rfl|rfl<;>exact r1.il
      obtain⟨v,t,rfl,hx⟩:=eU il;cases(show v=_ from hx);exact .inr ⟨cs,rfl,hz,λp hp=>k p _ _ H1 s1 hp (wy cs) rfl⟩
    . rw [if_neg hz]at e;cases e
  . exact h H0 av A σ H δ E _ he _ fun vs H1 s1 r1 => by
     have il:VW G.1 (AV av A) H1 ds vs:=by
      rcases hq with rfl|rfl<;>exact r1.il
     refine .inl ?_;unfold tP at e
     split at e
     . rename_i xs
       cases e;obtain⟨v,t,rfl,a,ws,rfl,_,rd,l⟩:=eU il;exact⟨a,ws,rfl,.inl rd,λp hp=>k p ws _ H1 s1 hp l rfl⟩
     . rename_i xs
       cases e;obtain⟨v,t,rfl,a,ws,rfl,_,rd,l⟩:=eU il;exact⟨a,ws,rfl,.inr (cm.of rd),λp hp=>k p ws _ H1 s1 hp l rfl⟩
     . cases e
end
section
variable{cA:Kn}{G:Cn}{ow owN owB owC ow1:al Nat}{i:Nat}
def Vc(φ ψ:Env->am aT)(δ:Env):am aT:=match φ δ with
 |some (.nx δ')=>ψ δ'
 |_=>none
def gh(N:Nat)(φ:Env->am aT)(ds:al D):am D:=match φ (ds.map ja++jd (N-ds.length) none)with
 |some (.rt d)=>ja d
 |_=>none
def Qv:D->D->am D
 | .lst a,.int n=>Qu (.lst a) (.int n)
 |_,_=>none
theorem DV(ha:VE G ow ta .cl a)(hb:VE G ow tb q b):VF G ow (gb (mT G.1.K) ta tb) (aB Qv a b):=λH0 av A σ H δ E d e Q k=>by
 obtain⟨x,y,ex,ey,ed⟩:=Q8 e;unfold Qv at ed
 split at ed
 . rename_i xs n
   unfold Qu at ed;dsimp only at ed
   by_cases hz:n<2 ^ 63 /\ -(2 ^ 63)<=n/\xs.length*n.toNat<=jv
   . rw [if_pos hz]at ed
     cases ed;refine ha H0 av A σ H δ E _ ex _ λv H1 s1 r1=>hb H0 av A σ H1 δ (E.mono s1) _ ey _ λw H2 s2 r2 => ?_
     have ew:w = .int n:=r2.any;subst ew;obtain⟨a1,vs1,rfl,na,rd,l1⟩:=r1;refine .inr (.inr ⟨a1,n,vs1,rfl,rfl,s2.seq rd,hz.2.1,hz.1,by rw [<-l1.length];exact hz.2.2,λp hp=>k p _ _ H2 (s1.trans s2) hp ((l1.same s2).rep n.toNat) rfl⟩)
   . rw [if_neg hz]at ed;cases ed
 . cases ed
end
def FL(cA:Kn)(H0:Hp)(av:jf->Prop)(De:Ends)(d:D):Prop:=∀p vs xs H',aH H0 H'->H0 p=none->H' p=ja (.lst vs)->aD cA (λx=>av x\/x=p) H' xs vs->d = .lst xs->De.rt (.ref p) H'
def iC(G:Cn)(ow:al Nat)(ts:TS)(φ:Env->am aT):Prop:=∀H0 av A σ H δ,ER G ow H0 av A σ H δ->∀d,φ δ=ja (.rt d)->∀De:Ends,FL G.1 H0 av De d->ts De σ H
section
variable{cA:Kn}{G:Cn}{ow owN owB owC ow1:al Nat}{i:Nat}
theorem US(h1:VS G ow ow1 [] [] t φ)(h2:iC G ow1 u ψ):iC G ow (VQ t u) (Vc φ ψ):=λH0 av A σ H δ E d e De k=>by
 unfold Vc at e
 split at e
 . rename_i δ' hp
   exact h1 H0 av A σ H δ E _ hp _ λA' σ' H' E'=>h2 H0 av A' σ' H' δ' E' d e De k
 . cases e
theorem DW(h:VF G ow te ε):iC G ow (QW te) (Zm ε):=λH0 av A σ H δ E d e De k=>by
 unfold Zm at e;cases he:ε δ with
 |none=>rw [he]at e;cases e
 |some d'=>
  rw [he]at e;cases e;refine h H0 av A σ H δ E _ he _ λp vs xs H1 s hp l hd => ?_
  refine k p vs xs _ ((E.same.trans s).trans (YB hp)) (E.same.free (s.free hp)) ZF (((l.av λb z => ?_)).same (YB hp)) hd;rcases z with z|z
  . exact .inl (.inl z)
  . rw [z];exact .inr hp
def mV(cA:Kn)(n:Nat)(m:al D->am D):Sp:=λvs H Q _=>∃av ds d,(∀a,av a->H a≠none)/\aD cA av H ds vs/\ds.length=n/\m ds=ja d/\∀p vs xs H',aH H H'->H p=none->H' p=ja (.lst vs)->aD cA (λx=>av x\/x=p) H' xs vs->d = .lst xs->Q (.ref p) H'
open Classical in
theorem DX{n:Nat}{E0:XK}(dds:al D)(hd:dds.all ZA=je)(h:VA G ow t .cl α):VF G ow (XB (mV G.1 n m) (dds.map bP) E0 t) (Zi n m dds α):=λH0 av A σ H δ E d e Q k=>by
 unfold Zi at e;cases he:α δ with
 |none=>rw [he]at e;cases e
 |some ds=>
  rw [he]at e;dsimp only at e
  by_cases hz:(ds++dds).length=n
  . rw [if_pos hz]at e
    refine h H0 av A σ H δ E ds he _ λvs H1 s1 r1 => ?_
    have E1:=E.mono s1;refine⟨AV av A,ds++dds,d,E1.avl,r1.cl.append (.of_vals hd),hz,e,λp ws xs H' s hp hH' l hd => ?_⟩
    have eu:aV (λx=>if x=p then none else H' x) p (.lst ws)=H':=by
     funext x
     by_cases hx:x=p
     . subst hx;rw [ZF,hH']
     . rw [Zn hx,if_neg hx]
    have:=k p ws xs (λx=>if x=p then none else H' x) (λb o q => ?_) (if_pos rfl) ((l.ext λb o n q => ?_).av λb z => .inl (.inl z)) hd
    . rw [eu]at this
      exact this
    . have hb:b≠p:=λz=>by rw [z]at q;rw [s1.free hp]at q;cases q
      show(if b=p then none else H' b)=ja o;rw [if_neg hb];exact s b o (s1 b o q)
    . have hb:b≠p:=λz=>n (.inr z)
      show(if b=p then none else H' b)=ja o;rw [if_neg hb];exact q
  . rw [if_neg hz]at e;cases e
end
section
variable{P:jS}{w:jV}{K:jb}{mg:Str->am jc}{base:jX}{cA:Kn}
theorem DY {st:qv} {N ps:al Str} {k:Nat} {body:al qv} {scope:qH} {n:Nat} {m:al D->am D} (F:bu K x qual st f fd) (S:aG N ps (aA st)) (hS:aA st=scope) (hB:aN st=body)
 (hbody:∀(cdv:jc)(A:qe)(outer:al yq)(s:jg)(H:Hp)(E:XK),a4 k (A.deeper (qm qual scope s.heap.objs.size f cdv)) ->
   ∃t,cK (ZJ bF P w K mg base N qual scope f cdv A outer s H E).nox body t/\iC ⟨cA,λ_=>none⟩ [] t φ) (hm:m=gh N.length φ) (hn:ps.length=n):aO P w K mg base bF (k+1) f fd ps (mV cA n m):=by
 subst hS hB hm hn;refine F.ok S (λvs H Q E h => ?_) λcdv A outer s H vs Q E hr h => ?_
 . obtain⟨av,ds,d,_,r,hl,_⟩:=h
   rw [<-r.length,hl]
 . obtain⟨av,ds,d,ha,r,hl,hm,q⟩:=h
   obtain⟨t,ht,hv⟩:=hbody cdv A outer s H E hr;refine⟨t,ht,?_⟩;unfold gh at hm
   split at hm
   . rename_i d' hφ
     cases hm;exact hv H av _ _ H _ (VZ ha r) _ hφ _ λp vs xs H' s' h0 hp l hd=>q p vs xs H' s' h0 hp l hd
   . cases hm
end
end DL
namespace L2
open PySem PySem.Spec PyProof.Rows Builtin Builtin.Str
theorem DZ {E:jc->jg->Prop} {s:jg} {x y:Str} {R:jc->jg->Prop} (hy:(y.length == 0)=jj) (hx:x.length+2<=jv)
 (q:∀l k,l.map (·.1)=Wg x y->R (.ref s.heap.objs.size) { s with toks:=k,heap:=s.heap.push { cls := .type "list",data := .seq (strValues l).toArray } }) :
 jJ (model P w) A (call (.builtin "str.split") [.str x tx',.str y ty]) R E s:=by
 have hp:(partsBetween x (occurrences x y 0 x.length (x.length+1)) y.length).length<=jv:=by
  have b:=StrLaws.occ_length_le x y 0 x.length (x.length+1);rw [length_partsBetween];omega
 by_cases c1:(decide (x.length<y.length)||decide (strKind x<strKind y))=je
 . refine um O7 (uY _ _ _) OZ (OT _ _) (meets_str_split_cannot_occur x y tx' ty c1) ?_
   exact q [(x,tx')] s.toks (if_pos c1).symm
 . have c1':=vY.mpr c1
   by_cases c2:(occurrences x y 0 x.length (x.length+1)).isEmpty=je
   . refine um O7 (uY _ _ _) OZ (OT _ _) (meets_str_split_not_found x y tx' ty c1' hy c2) ?_
     exact q [(x,tx')] s.toks ((if_neg c1).trans (if_pos c2)).symm
   . have c2':=vY.mpr c2
     refine um O7 (uY _ _ _) OZ (OT _ _) (meets_str_split_sep x y tx' ty c1' hy c2' (by omega) hp) ?_;show wants R E _ { s with toks:=_,heap:=s.heap.push { cls := .type "list",data := .seq (strsFrom s.toks (partsBetween x (occurrences x y 0 x.length (x.length+1)) y.length)).toArray } };rw [strsFrom_eq];refine q (numbered s.toks _) _ ((numbered_texts _ _).trans ?_)
     exact((if_neg c1).trans (if_neg c2)).symm
theorem wz:∀{l:al (Str×Tok)}{ps:al (al Nat)},l.map (·.1)=ps.map tx->aR (ps.map S) (strValues l)
 | [],[],_ => .nil
 | [],_::_,h=>by cases h
 |_::_,[],h=>by cases h
 |(a,t)::l,p::ps,h=>by
  rw [jy,jy,vB]at h;obtain⟨h1,h2⟩:=h;have h1:a=tx p:=h1;subst h1;exact .cons ⟨t,rfl⟩ (wz h2)
section
variable{X:Cx}
theorem D0:ge X "str.split" (λx xs H Q=>∃(a:al Nat) (c:Nat),x=S a/\xs=[S [c]]/\a.length+2<=jv/\(Zz c a).length<=jv/\∀p,H p=none->Q (.ref p) (aV H p (.lst ((Zz c a).map S)))):=by
 intro pins s σ H x xs v us Q I rx rs h;obtain⟨a,c,rfl,rfl,hz,hz2,q⟩:=h;obtain⟨t,rfl⟩:=rx;obtain⟨u,rfl,t',rfl⟩:=YW rs;refine DZ (y:=tx [c]) (by rfl) (show(tx a).length+2<=jv by rw [Yz];exact hz) λl k e => ?_
 rw [B2]at e;have hv:=wz e;have hfr:=I.fresh;refine⟨.ref s.heap.objs.size,_,I.laid (λb u e=>ji _ e) (jz _) ?_,rfl,q _ hfr⟩;exact⟨by simpa using hz2,strValues l,0,hv,jD _ rfl⟩
def Yw(c:Nat)(a:al Nat):al Nat×al Nat×al Nat:=if 0<=VU c a then(a.take (VU c a).toNat,[c],a.drop ((VU c a).toNat+1))else(a,[],[])
theorem D1(a:al Nat)(c:Nat):oR (tx a) (tx [c])=(tx (Yw c a).1,tx (Yw c a).2.1,tx (Yw c a).2.2):=by
 have e':=B3 a c;unfold Txt.find at e';unfold oR Yw;cases ho:occurrences (tx a) (tx [c]) 0 (tx a).length 1 with
 |nil=>
  rw [ho]at e';rw [if_neg (by rw [<-e'];show ¬(0:Int) <= -1;omega)];rfl
 |cons j r=>
  rw [ho]at e';have e2:VU c a=(j:Int):=e'.symm;rw [e2,if_pos (by omega)];dsimp only;rw [g0,g0,Yz,Yz,Ov,WW,yj];rw [qx (l:=a.drop (j+[c].length)) (by rw [qw];exact jz _)];rfl
theorem D2:ge X "str.partition" (λx xs H Q=>∃(a:al Nat) (c:Nat),x=S a/\xs=[S [c]]/\a.length<=jv/\∀p,H p=none->Q (.ref p) (aV H p (.tup [S (Yw c a).1,S (Yw c a).2.1,S (Yw c a).2.2]))):=by
 intro pins s σ H x xs v us Q I rx rs h;obtain⟨a,c,rfl,rfl,hz,q⟩:=h;obtain⟨t,rfl⟩:=rx;obtain⟨u,rfl,t',rfl⟩:=YW rs;have hp:=D1 a c;have hfr:=I.fresh
 have fin:∀ta tb tc k,EP X pins σ Q (.ref s.heap.objs.size) { s with toks:=k,heap:=s.heap.push { cls := .type "tuple",data := .seq [.str (tx (Yw c a).1) ta,.str (tx (Yw c a).2.1) tb,.str (tx (Yw c a).2.2) tc].toArray } }:=λta tb tc k=>by
  refine⟨.ref s.heap.objs.size,_,I.laid (λb u e=>ji _ e) (jz _) ?_,rfl,q _ hfr⟩;refine⟨?_,[.str (tx (Yw c a).1) ta,.str (tx (Yw c a).2.1) tb,.str (tx (Yw c a).2.2) tc],.cons ⟨ta,rfl⟩ (.cons ⟨tb,rfl⟩ (.cons ⟨tc,rfl⟩ .nil)),⟨_,jD _ rfl,rfl,⟨_,rfl⟩,rfl⟩⟩;rw [jo];simp
 refine um F.slot_str_partition (uY _ _ _) F.entry_str_partition (F.args_str_partition_2 _ _) (meets_str_partition (tx a) (tx [c]) t t' (by rfl) (by rw [Yz];exact hz)) ?_;unfold oR at hp;revert hp;cases occurrences (tx a) (tx [c]) 0 (tx a).length 1 with
 |nil=>
  intro hp;simp only [oa]at hp;obtain⟨h1,h2,h3⟩:=hp;rw [<-h1,<-h2,<-h3]at fin;exact fin _ _ _ _
 |cons i r=>
  intro hp;simp only [oa]at hp;obtain⟨h1,h2,h3⟩:=hp;rw [<-h1,<-h2,<-h3]at fin;exact fin _ _ _ _
end
theorem iD(c:Nat):∀a:al Nat,(Zz c a).length<=a.length+1
 | []=>by simp [Zz]
 |x::a=>by
  have ih:=iD c a;unfold Zz
  split
  . simp;omega
  . split
    . simp
    . rename_i p ps e
      rw [e]at ih;simp at ih ⊢;omega
end L2
namespace DL
open PySem PySem.Spec L2
variable{cA:Kn}
def cE(a:al Nat):al D->am D
 | [.str [c]]=>if a.length+2<=jv then ja (.lst ((Zz c a).map D.str))else none
 |_=>none
def bW(a:al Nat):al D->am D
 | [.str [c]]=>if a.length<=jv then ja (.tup [.str (Yw c a).1,.str (Yw c a).2.1,.str (Yw c a).2.2])else none
 |_=>none
theorem wA(l:al (al Nat)):aD cA av H (l.map D.str) (l.map S):=by
 have:=aD.of_vals (cA:=cA) (av:=av) (H:=H) (xs:=l.map D.str) (by rw [yV];exact jR.mpr λ_ _=>rfl);rw [qM]at this;exact this
theorem D3:UQ cA (λx xs H Q=>∃(a:al Nat) (c:Nat),x=S a/\xs=[S [c]]/\a.length+2<=jv/\(Zz c a).length<=jv/\∀p,H p=none->Q (.ref p) (aV H p (.lst ((Zz c a).map S)))) cE:=λi H a ds vs d hi h e Q k=>by
 unfold cE at e
 split at e
 . rename_i c
   by_cases hz:a.length+2<=jv
   . rw [if_pos hz]at e
     cases e;have hl:=iD c a;refine⟨a,c,rfl,iq h,hz,by omega,λp hp=>k _ _ (YB hp) ⟨p,_,rfl,λz=>(hi p z hp).elim,bv.of ZF,wA _⟩⟩
   . rw [if_neg hz]at e;cases e
 . cases e
theorem D4:UQ cA (λx xs H Q=>∃(a:al Nat) (c:Nat),x=S a/\xs=[S [c]]/\a.length<=jv/\∀p,H p=none->Q (.ref p) (aV H p (.tup [S (Yw c a).1,S (Yw c a).2.1,S (Yw c a).2.2]))) bW:=λi H a ds vs d hi h e Q k=>by
 unfold bW at e
 split at e
 . rename_i c
   by_cases hz:a.length<=jv
   . rw [if_pos hz]at e
     cases e;refine⟨a,c,rfl,iq h,hz,λp hp=>k _ _ (YB hp) ⟨p,_,rfl,λz=>hi p z hp,ZF,wA [(Yw c a).1,(Yw c a).2.1,(Yw c a).2.2]⟩⟩
   . rw [if_neg hz]at e;cases e
 . cases e
end DL
namespace PySem
open Builtin SmallTypes
open AutoSeq1 (wpAny_loadPart')
theorem D5(a:jf)(its:Array jc)(k:Nat)(dc:am jf)(sl:Array (am jc))(u:Tok) :
 Meets (Builtin.«enumerate.__new__» ⟨[.type "enumerate",.ref a],[("start",.int 1 u)]⟩) (λ_ R s=>s.heap.get? a=ja { cls := .type "list",dict:=dc,data := .seq its k,slots:=sl } /\
  R (.ok (.ret (.ref (s.heap.push { cls := .type "list_iterator",data := .fields #[.ref a,.int 0 0] }).objs.size)))
   { s with heap:=(s.heap.push { cls := .type "list_iterator",data := .fields #[.ref a,.int 0 0] }).push { cls := .type "enumerate",data := .fields #[.none,.bool jj,.ref s.heap.objs.size,rawInt 1,.none,.none] } }):=
 .of_wp λP w A R s h=>by
  obtain⟨hp,gs,dr,tk,os⟩:=s;obtain⟨hl,h⟩:=h;have sb:=sub_enumerate;have hL:Heap.IsList (Shared.heap ⟨hp,gs,dr,tk,os⟩) a its:=⟨_,hl,rfl,k,rfl⟩
  wp_walk using oM hl
  refine W1 λfs => ?_
  refine jB ?_
  split
  . rename_i q _ _ _ _ _
    cases(q == uv "enumerate")<;>(wp_walk using oM hl,Od hL)
    . exact⟨_,rfl,h⟩
    . exact⟨_,rfl,h⟩
  . wp_walk using oM hl,Od hL
    exact⟨_,rfl,h⟩
end PySem
namespace PySem
open Sem (wp)
theorem D6(a:jc)(u:Tok):checkTypeCall "enumerate" ⟨[a],[("start",.int 1 u)]⟩=pure ():=by kernel_rfl
theorem D7(a:jc)(u:Tok):checkBuiltinCall "enumerate.__new__" ⟨[.type "enumerate",a],[("start",.int 1 u)]⟩=pure ():=by kernel_rfl
theorem D8(x a:jc)(u:Tok):argsOk "object.__init__" ⟨[x,a],[("start",.int 1 u)]⟩:=by
 first
  |kernel_rfl
  |exact⟨by kernel_rfl⟩
  |(unfold argsOk;kernel_rfl)
theorem D9{x a:jc}:Meets (Builtin.«object.__init__» ⟨[x,a],[("start",.int 1 u)]⟩) (λ_ R s=>s.TypeIs x "enumerate" /\ R (.ok (.ret .none)) s):=by
 have hl:=F.called_enumerate.init.lookup;have hm:=F.called_enumerate.made;refine Meets.of_wp λP w A R s hs => ?_
 obtain⟨hT,hq⟩:=hs
 repeat (any_goals (first|wp_step|assumption))
 exact⟨_,rfl,hq⟩
section
variable{P:jS}{w:jV}{A:qe}{E:jc->jg->Prop}{s:jg}
theorem wB {a:jc} {S:Spec} {Q:jc->jg->Prop} (g:Meets (Builtin.«enumerate.__new__» ⟨[.type "enumerate",a],[("start",.int 1 u)]⟩) S)
 (h:S A.in1 (wants (λx s₁=>s₁.TypeIs x "enumerate" /\ Q x s₁) E) s):jJ (model P w) A (call (.type "enumerate") [a] [("start",.int 1 u)]) Q E s:=by
 have ft:=F.called_enumerate;obtain⟨c,tl,b1⟩:=ft.mro;have b2:=ft.made;have b3:=ft.sub;have b4:=ft.notType;have b5:=ft.canCreate;have b6:=D6 a u;refine yL (W3 ?_);show jJ _ _ (callAny (.type "enumerate") _) _ _ _;refine jB ⟨uP _ (by decide +kernel),?_⟩;refine W4 F.entry_type_call ?_;rw [Around.under_plain (weight_type_call_type _ [a] _) (units_type_call_type _ [a] _)]
 repeat (any_goals (first|wp_step|assumption))
 refine yM (yk ft.plain F.entry_enumerate_new (wpAny_of_eq (D7 a u) (g P w A.in1 _ s h))) λr s₁ hr => ?_
 cases r with
 |error e=>exact hr
 |ok fl=>
  cases fl with
  |ret obj=>
   obtain⟨hT,hq⟩:=hr;have b7:=ft.init.lookup;have b8:=ft.init.bind obj
   repeat (any_goals (first|wp_step|assumption))
   have ini:=D9 (x:=obj) (a:=a) (u:=u) P w A.in1 (wants (λr s₂=>r=ua/\Q obj s₂) E) s₁ ⟨hT,rfl,hq⟩;refine yM (yk ft.init.plain F.entry_object_init (ft.init.check _ _ _ _ _ _ _ _ hT (D8 obj a u) ini)) λr2 s2 h2 => ?_
   cases r2 with
   |error e=>exact h2
   |ok f2=>
    cases f2 with
    |ret r=>
     obtain⟨rfl,hq2⟩:=h2
     repeat (any_goals (first|wp_step|assumption))
    |_=>exact h2.elim
  |_=>exact hr.elim
theorem Ea {Q:jc->jg->Prop} (hL:s.heap.IsList l its)
 (h:∀h',IsEnum h' (s.heap.objs.size+1) s.heap.objs.size 1 .none->h'.IsListIter s.heap.objs.size l 0->(∀b o,s.heap.get? b=ja o->h'.get? b=ja o)->Q (.ref (s.heap.objs.size+1)) { s with heap:=h' }) :
 jJ (model P w) A (call (.type "enumerate") [.ref l] [("start",.int 1 u)]) Q E s:=by
 obtain⟨⟨c,dc,dt,sl⟩,hl,hc,n,hd⟩:=hL;cases(show c = .type "list" from hc);cases(show dt = .seq its n from hd);refine wB (D5 l its n dc sl u) ⟨hl,?_⟩;have hz:(s.heap.push { cls := .type "list_iterator",data := .fields #[.ref l,.int 0 0] }).objs.size=s.heap.objs.size+1:=by rw [qU]
 have e0:=jD (s.heap.push { cls := .type "list_iterator",data := .fields #[.ref l,.int 0 0] }) (o:={ cls := .type "enumerate",data := .fields #[.none,.bool jj,.ref s.heap.objs.size,rawInt 1,.none,.none] }) rfl;rw [hz]at e0;show _/\_;rw [hz];exact⟨⟨_,e0,rfl⟩,h _ e0 ⟨_,ji _ (jD _ rfl),rfl,rfl⟩ λb o x=>ji _ (ji _ x)⟩
end
end PySem
namespace L2
open PySem PySem.Spec PyProof.Rows
def mW(K:jb)(n0:Nat)(l:jf):It:=
 ⟨λi H=>∃xs x,bv K H l xs/\xs[i]? = ja x,λi H v H'=>∃x p,(∀xs,bv K H l xs->xs[i]? = ja x)/\H p=none/\v = .ref p/\H'=aV H p (.tup [.int ((n0+i:Nat):Int),x]),λi H=>∃xs,bv K H l xs/\xs.length<=i⟩
theorem Eb{A:qe}(hh:A.handled=none)(it l:jf)(hne:l≠it)(its:Array jc)(n0:Nat) :
 Draws prog w A it [it,l] (n0+its.size) (λi v=>∃j,i=n0+j/\its[j]? = ja v) (λi h=>∃j,i=n0+j/\h.IsListIter it l j/\h.IsList l its) where
 live:=λi h ⟨j,_,st,_⟩=>let⟨o,ho,_⟩:=st;⟨o,ho⟩
 frame:=λi h h' ⟨j,e,s1,s2⟩ hk=>⟨j,e,s1.at λo q=>hk it (by simp) o q,s2.at λo q=>hk l (by simp) o q⟩
 item:=λi s Q E hi st hQ=>by
  obtain⟨j,rfl,s1,s2⟩:=st;have hj:j<its.size:=by omega
  refine wpAny_nextOf_list_item s1 s2 (x:=its[j]) (by simp [hj]) λh' st' sb => ?_
  exact hQ _ h' s.toks ⟨j,rfl,by simp [hj]⟩ ⟨j+1,by omega,st',s2.extBut sb.extBut hne⟩ sb
 done:=λs Q E st hE=>by
  obtain⟨j,e,s1,s2⟩:=st
  exact vZ hh s1 s2 (by have:j=its.size:=(by omega);subst this;simp) hE
theorem Ec{A:qe}(hh:A.handled=none)(it l:jf)(its:Array jc)(n j:Nat)(hj:its.size<=j) :
 Draws prog w A it [it,l] n (λ_ _=>False) (λi h=>i=n/\h.IsListIter it l j/\h.IsList l its) where
 live:=λi h ⟨_,st,_⟩=>let⟨o,ho,_⟩:=st;⟨o,ho⟩
 frame:=λi h h' ⟨e,s1,s2⟩ hk=>⟨e,s1.at λo q=>hk it (by simp) o q,s2.at λo q=>hk l (by simp) o q⟩
 item:=λi s Q E hi st hQ=>absurd st.1 (by omega)
 done:=λs Q E st hE=>vZ hh st.2.1 st.2.2 (by simp [hj]) hE
theorem Ed{K:jb}{x1:Nat}(e it l:jf)(hne:e≠it)(n0:Nat) :
 db P w K (.Tuple elts x1 tpos) (mW K n0 l) [e,it] e (λi h=>(∃old,IsEnum h e it ((n0+i:Nat):Int) old)/\h.IsListIter it l i) where
 mem:=by simp
 obj:=λi h st b hb=>by
  obtain⟨⟨old,he⟩,o,ho,hc,hd⟩:=st;simp at hb;rcases hb with rfl|rfl
  . exact ⟨_, he, fun v z => by
     have z':O0 _=oS v:=z;cases z'⟩
  . exact⟨o,ho,λv z=>by rw [hd]at z;cases z⟩
 keep:=λi h h' st k=>by
  obtain⟨⟨old,he⟩,s1⟩:=st;exact⟨⟨old,k e (by simp) _ he⟩,s1.at λo q=>k it (by simp) o q⟩
 item:=by
  intro X hP hw hK hc i pins s σ H E I hf st hg;subst hP hw hK;obtain⟨⟨old,he⟩,st⟩:=st;obtain⟨xs,x,hq,hx⟩:=hg;obtain⟨its,rv,p,hz⟩:=I.list hq;obtain⟨u,hu,ru⟩:=rv.get hx;have hi:i<its.length:=(jL.mp hu).1;obtain⟨e0,e1,e2,e3,e4,e5⟩:=hf e (by simp);obtain⟨f0,f1,f2,f3,f4,f5⟩:=hf it (by simp)
  have hLe:l≠e:=by
   rintro rfl
   obtain⟨o,ho,hcl,_⟩:=p.isList;have he':s.heap.get? l=ja _:=he;rw [he']at ho;cases ho;exact absurd (show uv "enumerate" = uv "list" from hcl) (by decide)
  have hLi:l≠it:=by
   rintro rfl
   obtain⟨o,ho,hcl,_⟩:=p.isList;obtain⟨o',ho',hcl',_⟩:=id st;rw [ho]at ho';cases ho';rw [hcl]at hcl';exact absurd hcl' (by decide)
  have D:=Eb (prog:=X.prog) (w:=X.w) (A:=X.A.in1) (I.ok.hd hc) it l hLi its.toArray n0;refine vI D he ⟨i,rfl,st,p.isList⟩ (by simp;omega) hne (by simp [hne,qF hLe]) λy h' tk hP ho st' hT hsz hk => ?_
  obtain⟨j,ej,hy⟩:=hP;have ej':j=i:=by omega
  subst ej'
  have hyu:y=u:=by
   have:its[j]? = ja y:=by simpa using hy
   rw [hu]at this;exact(jx this).symm
  subst hyu;refine⟨_,rfl,va ho λh2 he2 hs2 => ?_⟩;have hs2:ug e h' h2:=hs2;have hTl:e<s.heap.objs.size:=jw he;obtain⟨j',ej2,st'',_⟩:=st';have ej3:j'=j+1:=by omega
  subst ej3;have hT2:h2.get? s.heap.objs.size=ja { cls := .type "tuple",data := .seq #[.int ((n0+j:Nat):Int) tk,y] }:=(hs2.2 _ (yG hTl)).trans hT;have k2:∀b o,b≠e->b≠it->s.heap.get? b=ja o->h2.get? b=ja o:=λb o hb hb' q=>(hs2.2 b hb).trans (hk b o hb hb' q)
  have hTn:H s.heap.objs.size=none:=I.hok.fresh (jz _);have neT:∀b o,s.heap.get? b=ja o->b≠s.heap.objs.size:=λb o q=>jU (jw q)
  have I2:Inv X pins σ (aV H s.heap.objs.size (.tup [.int ((n0+j:Nat):Int),x])) { s with heap:=h2,toks:=tk+1 }:=by
   refine I.step (g':=s.gens) (d':=s.drawn) (ch:=[e,it]) (λb hb => ?_) (λb o _ _ hcb q _ => ?_) (λb o _ _ hcb q _ => ?_) (λb o hcb q n => ?_) (λb o hcb q => ?_) (λb xs q => ?_) (λb o v q => ?_) (λb ps q => ?_) (λm hm => ?_) (λb o q => ?_) I.bare
   . simp at hb
     rcases hb with rfl|rfl
     . exact⟨e3,e1,e4,e5⟩
     . exact⟨f3,f1,f4,f5⟩
   . simp at hcb
     exact k2 b o hcb.1 hcb.2 q
   . simp at hcb
     exact⟨o.slots,k2 b o hcb.1 hcb.2 q⟩
   . rw [Zn (neT b o q)]
     exact n
   . simp at hcb
     exact⟨o,k2 b o hcb.1 hcb.2 q⟩
   . rw [Zn (Yq q hTn)]
     exact q
   . rw [Zn (Yq q hTn)]
     exact q
   . exact⟨#[],by rw [Zn (Yq q hTn),q];simp⟩
   . obtain⟨o,es,ep,q,r⟩:=hm
     exact⟨o,es,ep,k2 _ o (qF e1) (qF f1) q,r⟩
   . by_cases hb:b=s.heap.objs.size
     . subst hb
       rw [ZF]at q;cases q;refine⟨by show 2<=jv;decide,[.int ((n0+j:Nat):Int) tk,y],.cons ⟨_,rfl⟩ (.cons ru .nil),?_⟩;exact⟨_,hT2,rfl,⟨_,rfl⟩,rfl⟩
     . rw [Zn hb]at q
       have nn:∀(b:jf)(o:HO),H b=ja o->b≠e/\b≠it:=λb o q=>⟨λz=>(by rw [z,e0]at q;cases q),λz=>(by rw [z,f0]at q;cases q)⟩
       refine(I.hok b o q).stay (λd v hd q' => ?_) (λd q'=>by rw [Zn (Yq q' hTn)];exact q') λd xs q'=>by rw [Zn (Yq q' hTn)];exact q'
       rcases hd with rfl|hd
       . exact k2 d v (nn d o q).1 (nn d o q).2 q'
       . exact k2 d v (nn d _ hd).1 (nn d _ hd).2 q'
  have he3:IsEnum h2 e it ((n0+(j+1):Nat):Int) y:=by
   have:((n0+(j+1):Nat):Int)=((n0+j:Nat):Int)+1:=by push_cast;omega
   rw [this];exact he2
  refine⟨.ref s.heap.objs.size,_,I2,rfl,⟨x,s.heap.objs.size,λys hy=>by rw [I.list_inj hy hq];exact hx,hTn,rfl,rfl⟩,⟨⟨_,he3⟩,?_⟩,λb hb => ?_⟩
  . obtain⟨o,ho',r⟩:=st''
    exact⟨o,(hs2.2 it (qF hne)).trans ho',r⟩
  . simp at hb
    rcases hb with rfl|rfl
    . rw [Zn (jU hTl)];exact e0
    . obtain⟨o,ho',_⟩:=st
      rw [Zn (neT _ o ho')];exact f0
 done:=by
  intro X hP hw hK hc i pins s σ H E I hf st hg;subst hP hw hK;obtain⟨⟨old,he⟩,st⟩:=st;obtain⟨xs,hq,hx⟩:=hg;obtain⟨its,rv,p,hz⟩:=I.list hq;have hl:=rv.length;obtain⟨f0,f1,f2,f3,f4,f5⟩:=hf it (by simp);have D:=Ec (prog:=X.prog) (w:=X.w) (A:=X.A.in1) (I.ok.hd hc) it l its.toArray (n0+i) i (by simp;omega);exact vP D he ⟨rfl,st,p.isList⟩ λh' eb=>⟨rfl,I.turned (t':=s.toks) (λb o hb q=>eb b o hb q) f0 f1 f3 f4 f5⟩
 self:=λ_ _ _ _ _ st h=>by
  obtain⟨⟨old,he⟩,_⟩:=st;exact Oe he h
theorem Ee {M:Model} {E:jc->jg->Prop} {T:String} {as:al (Bool×Sem jc)} {kws:al (am Str×Sem jc)} {Q:jc->jg->Prop}
 (h1:as.any (·.1)=jj) (h2:kws.any (·.1.isNone)=jj)
 (h:jJ M A (evalArgs (.type T) je as kws) (λa s₁=>jJ M A (call (.type T) a.pos a.kw) Q E s₁) E s):jJ M A (callWith pos (.type T) [] as kws) Q E s:=by
 unfold callWith;refine jl (yA (aW h λa s₁ g => ?_));refine jl (uJ ?_);simp only [h1,h2,WF,ub];refine jl (jB ?_);refine jl (aW g λr s₂ hr => ?_);exact jl (yA (wpAny_point (jB hr)))
end L2
namespace DL
open PySem PySem.Spec L2
section
variable{cA:Kn}{G:Cn}{ow:al Nat}
theorem Ef{n0:Nat}(rd:bv cA.K H0 a vs)(l:aD cA iv H0 xs vs):Uv cA iv (mW cA.K n0 a) (XG n0 xs) H0:=λH s=>by
 have rd':bv cA.K H a vs:=s.seq rd;refine⟨λi hi => ?_,λi x v H' hx y => ?_,λi hi=>⟨vs,rd',by rw [Jf]at hi;rw [<-l.length];exact hi⟩⟩
 . rw [Jf]at hi
   obtain⟨v,hv,_⟩:=l.get (jQ hi);exact⟨vs,v,rd',hv⟩
 . obtain⟨z,p,hy,hp,rfl,rfl⟩:=y
   rw [mM]at hx;cases hxi:xs[i]? with
   |none=>rw [hxi]at hx;cases hx
   |some d=>
    rw [hxi]at hx;cases hx;obtain⟨v',hv,r⟩:=l.get hxi;rw [hy vs rd']at hv;cases hv;refine⟨YB hp,λav' h1 h2 => ?_⟩;unfold Rep;exact⟨p,_,rfl,λz=>h1 p z hp,ZF,.cons rfl (.cons (((r.av h2).same s).same (YB hp)) .nil)⟩
end
end DL
namespace L2
open PySem PySem.Spec PyProof.Rows
section
variable{P:jS}{w:jV}{H:Hp}{h:jX}{a:jf}
theorem eV(ok:bS P w H h)(e:Rd H a u):aZ P w H h a u:=e.ok ok
end
def wC(i:qA):Prop:=∀ov iv,subscripted i jj ov iv=operate [ov,iv] (getItem ov iv)
theorem Eg {E:jc->jg->Prop} {T id:String} {Q:jc->jg->Prop}
 (hl:Ww (.type T) "__getitem__" = pure (ja (.builtin id))) (hs:wC slice)
 (h:jJ (model prog w) A (eval value env) (λo s₁=>jJ (model prog w) A (eval slice env) (λi s₂=>s₂.TypeIs o T/\jJ (model prog w) A (getItem o i) Q E s₂) E s₁) E s) :
 jJ (model prog w) A (eval (.Subscript value slice pos) env) Q E s:=by
 refine WD (j7 h (λo s₁ h₁=>j7 h₁ (λi s₂ h₂ => ?_) λ_ _ x=>x) λ_ _ x=>x);obtain⟨hT,h₂⟩:=h₂;unfold subscriptTail;refine jl ?_;rw [getitemInPython_of_ne hT.not_modules];refine jl (wpAny_specialOf hT hl ?_)
 have fin:jJ (model prog w) A (subscripted slice jj o i) (λr s₃=>jJ (model prog w) A (letTemporaryGo value o r >>= λ_=>pure r) Q E s₃) E s₂:=by
  rw [hs o i];exact wpAny_operating (j7 h₂ (λr s₃ h₃=>jl (wpAny_letTemporaryGo (jB h₃))) λ_ _ x=>x)
 first
  |exact jB (jl fin)
  |exact jl (jB (jl fin))
  |exact jl fin
end L2
namespace L2
open PySem
theorem wD{env:Env}:∀{names:al (Str×qP)}{x:Str},(names.lookup x=ja .cell\/names.lookup x=ja .free) ->
 (names.map λ(n,k)=>if(k == qd&&env.scope.kind == .function&&env.kindOf n == ja .cell)then(n,j6)else(n,k)).lookup x=ja .cell\/(names.map λ(n,k)=>if(k == qd&&env.scope.kind == .function&&env.kindOf n == ja .cell)then(n,j6)else(n,k)).lookup x=ja .free
 | [],_,h=>by simp at h
 |(n,k)::r,x,h=>by
  have ih := @wD env r x;show jG x ((if(k == qd&&env.scope.kind == .function&&env.kindOf n == ja .cell)=je then(n,j6)else(n,k))::_)=_\/jG x ((if(k == qd&&env.scope.kind == .function&&env.kindOf n == ja .cell)=je then(n,j6)else(n,k))::_)=_;cases hx:x == n with
  |true=>
   simp only [jC,hx]at h
   by_cases hc:(k == qd&&env.scope.kind == .function&&env.kindOf n == ja .cell)=je
   . rw [if_pos hc]
     exact .inl (by simp only [jC,hx])
   . rw [if_neg hc]
     simp only [jC,hx];exact h
  |false=>
   simp only [jC,hx]at h
   by_cases hc:(k == qd&&env.scope.kind == .function&&env.kindOf n == ja .cell)=je
   . rw [if_pos hc];simp only [jC,hx];exact ih h
   . rw [if_neg hc];simp only [jC,hx];exact ih h
end L2
namespace DL
open PySem PySem.Spec L2
section
variable{G:Cn}{ow owN owB owC ow1:al Nat}
def Jj(i:Nat)(ε:Env->am D)(δ:Env):am aT:=match Za i δ,ε δ with
 |some (.lst xs),ja (.lst ys)=>if xs.length+ys.length<=jv then ja (.nx (δ.set i (ja (.lst (xs++ys)))))else none
 |_,_=>none
theorem Eh(i:Nat)(hi:ow.contains i=je)(h:VF G ow te ε):VS G ow ow owB owC (XN (gq G.1.K "list" dU (Xu i) (YG te cF))) (Jj i ε):=λH0 av A σ H δ E o e De k=>by
 unfold Jj at e
 split at e
 . rename_i xs ys hv he
   by_cases hz:xs.length+ys.length<=jv
   . rw [if_pos hz]at e
     cases e;have hi':i∈ow:=by simpa using hi
     cases hA:A i with
     |none=>exact absurd hA (E.dom' i hi')
     |some a=>
      obtain⟨v,g1,_,g3⟩:=E.var i _ (Xi hv);obtain⟨rfl,ws,q1,q2⟩:=g3 a hA;refine⟨_,g1,.inl ⟨rfl,ws,bv.of q1⟩,h H0 av A σ H δ E _ he _ λp vs zs H1 s1 hp l hd => ?_⟩;cases hd;have s2:aH H1 (aV H1 p (.lst vs)):=YB hp;have E2:=(E.mono s1).mono s2;have q1':=s2 _ _ (s1 _ _ q1);have l2:=(q2.same s1).same s2;refine⟨a,p,ws,vs,rfl,rfl,q1',ZF,by rw [<-q2.length,<-l.length];exact hz,k A σ _ (E2.put hA (Xi hv) (λb o hb e=>by rw [Zn hb];exact e) (by rw [ZF];exact λz=>by cases z) ⟨_,ZF,?_⟩)⟩
      exact(l2.append (l.same s2)).ext λb o n e=>by
       rw [Zn λz=>n (.inr ⟨i,by rw [z];exact hA⟩)];exact e
   . rw [if_neg hz]at e;cases e
 . cases e
end
end DL


namespace PySem
open Builtin SmallTypes
open AutoSeq1 (wpAny_loadPart')
theorem Ei(x:Str)(t u:Tok) :
 Meets (Builtin.«enumerate.__new__» ⟨[.type "enumerate",.str x t],[("start",.int 1 u)]⟩) (λ_ R s=>
  R (.ok (.ret (.ref (s.heap.push { cls := .type (strIterType x),data := .fields #[.str x t,.int 0 0] }).objs.size)))
   { s with heap:=(s.heap.push { cls := .type (strIterType x),data := .fields #[.str x t,.int 0 0] }).push { cls := .type "enumerate",data := .fields #[.none,.bool jj,.ref s.heap.objs.size,rawInt 1,.none,.none] } }):=
 .of_wp λP w A R s h=>by
  obtain⟨hp,gs,dr,tk,os⟩:=s;have sb:=sub_enumerate
  wp_walk using Oc
  refine W1 λfs => ?_
  refine jB ?_
  split
  . rename_i q _ _ _ _ _
    cases(q == uv "enumerate")<;>(wp_walk using Oc)
    . exact⟨_,rfl,h⟩
    . exact⟨_,rfl,h⟩
  . wp_walk using Oc
    exact⟨_,rfl,h⟩
end PySem
namespace PySem
section
variable{P:jS}{w:jV}{A:qe}{E:jc->jg->Prop}{s:jg}
theorem Ej {Q:jc->jg->Prop}
 (h:∀h',IsEnum h' (s.heap.objs.size+1) s.heap.objs.size 1 .none->h'.IsStrIter s.heap.objs.size (strIterType x) x t 0->(∀b o,s.heap.get? b=ja o->h'.get? b=ja o)->Q (.ref (s.heap.objs.size+1)) { s with heap:=h' }) :
 jJ (model P w) A (call (.type "enumerate") [.str x t] [("start",.int 1 u)]) Q E s:=by
 refine wB (Ei x t u) ?_;have hz:(s.heap.push { cls := .type (strIterType x),data := .fields #[.str x t,.int 0 0] }).objs.size=s.heap.objs.size+1:=by rw [qU]
 have e0:=jD (s.heap.push { cls := .type (strIterType x),data := .fields #[.str x t,.int 0 0] }) (o:={ cls := .type "enumerate",data := .fields #[.none,.bool jj,.ref s.heap.objs.size,rawInt 1,.none,.none] }) rfl;rw [hz]at e0;show _/\_;rw [hz];exact⟨⟨_,e0,rfl⟩,h _ e0 ⟨_,ji _ (jD _ rfl),rfl,rfl⟩ λb o x=>ji _ (ji _ x)⟩
end
end PySem
namespace L2
open PySem PySem.Spec PyProof.Rows
section
variable{X:Cx}{elts:al qA}{x1:Nat}{tpos:Pos}
def wE(K:jb)(ta:TA):TI:=λσ H R=>ta σ H λvs H1=>(∃l xs,vs=[.ref l]/\bv K H1 l xs/\R (mW K 1 l) H1)\/∃cs,vs=[S cs]/\R (mn 1 cs) H1
theorem Ek {K:jb} {a:qA} {p pos q1 q2:Pos} {k0} (hg:Gl X "enumerate") (hm:X.mg "enumerate" = none) (ha:PE X a ta) (hs:autoParam (starEach [a] X.env=[(jj,eval a X.env)]) ah) (hK:autoParam (X.K=K) ah) :
 PI X (.Tuple elts x1 tpos) (.Call (.Name "enumerate" p) [a] [⟨ja "start",.Constant (.int 1) k0 q1,q2⟩] pos) (wE K (YG ta cF)):=by
 subst hK;intro pins s σ H R I h;have e:eval (.Call (.Name "enumerate" p) [a] [⟨ja "start",.Constant (.int 1) k0 q1,q2⟩] pos) X.env=(do callWith pos (<-eval (.Name "enumerate" p) X.env) [] (backTo pos (starEach [a] X.env)) (backToKw pos (keywordEach [⟨ja "start",.Constant (.int 1) k0 q1,q2⟩] X.env))):=rfl;rw [e];refine jl (Qd I hg hm boot_enumerate ?_);refine Ee (by rw [hs];rfl) (by rfl) ?_
 refine evalArgs_kw2 (by rfl) ?_ hs;refine aW ((Zc ha Zk hs) pos pins s σ H _ I h) λus s1 z=>?_;obtain⟨vs,H1,I1,r1,qq⟩:=z
 refine aW ((Bp (e:=.Constant (.int 1) k0 q1) ZR Bo) pos pins s1 σ H1 (λks H2=>ks=[.int 1]/\H2=H1) I1 ⟨rfl,rfl⟩) λks s2 z=>?_;obtain⟨vk,H2,I2,rk,ek⟩:=z
 obtain⟨rfl,rfl⟩:=ek;obtain⟨w2,rfl,t2,rfl⟩:=YW rk;rcases qq with⟨l,xs,ev,hq,q⟩|⟨cs,ev,q⟩
 . subst ev
   obtain⟨w1,rfl,rx⟩:=YW r1;cases rx;obtain⟨its,rv,pl,hz⟩:=I2.list hq;show jJ _ _ (call (.type "enumerate") [.ref l] [("start",.int 1 t2)]) _ _ _;refine Ea pl.isList λh' he st k => ?_
   refine Oe he ?_;have I3:Inv X pins σ H2 { s2 with heap:=h' }:=I2.kept (t':=s2.toks) k;refine⟨s2.heap.objs.size+1,[s2.heap.objs.size+1,s2.heap.objs.size],_,_,H2,rfl,I3,Ed (s2.heap.objs.size+1) s2.heap.objs.size l (Wi _) 1,⟨⟨_,he⟩,st⟩,λb hb => ?_,q⟩
   have hb':s2.heap.objs.size<=b:=by
    simp at hb;rcases hb with rfl|rfl
    . exact uV _
    . exact jz _
   exact I2.fpOk hb' (I2.hok.fresh hb')
 . subst ev
   obtain⟨w1,rfl,t,rfl⟩:=YW r1;show jJ _ _ (call (.type "enumerate") [.str (tx cs) t] [("start",.int 1 t2)]) _ _ _;refine Ej λh' he st k => ?_
   refine Oe he ?_;have I3:Inv X pins σ H2 { s2 with heap:=h' }:=I2.kept (t':=s2.toks) k;refine⟨s2.heap.objs.size+1,[s2.heap.objs.size+1,s2.heap.objs.size],_,_,H2,rfl,I3,CB (s2.heap.objs.size+1) s2.heap.objs.size (Wi _) 1 cs t,⟨⟨yr _,_,he⟩,st⟩,λb hb => ?_,q⟩
   have hb':s2.heap.objs.size<=b:=by
    simp at hb;rcases hb with rfl|rfl
    . exact uV _
    . exact jz _
   exact I2.fpOk hb' (I2.hok.fresh hb')
end
end L2
namespace DL
open PySem PySem.Spec L2
section
variable{cA:Kn}{G:Cn}{ow:al Nat}
def Jk(ε:Env->am D)(δ:Env):am (al D):=match ε δ with
 |some (.lst xs)=>ja (XG 1 xs)
 |some (.str cs)=>ja (XG 1 (cs.map λc => .str [c]))
 |_=>none
theorem El(h:VE G ow ta .cl ε):VI G ow (wE G.1.K (YG ta cF)) (Jk ε):=λH0 av A σ H δ E xs e R k=>by
 unfold Jk at e;cases he:ε δ with
 |none=>rw [he]at e;cases e
 |some d=>
  rw [he]at e;cases d<;>first|(cases e;done)|skip
  . cases e
    refine h H0 av A σ H δ E _ he _ λv H1 s r => ?_
    have e1:v=S _:=r;subst e1;exact .inr ⟨_,rfl,k _ H1 s Dr⟩
  . cases e
    refine h H0 av A σ H δ E _ he _ λv H1 s r => ?_
    obtain⟨a,vs,rfl,na,rd,l⟩:=r;exact .inl ⟨a,vs,rfl,rd,k _ H1 s (Ef (mq na rd λb o n e=>by rw [Qp λ⟨i,z⟩=>n (.inr ⟨i,z⟩)];exact e) l.cut)⟩
end
end DL

namespace DL
open PySem PySem.Spec L2
def mX:al V->TA
 | []=>cF
 |v::vs=>YG (tC v) (mX vs)
theorem wF:∀{vs:al V}(Q:al V->Hp->Prop),Q vs H->mX vs σ H Q
 | [],Q,q=>q
 |v::vs,Q,q=>wF (vs:=vs) (λxs H2=>Q (v::xs) H2) q
theorem wG{K:jb}{cA:Kn}{c:String}:∀{vs:al V}{aX:al (al (String×Bool))}{bs:al Bool},cX K cA vs aX->Qt c aX=ja bs->∃cvs,(∀us,aR vs us->us=cvs)/\vS K (.ref (cA.c c)) cvs=ja (bs.any id)
 |_,_,bs,.nil,e=>by
  cases e;exact⟨[],λus r=>by cases r;rfl,rfl⟩
 |_,_,bs,.cons h1 h2,e=>by
  unfold Qt at e
  split at e
  . rename_i b bs' e1 e2
    cases e;obtain⟨cv,hc,hk⟩:=h1 c b e1;obtain⟨cvs,hcs,hks⟩:=wG h2 e2;refine⟨cv::cvs,λus r => ?_,?_⟩
    . cases r with
      |cons r1 r2=>rw [hc _ r1,hcs _ r2]
    . unfold vS
      rw [hk];cases b with
      |true=>rfl
      |false=>exact hks
  . cases e
end DL

namespace DL
open PySem PySem.Spec L2
section
variable{cA:Kn}{G:Cn}{ow owN owB owC ow1:al Nat}{i:Nat}
mutual
def frz:D->Bool
 | .non=>je
 | .bl _=>je
 | .int _=>je
 | .str _=>je
 | .lst _=>jj
 | .tup xs=>eX xs
 | .obj _ _ xs=>eX xs
 | .dct _ _=>jj
 | .dtt _ _=>jj
 | .exc _ _=>jj
 | .clo _ _=>jj
def eX:al D->Bool
 | []=>je
 |x::xs=>frz x&&eX xs
end
mutual
theorem Rep.frz{av av':jf->Prop}{H:Hp}:∀{d:D}{v:V},frz d=je->(∀b,av' b->av b\/∃vs,H b=ja (.lst vs))->Rep cA av H d v->Rep cA av' H d v
 | .non,_,_,_,h=>h
 | .bl _,_,_,_,h=>h
 | .int _,_,_,_,h=>h
 | .str _,_,_,_,h=>h
 | .lst xs,v,hf,k,h=>by cases hf
 | .tup xs,v,hf,k,h=>by
  unfold DL.frz at hf;unfold Rep at h ⊢;obtain⟨a,vs,e,n,r,l⟩:=h;exact⟨a,vs,e,λz=>(k a z).elim n (by rw [r];exact λ⟨_,z⟩=>by cases z),r,aD.frz hf k l⟩
 | .obj c ks xs,v,hf,k,h=>by
  unfold DL.frz at hf;unfold Rep at h ⊢;obtain⟨a,dx,vs,e,n,r,z,l⟩:=h;exact⟨a,dx,vs,e,λz=>(k a z).elim n (by rw [r];exact λ⟨_,z⟩=>by cases z),r,z,aD.frz hf k l⟩
 | .dct ks xs,v,hf,k,h=>by cases hf
 | .dtt ks xs,v,hf,k,h=>by cases hf
 | .exc c r,v,hf,k,h=>by cases hf
 | .clo c r,v,hf,k,h=>by cases hf
theorem aD.frz{av av':jf->Prop}{H:Hp}:∀{xs:al D}{vs:al V},eX xs=je->(∀b,av' b->av b\/∃vs,H b=ja (.lst vs))->aD cA av H xs vs->aD cA av' H xs vs
 | [],_,_,_,h=>h
 |x::xs,vs,hf,k,h=>by
  unfold DL.eX at hf;rw [jF]at hf;unfold aD at h ⊢;obtain⟨v,r,e,h1,h2⟩:=h;exact⟨v,r,e,Rep.frz hf.1 k h1,aD.frz hf.2 k h2⟩
end
end
section
variable{G:Cn}{ow owN owB owC ow1:al Nat}
def Uw(γ:D->Env->am Env)(ε:Env->am D)(δ:Env):am aT:=match ε δ with
 |some d=>match γ d δ with
  |some δ'=>ja (.nx δ')
  |none=>none
 |none=>none
theorem wH(h:VE G ow te .cl ε)(hg:VG G ow ow g γ):VS G ow ow owB owC (Uj te g) (Uw γ ε):=λH0 av A σ H δ E o e De k=>by
 unfold Uw at e;cases he:ε δ with
 |none=>rw [he]at e;cases e
 |some d=>
  rw [he]at e;dsimp only at e;cases hγ:γ d δ with
  |none=>rw [hγ]at e;cases e
  |some δ'=>
   rw [hγ]at e;cases e;refine h H0 av A σ H δ E d he _ λv H1 s1 r1 => ?_
   exact hg H0 av A σ H1 δ (E.mono s1) d v (bf.r r1) δ' hγ _ λA' σ' H' s' E'=>k A' σ' H' E'
end
end DL
namespace L2
open PySem PySem.Spec PyProof.Rows
theorem Jl{x:Str}{c:jf}:∀(names:al (Str×qP))(n:Nat)(acc:al (Str×jf)),(cellsFrom n names acc).lookup x=ja c->(n<=c/\(x,j6)∈names)\/acc.lookup x=ja c
 | [],n,acc,h => .inr h
 |(y,k)::r,n,acc,h=>by
  unfold cellsFrom at h
  by_cases hk:(k == .cell)=je
  . rw [if_pos hk]at h
    have hk':k = .cell:=by simpa using hk
    subst hk';rcases Jl r (n+1) _ h with⟨h1,h2⟩|h1
    . exact .inl ⟨by omega,jq _ h2⟩
    . rw [jC]at h1
      cases hx:x == y with
      |true=>
       rw [hx]at h1;have e:n=c:=jx h1;have e2:x=y:=eq_of_beq hx;subst e2;exact .inl ⟨by omega,jr⟩
      |false=>rw [hx]at h1;exact .inr h1
  . rw [if_neg hk]at h
    rcases Jl r n acc h with⟨h1,h2⟩|h1
    . exact .inl ⟨h1,jq _ h2⟩
    . exact .inr h1
theorem mY{x:Str}{c:jf}:∀(names:al (Str×qP))(n:Nat)(acc:al (Str×jf)),(x,j6)∈names->(cellsFrom n names acc).lookup x=ja c->n<=c
 |(y,k)::r,n,acc,hm,h=>by
  unfold cellsFrom at h
  by_cases hk:(k == .cell)=je
  . rw [if_pos hk]at h
    rcases jp.mp hm with e|e
    . cases e
      rcases Jl r (n+1) _ h with⟨h1,_⟩|h1
      . omega
      . rw [jC]at h1
        simp at h1;exact uN h1
    . have:=mY r (n+1) _ e h
      omega
  . rw [if_neg hk]at h
    rcases jp.mp hm with e|e
    . cases e
      exact absurd rfl hk
    . exact mY r n acc e h
theorem cellsFrom_some{x:Str}:∀(names:al (Str×qP))(n:Nat)(acc:al (Str×jf)),((x,j6)∈names\/∃c,acc.lookup x=ja c)->∃c,(cellsFrom n names acc).lookup x=ja c
 | [],n,acc,h=>h.elim (λz=>nomatch z) id
 |(y,k)::r,n,acc,h=>by
  unfold cellsFrom
  by_cases hk:(k == .cell)=je
  . rw [if_pos hk]
    refine cellsFrom_some r (n+1) _ ?_;cases hx:x == y with
    |true=>exact .inr ⟨n,by rw [jC,hx]⟩
    |false=>
     rcases h with h|⟨c,h⟩
     . rcases jp.mp h with e|e
       . cases e
         simp at hx
       . exact .inl e
     . exact .inr ⟨c,by rw [jC,hx];exact h⟩
  . rw [if_neg hk]
    refine cellsFrom_some r n acc ?_;rcases h with h|h
    . rcases jp.mp h with e|e
      . cases e
        exact absurd rfl hk
      . exact .inl e
    . exact .inr h
theorem mZ{x:Str}:∀(names:al (Str×qP))(n:Nat)(acc:al (Str×jf)),(x,j6)∉names->(cellsFrom n names acc).lookup x=acc.lookup x
 | [],_,_,_=>rfl
 |(y,k)::r,n,acc,h=>by
  unfold cellsFrom;have hr:(x,j6)∉r:=λz=>h (jq _ z)
  by_cases hk:(k == .cell)=je
  . rw [if_pos hk,mZ r (n+1) _ hr,jC]
    have hk':k = .cell:=by simpa using hk
    cases hx:x == y with
    |true=>
     have e2:x=y:=eq_of_beq hx;exact absurd (by rw [e2,hk'];exact jr) h
    |false=>rfl
  . rw [if_neg hk]
    exact mZ r n acc hr
theorem m4{x y:Str}{c:Nat}:∀(names:al (Str×qP))(n:Nat)(acc:al (Str×jf)),(∀(z:Str)(d:Nat),acc.lookup z=ja d->d<n)->n<=c->(cellsFrom n names acc).lookup x=ja c->(cellsFrom n names acc).lookup y=ja c->x=y
 | [],n,acc,ha,hn,h1,h2=>by
  have:=ha x c h1;omega
 |(z,k)::r,n,acc,ha,hn,h1,h2=>by
  unfold cellsFrom at h1 h2
  by_cases hk:(k == .cell)=je
  . rw [if_pos hk]at h1 h2
    by_cases hc:c=n
    . subst hc
      have one:∀{w:Str},(cellsFrom (c+1) r ((z,c)::acc)).lookup w=ja c->w=z:=λ{w} hw=>by
       rcases Jl r (c+1) _ hw with⟨q,_⟩|q
       . omega
       . rw [jC]at q
         cases hx:w == z with
         |true=>exact eq_of_beq hx
         |false=>
          rw [hx]at q;have:=ha w c q;omega
      rw [one h1,one h2]
    . refine m4 r (n+1) _ (λw d hw => ?_) (by omega) h1 h2
      rw [jC]at hw;cases hx:w == z with
      |true=>rw [hx]at hw;have e:n=d:=jx hw;exact Nat.lt_succ_of_le (uN e.symm)
      |false=>rw [hx]at hw;exact OV (ha w d hw)
  . rw [if_neg hk]at h1 h2
    exact m4 r n acc ha hn h1 h2
theorem m5{lo:Nat}:∀(names:al (Str×qP))(h:jX)(acc:al (Str×jf)),(∀z d,acc.lookup z=ja d->lo<=d->h.IsCell d none)->∀{x:Str}{c:jf},(cellsFrom h.objs.size names acc).lookup x=ja c->lo<=c->(pushCells h names).IsCell c none
 | [],h,acc,ha,x,c,h1,h2=>ha x c h1 h2
 |(z,k)::r,h,acc,ha,x,c,h1,h2=>by
  unfold cellsFrom at h1;unfold pushCells
  by_cases hk:(k == .cell)=je
  . rw [if_pos hk]at h1 ⊢
    have e:h.objs.size+1=(h.push { cls := .type "cell",data := .cell none }).objs.size:=(qU ..).symm;rw [e]at h1;refine m5 r _ _ (λw d hw hd => ?_) h1 h2;rw [jC]at hw;cases hx:w == z with
    |true=>
     rw [hx]at hw;have q:h.objs.size=d:=jx hw;rw [<-q];exact⟨_,jD _ rfl,rfl⟩
    |false=>
     rw [hx]at hw;exact(ha w d hw hd).keeps λb o e=>ji _ e
  . rw [if_neg hk]at h1 ⊢
    exact m5 r h acc ha h1 h2
theorem Em {M:Model} {E:jc->jg->Prop} {s:jg} {scope:qH} {closure:al (Str×jf)} {code:jc} {outer:Env} {Q:Env->jg->Prop}
 (hQ:Q (newEnv scope s.heap.objs.size globals (cellsFrom (s.heap.objs.size+1) scope.names closure) qual func code (ja outer) builtins) { s with heap:=pushCells (s.heap.push { cls := .type "dict",data := .dict #[] }) scope.names }) :
 jJ M A (newFunctionEnv scope globals closure [] qual func code (ja outer) builtins) Q E s:=by
 simp only [newFunctionEnv,Option.isSome_some,if_true];refine jl (wpAny_alloc ?_);refine jl (wpAny_layCells _ (λname kind cells=>by cases hkc:kind == j6<;>simp [hkc]) _ _ _ _ ?_);rw [show({ s with heap:=s.heap.push { cls := .type "dict",data := .dict #[] } }:jg).heap.objs.size=s.heap.objs.size+1 from qU ..];simp only [List.forIn_nil];exact jl (jB (jB hQ))
structure aQ(X:Cx)(scope:qH)(tn cn:List Str)(js:List Nat):Prop where
 kind:scope.kind = .function
 own:∀y∈scope.names,y.2 = .cell->scope.names.lookup y.1=ja .cell
 names:∀y∈scope.names,y.2 = .local->scope.names.lookup y.1=ja .local
 free:∀y∈scope.names,y.2 = .free->X.env.kindOf y.1=ja .cell\/X.env.kindOf y.1=ja .free
 cap:∀(k:Nat)(x:Str),cn[k]? = ja x->∃j,js[k]? = ja j/\X.N[j]? = ja x/\(X.env.kindOf x=ja .cell\/X.env.kindOf x=ja .free)/\scope.names.lookup x=ja .free
 len:cn.length=js.length
noncomputable def UT(onames:al (Str×qP))(oN:al Str)(names:al (Str×qP))(cn:al Str)(js:al Nat):Bool:=
 names.all (λy => !(y.2 == .cell)||(names.lookup y.1 == ja .cell))&&names.all (λy => !(y.2 == .local)||(names.lookup y.1 == ja .local)) &&
 names.all (λy => !(y.2 == .free)||(onames.lookup y.1 == ja .cell||onames.lookup y.1 == ja .free)) &&
 ((cn.zip js).all λp=>oN[p.2]? == ja p.1&&(onames.lookup p.1 == ja .cell||onames.lookup p.1 == ja .free)&&names.lookup p.1 == ja .free)&&(cn.length == js.length)
theorem aQ.mk'{X:Cx}{scope:qH}{tn cn:al Str}{js:al Nat}{osc:qH}{oN:al Str}(hk:scope.kind = .function)(ho:X.env.scope=osc)(hN:X.N=oN)(h:UT osc.names oN scope.names cn js=je):aQ X scope tn cn js:=by
 unfold UT at h;simp only [jF]at h;obtain⟨⟨⟨⟨h1,h2⟩,h3⟩,h4⟩,h5⟩:=h;rw [jR]at h1 h2 h3 h4;have hlen:cn.length=js.length:=by simpa using h5
 refine⟨hk,λy hy e => ?_,λy hy e => ?_,λy hy e => ?_,λk x e => ?_,hlen⟩
 . have:=h1 y hy
   simpa [e]using this
 . have:=h2 y hy
   simpa [e]using this
 . have:=h3 y hy
   unfold vU;rw [ho];simpa [e]using this
 . have hkl:k<cn.length:=(jL.mp e).1
   have hkj:k<js.length:=by omega
   refine⟨js[k],by simp [hkj],?_⟩
   have hz:(x,js[k])∈cn.zip js:=by
    have e2:(cn.zip js)[k]? = ja (x,js[k]):=by
     rw [oz];exact⟨e,by simp [hkj]⟩
    exact qK e2
   have:=h4 _ hz;unfold vU;rw [ho,hN];simp only [jF,uG,beq_iff_eq]at this;exact⟨this.1.1,this.1.2,this.2⟩
def UU(X:Cx)(scope:qH)(C:jf):al (Str×jf):=cellsFrom (C+1) scope.names (Xh X.env.cells scope.names [])
def YZ(X:Cx)(scope:qH)(N':al Str)(C:jf)(s₂:jg)(H₂:Hp)(fp:al jf)(xe:jc->jg->Prop):Cx:=
 { X with N:=N',s₀:=s₂,H₀:=H₂,env:=compEnvC scope (UU X scope C) C X.env,outer:=X.stack,ex:=fp,fn:=λx=>scope.names.lookup x == ja .cell,pn:=[],xe:=xe }
section
variable{X:Cx}{pins:al (jf×Obj)}{σ:St}{H₂:Hp}{s₂:jg}{scope:qH}{tn cn:al Str}{js:al Nat}
theorem aQ.clos(S:aQ X scope tn cn js)(ok:X.Ok):∀y∈scope.names,y.2 = .free->∃c,X.env.cells.lookup y.1=ja c:=λy hy e=>ok.has y.1 (S.free y hy e)
theorem UV{C:jf}(S:aQ X scope tn cn js)(ok:X.Ok){x:Str}{c:jf}(h:(UU X scope C).lookup x=ja c):(C+1<=c/\(x,j6)∈scope.names)\/X.env.cells.lookup x=ja c:=by
 rcases Jl _ _ _ h with q|q
 . exact .inl q
 . exact .inr (Q4 _ [] (S.clos ok) (λ_ z=>by cases z) q)
theorem m6{env:Env}:∀{names:al (Str×qP)}{x:Str}{k:qP},(names.map λ(n,k)=>if(k == qd&&env.scope.kind == .function&&env.kindOf n == ja .cell)then(n,j6)else(n,k)).lookup x=ja k ->
 (k = .cell\/k = .free)->(x,qd)∈names\/(x,j6)∈names
 | [],_,_,h,_=>by simp at h
 |(n,k0)::r,x,k,h,hk=>by
  have ih := @m6 env r x k;have more:((x,qd)∈r\/(x,j6)∈r)->(x,qd)∈(n,k0)::r\/(x,j6)∈(n,k0)::r:=λz=>z.elim (λz => .inl (jq _ z)) λz => .inr (jq _ z)
  have h:jG x ((if(k0 == qd&&env.scope.kind == .function&&env.kindOf n == ja .cell)=je then(n,j6)else(n,k0))::_)=_:=h
  by_cases hb:(k0 == qd&&env.scope.kind == .function&&env.kindOf n == ja .cell)=je
  . rw [if_pos hb,jC]at h
    have e0:k0 = .free:=by
     simp only [jF]at hb;simpa using hb.1.1
    cases hx:x == n with
    |true=>
     have e:x=n:=eq_of_beq hx;subst e;subst e0;exact .inl jr
    |false=>
     rw [hx]at h;exact more (ih h hk)
  . rw [if_neg hb,jC]at h
    cases hx:x == n with
    |true=>
     rw [hx]at h;have e:x=n:=eq_of_beq hx;have e0:k0=k:=jx h;subst e;subst e0;rcases hk with hk|hk
     . subst hk;exact .inr jr
     . subst hk;exact .inl jr
    |false=>
     rw [hx]at h;exact more (ih h hk)
theorem En{C:jf}{fp:al jf}{xe:jc->jg->Prop}(S:aQ X scope tn cn js)(I:Inv X pins σ H₂ s₂)(hC:s₂.heap.objs.size<=C)(hf:∀b∈fp,XA X pins H₂ b)(ho:∀b∈fp,∃o,s₂.heap.get? b=ja o/\∀v,o.data ≠ .cell v) :
 (YZ X scope (tn++cn) C s₂ H₂ fp xe).Ok where
 mod:=I.ok.mod
 kind:=S.kind
 glob:=I.ok.glob
 blt:=I.ok.blt
 above:=hC
 inj:=λx y c h1 h2=>by
  have old:∀{x:Str}{c:Nat},X.env.cells.lookup x=ja c->Nat.lt c C:=λ{x c} h=>by
   obtain⟨v,o,q,_⟩:=I.cell x c h;exact jA (jw q) hC
  rcases UV S I.ok h1 with⟨q1,_⟩|q1
  . exact m4 scope.names (C+1) _ (λz d hz=>OV (old (Q4 _ [] (S.clos I.ok) (λ_ z=>by cases z) hz))) q1 h1 h2
  . rcases UV S I.ok h2 with⟨q2,_⟩|q2
    . exact absurd (jA (OV (old q1)) q2) (qV _)
    . exact I.ok.inj x y c q1 q2
 has:=λx hx=>by
  have hm:(x,qd)∈scope.names\/(x,j6)∈scope.names:=by
   rcases hx with hx|hx
   . exact m6 (env:=X.env) (k:=.cell) hx (j8 (Eq.refl j6))
   . exact m6 (env:=X.env) (k:=.free) hx (qg (Eq.refl qd))
  refine cellsFrom_some _ _ _ ?_;rcases hm with hm|hm
  . exact .inr (lT _ _ (.inl hm))
  . exact .inl hm
 cab:=λx c h1 h2=>by
  have e:scope.names.lookup x=ja .cell:=by
   have q:(scope.names.lookup x == ja .cell)=true:=h1;simpa using q
  exact jK hC (yP (mY _ _ _ (j4 e) h2))
 hd:=I.ok.hd
 frames:=I.ok.frames
 stk := .inl rfl
 exf:=λb hb=>by
  obtain⟨o,e,_⟩:=ho b hb;obtain⟨_,_,_,_,f4,_⟩:=hf b hb;have hbC:b<C:=jA (jw e) hC;refine⟨jU hbC,λx c h => ?_⟩;rcases UV S I.ok h with⟨q,_⟩|q
  . exact yG (jA hbC (yP q))
  . exact f4 x c q
 bs:=I.bs
 bsz:=jK I.ok.bsz I.sz
 noex:=λb o e hb=>by
  obtain⟨_,_,_,f3,_,_⟩:=hf b hb;rcases f3 with z|z
  . exact I.ok.noex b o e z
  . exact absurd (jA (jw (I.ok.bs b o e).1) z) (qV _)
 exfs:=λb hb z=>by
  obtain⟨_,f1,f2,_,_,_⟩:=hf b hb;exact(jp.mp (I.stkSub b z)).elim f1 f2
 funs:=I.stack
 frf:=I.stkFree
 tb:=I.tabs
theorem wI {fp:al jf} {s:jg} (S:aQ X scope tn cn js) (I:Inv X pins σ H₂ s₂) (hf:∀b∈fp,XA X pins H₂ b)
 (u:Un (bI X.stack) fp H₂ H s₂.heap s.heap) :
 ∀(i:Nat)(x:Str)(v:V),(tn++cn)[i]? = ja x->(eo tn.length σ js)[i]? = ja (ja v)->∃z,RelV v z/\ro (compEnvC scope (UU X scope C) C X.env) s.heap m x z:=by
 intro i x v e1 e2;unfold eo at e2
 by_cases hi:i<tn.length
 . rw [qp (by simpa using hi),yg,if_pos hi]at e2
   cases e2
 . have hi':tn.length<=i:=by omega
   rw [qj hi']at e1;rw [qj (by simpa using hi'),jP]at e2;obtain⟨j,hj,hN,hk,hm⟩:=S.cap _ _ e1;unfold cM at e2;rw [j9,hj]at e2;have e3:(σ[j]?).getD none=ja v:=jx e2
   have e4:σ[j]? = ja (ja v):=by
    cases q:σ[j]? with
    |none=>rw [q]at e3;cases e3
    |some z=>rw [q]at e3;exact congrArg ja e3
   obtain⟨m0,_,hl⟩:=I.loc
   have hv:fZ X.env.scope x:=by
    rcases hk with hk|hk
    . exact .inr (.inl hk)
    . exact .inr (.inr hk)
   obtain⟨z,rz,l⟩:=hl j x v hN e4 hv;refine⟨z,rz,?_⟩
   obtain⟨c,hc,ob,ho,hd⟩:∃c,X.env.cells.lookup x=ja c/\s₂.heap.IsCell c (ja z):=by
    rcases l with⟨k,_⟩|⟨_,c,hc,q⟩
    . rcases hk with hk|hk
      . rw [hk]at k;cases k
      . rw [hk]at k;cases k
    . exact⟨c,hc,q⟩
   have hnc:(x,j6)∉scope.names:=λz=>by
    have q:=S.own _ z rfl;have q:scope.names.lookup x=ja .cell:=q;rw [hm]at q;cases q
   obtain⟨c',hc'⟩:=lT (cells:=X.env.cells) (x:=x) scope.names [] (.inl (j4 hm));have hcY:(UU X scope C).lookup x=ja c':=(mZ _ _ _ hnc).trans hc'
   have ec:c'=c:=by
    have:=Q4 _ [] (S.clos I.ok) (λ_ z=>by cases z) hc';rw [hc]at this;exact(jx this).symm
   subst ec;have nf:c'∉fp:=λhb=>(hf c' hb).2.2.2.2.1 x c' hc rfl
   obtain⟨sl,q⟩:=u.any ho (I.freeC x c' hc) nf;exact .inr ⟨sU hm,c',hcY,⟨_,q,hd⟩⟩
theorem wJ(S:aQ X scope tn cn js):(eo tn.length σ js).length=(tn++cn).length:=by
 unfold eo cM;rw [jt,jt,jP,jk,S.len]
theorem Eo {fp:al jf} {xe:jc->jg->Prop} (S:aQ X scope tn cn js) (I:Inv X pins σ H₂ s₂) (hf:∀b∈fp,XA X pins H₂ b)
 (I':Inv (YZ X scope (tn++cn) C s₂ H₂ fp xe) pins' σ' H s):Inv (YZ X scope (tn++cn) C s₂ H₂ fp xe) pins' (eo tn.length σ js) H s:=by
 obtain⟨m,hn,_⟩:=id I'.loc;exact⟨I'.ok,I'.os,I'.bare,I'.base,⟨m,hn,λi x v e1 e2 _=>wI S I hf I'.base i x v e1 e2⟩,I'.cell,I'.free,I'.freeC,I'.pin,I'.hok,wJ S,I'.fzs⟩
theorem Er {C D:jf} {fp:al jf} {xe:jc->jg->Prop} {h:jX} {tk:Nat} {ob:Obj} (S:aQ X scope tn cn js) (I:Inv X pins σ H₂ s₂) (hC:s₂.heap.objs.size<=C) (hD:s₂.heap.objs.size<=D) (hDC:D≠C)
 (hf:∀b∈fp,XA X pins H₂ b) (ho:∀b∈fp,∃o,s₂.heap.get? b=ja o/\∀v,o.data ≠ .cell v) (k:∀b o,s₂.heap.get? b=ja o->h.get? b=ja o) (hn:h.Ns C m) (hob:h.get? D=ja ob) (hcell:∀v,ob.data ≠ .cell v) (hcs:∀x c,(UU X scope C).lookup x=ja c->C+1<=c->h.IsCell c none) :
 Inv (YZ X scope (tn++cn) C s₂ H₂ fp xe) [(D,ob)] (eo tn.length σ js) H₂ { s₂ with heap:=h,toks:=tk }:=by
 have ok:=En (xe:=xe) S I hC hf ho;have u:Un (bI X.stack) fp H₂ H₂ s₂.heap h:=Un.kept k;refine⟨ok,rfl,I.bare,u,⟨m,hn,λi x v e1 e2 _=>wI (s:={ s₂ with heap:=h,toks:=tk }) S I hf u i x v e1 e2⟩,λx c e => ?_,I.hok.fresh hC,λx c e => ?_,λp hp => ?_,I.hok.kept k,wJ S,I.fzs⟩
 . rcases UV S I.ok e with⟨z,_⟩|z
   . exact⟨none,hcs x c e z⟩
   . obtain⟨v,o,q,d⟩:=I.cell x c z
     exact⟨v,o,k c o q,d⟩
 . rcases UV S I.ok e with⟨z,_⟩|z
   . exact I.hok.fresh (jK hC (yP z))
   . exact I.freeC x c z
 . have e : p = (D, ob) := by
    have:p∈([]:al (jf×Obj))++[(D,ob)]:=hp;simpa using this
   subst e;refine⟨hob,I.hok.fresh hD,hDC,λz => ?_,hcell⟩;have z:D∈bI X.stack:=z;rcases jp.mp (I.stkSub D z)with e|e
   . exact absurd (jA I.lt (by rw [<-e];exact hD)) (qV _)
   . exact I.nofs hD e
theorem m7 {C D:jf} {fp:al jf} {xe:jc->jg->Prop} {s:jg} {ys:al V} {its:al jc} {n:Nat} {h':jX} (S:aQ X scope tn cn js) (I:Inv X pins σ H₂ s₂) (hC:s₂.heap.objs.size<=C) (hD:s₂.heap.objs.size<=D) (hDC:D≠C)
 (hf:∀b∈fp,XA X pins H₂ b) (I':Inv (YZ X scope (tn++cn) C s₂ H₂ fp xe) [(D,{ cls := .type "list",data := .seq its.toArray n })] σ' H s) (hv:aR ys its) (hz:ys.length<=jv) (hs:ug C s.heap h') :
 Inv X pins σ (aV H D (.lst ys)) { s with heap:=h' }:=by
 have pd:=I'.pin (D,{ cls := .type "list",data := .seq its.toArray n }) (jO _ jr);have pd1:s.heap.get? D=ja { cls := .type "list",data := .seq its.toArray n }:=pd.1;have pd2:H D=none:=pd.2.1;have hD':h'.get? D=ja { cls := .type "list",data := .seq its.toArray n }:=(hs.2 D hDC).trans pd1;have hCf:H C=none:=I'.free;have old:∀b o,s₂.heap.get? b=ja o->b≠C/\b≠D:=λb o e=>⟨jU (jA (jw e) hC),jU (jA (jw e) hD)⟩
 have u:=I'.base;have u:Un (bI X.stack) fp H₂ H s₂.heap s.heap:=u;refine I.call' (s':={ s with heap:=h' }) (ch:=fp) (H':=aV H D (.lst ys)) I'.os ⟨λb o e n hb hx => ?_,λb o e n hb hx => ?_,λb o e n hx => ?_,λb o e hx => ?_,λb xs e => ?_,λb o xs e => ?_,λb ps e => ?_⟩ (λb o e => ?_) I'.bare (λb hb => ?_)
 . exact(hs.2 b (old b o e).1).trans (u.keep b o e n hb hx)
 . obtain⟨sl,q⟩:=u.slot b o e n hb hx
   exact⟨sl,(hs.2 b (old b o e).1).trans q⟩
 . rw [Zn (old b o e).2]
   exact u.free b o e n hx
 . obtain⟨o',q⟩:=u.there b o e hx
   exact⟨o',(hs.2 b (old b o e).1).trans q⟩
 . have q:=u.tups b xs e
   rw [Zn (Yq q pd2)];exact q
 . have q:=u.frzs b o xs e
   rw [Zn (Yq q pd2)];exact q
 . obtain⟨more,q⟩:=u.tbls b ps e
   exact⟨more,by rw [Zn (Yq q pd2)];exact q⟩
 . by_cases hb:b=D
   . subst hb
     rw [ZF]at e;cases e;exact⟨hz,its,n,hv,hD'⟩
   . rw [Zn hb]at e
     refine(I'.hok b o e).stay (λc v hc q=>(hs.2 c ?_).trans q) (λc q=>by rw [Zn (Yq q pd2)];exact q) λc xs q=>by rw [Zn (Yq q pd2)];exact q
     rintro rfl
     rcases hc with rfl|hc
     . rw [hCf]at e;cases e
     . rw [hCf]at hc;cases hc
 . obtain⟨f0,f1,f2,f3,f4,f5⟩:=hf b hb
   exact⟨f3,f1,f4,f5⟩
end
section
variable{X:Cx}{tg iter elt:qA}{ifs:al qA}{scope:qH}{pos:Pos}{wi:TI}{g:TG}{tt:TT}{te:TE}{tn cn:al Str}{js:al Nat}
abbrev UW(X:Cx)(scope:qH)(N':al Str)(C:jf)(s₂:jg)(H₂:Hp)(fp:al jf):Cx:=YZ X scope N' C s₂ H₂ fp λ_ _=>False
theorem m8{α:Type}{M:Model}{m:Sem α}{Q:α->jg->Prop}{E E':jc->jg->Prop}(hf:∀e s,E e s->E' e s)(h:jJ M A m Q E s):jJ M A m Q E' s:=j7 h (λ_ _ q=>q) hf
theorem m9 {s₂:jg} {fp:al jf} {tnx:Nat->jX->Prop} {J:It} {E:jc->jg->Prop} {RR:jc->jf->WB->jg->Prop} {W:Nat->Nat->al V->Hp->Prop} {m0:Nat} {xx:jf->jc->jg->Prop}
 (hc:X.calm=je) (S:aQ X scope tn cn js)
 (hg:∀C,PG (YZ X scope (tn++cn) C s₂ H₂ fp (xx C)) tg g) (ht:∀C,gf (YZ X scope (tn++cn) C s₂ H₂ fp (xx C)) ifs tt) (he:∀C,s₂.heap.objs.size<=C->PE (YZ X scope (tn++cn) C s₂ H₂ fp (xx C)) elt te)
 (I2:Inv X pins σ H₂ s₂) (T:db X.prog X.w X.K tg J fp it tnx) (st2:tnx 0 s₂.heap) (f2:∀b∈fp,XA X pins H₂ b) (w0:W 0 m0 [] H₂)
 (hxx:∀C D e s,s₂.heap.objs.size<=C->xx C e s->notedBy (model X.prog X.w) X.A (YZ X scope (tn++cn) C s₂ H₂ fp (xx C)).env (λe s'=>RR (.ref D) C (.error e) s') e s)
 (turn:∀i m ys H,W i m ys H->(J.stop i H/\∀C D s its n σ',s₂.heap.objs.size<=C->s₂.heap.objs.size<=D->D≠C->aR ys its->ys.length<=jv ->
   Inv (YZ X scope (tn++cn) C s₂ H₂ fp (xx C)) [(D,{ cls := .type "list",data := .seq its.toArray n })] σ' H s->RR (.ref D) C (.ok .next) s) \/
   (J.go i H/\∀x H',J.yld i H x H'->g x (eo tn.length σ js) H' λσ2 H2=>tt σ2 H2 λb H3=>
     if b=je then te σ2 H3 λy H4=>ys.length<jv/\∃m',m'<m/\W (i+1) m' (ys++[y]) H4 else ∃m',m'<m/\W (i+1) m' ys H3)) :
 jJ (model X.prog X.w) X.A (newList []) (λacc s₃=>jJ (model X.prog X.w) X.A (newFunctionEnv scope X.env.globals (Xh X.env.cells scope.names []) [] X.env.qual none .none (ja X.env)) (λcenv s₄=>
  codeAny (model X.prog X.w) X.A (.compStart (.ListComp elt [⟨tg,iter,ifs,0⟩] scope pos) 0 (.ref it) acc { cenv with scope:=relabel scope X.env }) (RR acc cenv.locals) s₄) E s₃) E s₂:=by
 refine uA (Em ?_);dsimp only;generalize hH2:s₂.heap.push { cls := .type "list",dict:=none,data := .seq ([]:al jc).toArray }=HH;have hCs:HH.objs.size=s₂.heap.objs.size+1:=by rw [<-hH2,qU]
 have hDC:s₂.heap.objs.size≠HH.objs.size:=by rw [hCs];exact jU (Ob _)
 have hC:s₂.heap.objs.size<=HH.objs.size:=by rw [hCs];exact uV _
 have hD:s₂.heap.objs.size<=s₂.heap.objs.size:=jz _;have hHe:HH.objs.size+1=(HH.push { cls := .type "dict",data := .dict #[] }).objs.size:=(qU ..).symm
 have hcs:∀x c,(UU X scope HH.objs.size).lookup x=ja c->HH.objs.size+1<=c->(pushCells (HH.push { cls := .type "dict",data := .dict #[] }) scope.names).IsCell c none:=λx c hx hc=>by
  unfold UU at hx;rw [hHe]at hx;refine m5 (lo:=HH.objs.size+1) _ _ _ (λz d hz hd => ?_) hx hc;obtain⟨v,o,q,_⟩:=I2.cell z d (Q4 _ [] (S.clos I2.ok) (λ_ z=>by cases z) hz);exact absurd (jA (jA (jw q) hC) (yP hd)) (qV _)
 have hns₁:(pushCells (HH.push { cls := .type "dict",data := .dict #[] }) scope.names).Ns HH.objs.size (λ_=>none):=(Heap.Ns.new HH (.type "dict")).keeps (oO _ _);generalize hh1:pushCells (HH.push { cls := .type "dict",data := .dict #[] }) scope.names=h₁ at hcs hns₁ ⊢
 have old:∀b o,s₂.heap.get? b=ja o->h₁.get? b=ja o:=λb o e=>by
  rw [<-hh1];exact oO _ _ b o (ji _ (hH2▸ji _ e))
 have hacc:h₁.get? s₂.heap.objs.size=ja { cls := .type "list",dict:=none,data := .seq ([]:al jc).toArray }:=by
  rw [<-hh1];exact oO _ _ _ _ (ji _ (hH2▸jD _ rfl))
 have hob:=T.obj _ _ st2
 have I3:Inv (YZ X scope (tn++cn) HH.objs.size s₂ H₂ fp (xx HH.objs.size)) [(s₂.heap.objs.size,{ cls := .type "list",dict:=none,data := .seq ([]:al jc).toArray })] (eo tn.length σ js) H₂ { s₂ with heap:=h₁ }:=
  Er (tk:=s₂.toks) S I2 hC hD hDC f2 hob old hns₁ hacc (λv z=>by cases z) hcs
 have st3:tnx 0 h₁:=T.keep _ _ _ st2 λb hb o e=>old b o e
 generalize hX':YZ X scope (tn++cn) HH.objs.size s₂ H₂ fp (xx HH.objs.size)=X' at I3;generalize hs3:({ s₂ with heap:=h₁ }:jg)=s3 at I3 ⊢;have st3':tnx 0 s3.heap:=by rw [<-hs3];exact st3
 have stat:∀{pins':al (jf×Obj)}{H':Hp},(∀b∈fp,H' b=none)->(∀p∈pins',p.1=s₂.heap.objs.size)->∀b∈fp,XA X' pins' H' b:=λ{pins' H'} hn hp b hb=>by
  subst hX';obtain⟨o,e,_⟩:=hob b hb;obtain⟨f0,f1,f2',f3,f4,f5⟩:=f2 b hb;refine⟨hn b hb,jU (jA (jw e) hC),λz=>(jp.mp (I2.stkSub b z)).elim f1 f2',.inl hb,λx c h => ?_,λp hpp => ?_⟩
  . rcases UV S I2.ok h with⟨q,_⟩|q
    . exact yG (jA (jA (jw e) hC) (yP q))
    . exact f4 x c q
  have:p∈pins':=by
   have q:p∈([]:al (jf×Obj))++pins':=hpp;simpa using q
  rw [hp p this];exact yG (jw e)
 have loop:codeAny (model X.prog X.w) X.A (.compLoop (.ListComp elt [⟨tg,iter,ifs,0⟩] scope pos) 0 (.ref it) (.ref s₂.heap.objs.size) X'.env) (RR (.ref s₂.heap.objs.size) HH.objs.size) s3:=by
  refine BS (λk s'=>∃i ys its n H',Inv X' [(s₂.heap.objs.size,{ cls := .type "list",data := .seq its n })] (eo tn.length σ js) H' s'/\aR ys its.toList/\ys.length<=jv/\tnx i s'.heap/\(∀b∈fp,H' b=none)/\W i k ys H') ?_ m0
   ⟨0,[],#[],0,H₂,I3,.nil,yr _,st3',λb hb=>(f2 b hb).1,w0⟩
  rintro k s4 ⟨i,ys,its,n,H4,I4,hv4,hz4,st4,fr4,w4⟩
  have eP:X'.prog=X.prog:=by rw [<-hX'];rfl
  have eW:X'.w=X.w:=by rw [<-hX'];rfl
  have eK:X'.K=X.K:=by rw [<-hX'];rfl
  have eA:X'.A=X.A:=by rw [<-hX'];rfl
  have eC:X'.calm=true:=by rw [<-hX'];exact hc
  have eE:X'.xe=xx HH.objs.size:=by rw [<-hX'];rfl
  have hf:∀e s,xx HH.objs.size e s->notedBy (model X.prog X.w) X.A X'.env (λe s'=>RR (.ref s₂.heap.objs.size) HH.objs.size (.error e) s') e s:=λe s h=>by rw [<-hX'];exact hxx _ _ e s hC h
  rcases turn i k ys H4 w4 with⟨stop,qn⟩|⟨go,step⟩
  . have z:=T.done X' eP eW eK eC i _ s4 (eo tn.length σ js) H4 (λ_ _=>False) I4 (stat fr4 (λp hp=>by simp at hp;rw [hp])) st4 stop
    rw [eA]at z;refine lU (aW z λr s5 Z=>?_);obtain⟨hr,I5⟩:=Z;subst hr;subst hX';exact qn _ _ s5 its.toList n _ hC hD hDC hv4 hz4 (by simpa using I5)
  . have z:=T.item X' eP eW eK eC i _ s4 (eo tn.length σ js) H4 (λ_ _=>False) I4 (stat fr4 (λp hp=>by simp at hp;rw [hp])) st4 go
    rw [eA]at z;refine lU (aW z λr s5 Z=>?_);obtain⟨u,hr,h5⟩:=Z;subst hr;refine lU (aW h5 λ_ s6 Z=>?_);obtain⟨x,H6,I6,r6,y6,st6,fr6⟩:=Z;have I6':=I6.pinned (stat fr6 (λp hp=>by simp at hp;rw [hp])) (T.obj _ _ st6);have hg':PG X' tg g:=by rw [<-hX'];exact hg _
    have ht':gf X' ifs tt:=by rw [<-hX'];exact ht _
    have he':PE X' elt te:=by rw [<-hX'];exact he _ hC
    have z7:=hg' _ s6 _ H6 x u _ I6' r6 (step x H6 y6);rw [eP,eW,eA,eE]at z7;refine m8 hf (aW z7 λ_ s7 z=>?_);obtain⟨σ7,H7,I7,q7⟩:=z;have z8:=ht' _ s7 σ7 H7 _ I7 q7;rw [eP,eW,eA,eE]at z8;refine m8 hf (aW z8 λok s8 z=>?_);obtain⟨H8,I8,q8⟩:=z
    have key:∀{σ9:St}{H9:Hp}{s9:jg}{its':Array jc}{n':Nat},Inv X' ([(s₂.heap.objs.size,{ cls := .type "list",data := .seq its' n' })]++Vp fp s6.heap) σ9 H9 s9 ->
     Inv X' [(s₂.heap.objs.size,{ cls := .type "list",data := .seq its' n' })] (eo tn.length σ js) H9 s9/\tnx (i+1) s9.heap/\∀b∈fp,H9 b=none:=λ{σ9 H9 s9 its' n'} I9=>by
     refine⟨?_,T.keep _ _ _ st6 λb hb o e=>(I9.pin (b,o) (jO _ (jO _ (J7 hb e)))).1,λb hb => ?_⟩
     . have I9':=I9.unpinned
       subst hX';exact Eo S I2 f2 I9'
     . obtain⟨o,e,d⟩:=T.obj _ _ st6 b hb
       exact(I9.pin (b,o) (jO _ (jO _ (J7 hb e)))).2.1
    cases ok with
    |false=>
     rw [if_neg jI]at q8 ⊢;obtain⟨m',hm,w8⟩:=q8;obtain⟨I9,st9,fr9⟩:=key I8;exact⟨m',hm,i+1,ys,its,n,H8,I9,hv4,hz4,st9,fr9,w8⟩
    |true=>
     rw [if_pos rfl]at q8 ⊢;have z9:=he' _ s8 σ7 H8 _ I8 q8;rw [eP,eW,eA,eE]at z9;refine m8 hf (aW z9 λv s9 z=>?_);obtain⟨y,H9,I9,r9,hl9,m',hm,w9⟩:=z;have pd:=I9.pin (s₂.heap.objs.size,{ cls := .type "list",data := .seq its n }) (jO _ (uD _ jr));have hpl:s9.heap.PlainList s₂.heap.objs.size its:=⟨n,pd.1⟩
     have hlen:its.size=ys.length:=by rw [hv4.length];simp
     refine wpAny_list_append_plain (hsz:=by omega) hpl λh10 hl10 hs10 => ?_
     obtain⟨n10,e10⟩:=hl10;have I10:Inv X' (Vp fp s6.heap) σ7 H9 s9:=I9.pins_of λp hp=>I9.pin p (jO _ (jO _ hp))
     have nD:∀b∈fp,b≠s₂.heap.objs.size:=λb hb=>by
      obtain⟨o,e,_⟩:=hob b hb;exact jU (jw e)
     have I11:Inv X' (Vp fp s6.heap) σ7 H9 { s9 with heap:=h10 }:=by
      refine I10.turned (t':=s9.toks) (it:=s₂.heap.objs.size) (λb o hb e=>(hs10.2 b hb).trans e) pd.2.1 pd.2.2.1 ?_ ?_ ?_
      . subst hX';exact .inr (jz _)
      . subst hX'
        intro x c h;rcases UV S I2.ok h with⟨z,_⟩|z
        . exact yG (jA (jA (Ob _) (uN hCs.symm)) (yP z))
        . obtain⟨v',o',q,_⟩:=I2.cell x c z
          exact jU (jw q)
      . intro p hp
        have hp':p∈Vp fp s6.heap:=by
         subst hX';have q:p∈([]:al (jf×Obj))++Vp fp s6.heap:=hp;simpa using q
        exact nD _ (rW hp').1
     have I12:Inv X' ([(s₂.heap.objs.size,{ cls := .type "list",data := .seq (its.push v) n10 })]++Vp fp s6.heap) σ7 H9 { s9 with heap:=h10 }:=I11.pins_of λp hp=>by
      rcases qY.mp hp with q|q
      . have e:p=(s₂.heap.objs.size,{ cls := .type "list",data := .seq (its.push v) n10 }):=by simpa using q
        subst e;exact⟨e10,pd.2.1,pd.2.2.1,pd.2.2.2.1,λv z=>by cases z⟩
      . exact I11.pin p (jO _ q)
     obtain⟨J1,J2,J3⟩:=key I12;refine⟨m',hm,i+1,ys++[y],its.push v,n10,H9,J1,?_,?_,J2,J3,w9⟩
     . have:(its.push v).toList=its.toList++[v]:=by simp
       rw [this];exact hv4.append (.cons r9 .nil)
     . rw [jt,qo]
       omega
 have eEnv:({ newEnv scope HH.objs.size X.env.globals (cellsFrom (HH.objs.size+1) scope.names (Xh X.env.cells scope.names [])) X.env.qual none .none (ja X.env) builtinsNs with scope:=relabel scope X.env }:Env)=X'.env:=by rw [<-hX'];rfl
 have loop2:=loop;rw [<-eEnv]at loop loop2;exact codeAny_compStart_list loop (T.self X.A 0 s3 _ _ st3' loop2)
theorem V0 (hc:X.calm=je) (S:aQ X scope tn cn js) (hi:PI X tg iter wi)
 (hg:∀C s₂ H₂ fp,PG (UW X scope (tn++cn) C s₂ H₂ fp) tg g) (ht:∀C s₂ H₂ fp,gf (UW X scope (tn++cn) C s₂ H₂ fp) ifs tt) (he:∀C s₂ H₂ fp,PE (UW X scope (tn++cn) C s₂ H₂ fp) elt te)
 (hs:autoParam (∀x,foldedSetIterable iter X.env x=pure x) af) :
 PE X (.ListComp elt [⟨tg,iter,ifs,0⟩] scope pos) (Q5 wi g tt te tn.length js):=by
 intro pins s σ H Q I h;rw [eval_ListComp];refine Ol (use:=none) (cl:=Xh X.env.cells scope.names []) rfl hs (lS (S.clos I.ok)) S.kind S.names (aW (hi pins s σ H _ I h) λv s1 h1=>aW h1 λitv s2 h2 => ?_);obtain⟨it,fp,tnx,J,H2,e,I2,T,st2,f2,W,⟨m0,w0⟩,turn⟩:=h2;subst e;refine m9 (RR:=λacc C=>compPost (model X.prog X.w) X.A X.xe none (EP X pins σ Q) acc C) (W:=W) (m0:=m0) (xx:=λ_ _ _=>False) hc S (λC=>hg C _ _ _) (λC=>ht C _ _ _) (λC _=>he C _ _ _) I2 T st2 f2 w0 (λ_ _ _ _ _ z=>z.elim) λi m ys H w => ?_
 rcases turn i m ys H w with⟨stop,qn⟩|r
 . refine .inl ⟨stop,λC D s its n σ' hC hD hDC hv hz I' => ?_⟩
   obtain⟨m',hn,_⟩:=id I'.loc;refine⟨m',hn,λh' hs' => ?_⟩;have pd:=I'.pin (D,{ cls := .type "list",data := .seq its.toArray n }) (jO _ jr);exact⟨.ref D,_,m7 S I2 hC hD hDC f2 I' hv hz hs',rfl,qn D pd.2.1⟩
 . exact .inr r
end
end L2
namespace DL
open PySem PySem.Spec L2
section
variable{cA:Kn}{G:Cn}{ow:al Nat}
mutual
theorem Rep.kind{av:jf->Prop}{H H':Hp}:∀{d:D}{v:V},frz d=je->(∀b o,H b=ja o->(∀vs,o ≠ .lst vs)->H' b=ja o)->Rep cA av H d v->Rep cA av H' d v
 | .non,_,_,_,h=>h
 | .bl _,_,_,_,h=>h
 | .int _,_,_,_,h=>h
 | .str _,_,_,_,h=>h
 | .lst xs,v,hf,k,h=>by cases hf
 | .tup xs,v,hf,k,h=>by
  unfold DL.frz at hf;unfold Rep at h ⊢;obtain⟨a,vs,e,n,r,l⟩:=h;exact⟨a,vs,e,n,k _ _ r (λ_ z=>by cases z),aD.kind hf k l⟩
 | .obj c ks xs,v,hf,k,h=>by
  unfold DL.frz at hf;unfold Rep at h ⊢;obtain⟨a,dx,vs,e,n,r,z,l⟩:=h;exact⟨a,dx,vs,e,n,k _ _ r (λ_ z=>by cases z),z,aD.kind hf k l⟩
 | .dct ks xs,v,hf,k,h=>by cases hf
 | .dtt ks xs,v,hf,k,h=>by cases hf
 | .exc c r,v,hf,k,h=>by cases hf
 | .clo c r,v,hf,k,h=>by cases hf
theorem aD.kind{av:jf->Prop}{H H':Hp}:∀{xs:al D}{vs:al V},eX xs=je->(∀b o,H b=ja o->(∀vs,o ≠ .lst vs)->H' b=ja o)->aD cA av H xs vs->aD cA av H' xs vs
 | [],_,_,_,h=>h
 |x::xs,vs,hf,k,h=>by
  unfold DL.eX at hf;rw [jF]at hf;unfold aD at h ⊢;obtain⟨v,r,e,h1,h2⟩:=h;exact⟨v,r,e,Rep.kind hf.1 k h1,aD.kind hf.2 k h2⟩
end
end
section
variable{cA:Kn}{G:Cn}{ow owB owC:al Nat}
def Yx:D->D->am D
 | .lst a,.lst b=>iy (.lst a) (.lst b)
 |_,_=>none
theorem Es(ha:VE G ow ta .cl a)(hb:VE G ow tb .cl b):VF G ow (gb (mS G.1.K) ta tb) (aB Yx a b):=λH0 av A σ H δ E d e Q k=>by
 obtain⟨x,y,ex,ey,ed⟩:=Q8 e;unfold Yx at ed
 split at ed
 . rename_i xs ys
   dsimp only [iy]at ed
   by_cases hz:xs.length+ys.length<=jv
   . rw [if_pos hz]at ed
     cases ed;refine ha H0 av A σ H δ E _ ex _ λv H1 s1 r1=>hb H0 av A σ H1 δ (E.mono s1) _ ey _ λw H2 s2 r2 => ?_
     obtain⟨a1,vs1,rfl,na,rd,l1⟩:=r1;obtain⟨a2,vs2,rfl,nb,rd2,l2⟩:=r2;refine .inr (.inr ⟨a1,a2,vs1,vs2,rfl,rfl,s2.seq rd,rd2,by rw [<-l1.length,<-l2.length];exact hz,λp hp=>k p _ _ H2 (s1.trans s2) hp ((l1.same s2).append l2) rfl⟩)
   . rw [if_neg hz]at ed;cases ed
 . cases ed
end
variable{cA:Kn}
end DL
namespace L2
open PySem PySem.Spec PyProof.Rows
section
variable{X:Cx}{scope:qH}{tn cn:al Str}{js:al Nat}{tg iter elt:qA}{ifs:al qA}{pos spos pos':Pos}{wi:TI}{g:TG}{tt:TT}{te:TE}
theorem ng {i:Nat} {x:Str} (hN:X.N.Nodup) (hi:X.N[i]? = ja x) (hx:X.env.scope.names.lookup x=ja .local) (hc:X.calm=je) (S:aQ X scope tn cn js) (hI:PI X tg iter wi)
 (hg:∀C s₂ H₂ fp,PG (UW X scope (tn++cn) C s₂ H₂ fp) tg g) (ht:∀C s₂ H₂ fp,gf (UW X scope (tn++cn) C s₂ H₂ fp) ifs tt) (he:∀C s₂ H₂ fp,PE (UW X scope (tn++cn) C s₂ H₂ fp) elt te)
 (hsw:autoParam (swapsWith (.ListComp elt [⟨tg,iter,ifs,0⟩] scope pos) (ja (.Name x pos')) spos.line X.env=pure true) ah)
 (hs:autoParam (∀x,foldedSetIterable iter X.env x=pure x) af) :
 PS X (.Assign [.Name x pos'] (.ListComp elt [⟨tg,iter,ifs,0⟩] scope pos) spos) (Uj (Q5 wi g tt te tn.length js) (Uh i)):=by
 intro pins s σ H D I h;rw [exec_Assign_Name_used _ _ _ _ hsw];refine jl (uJ (jl ?_));show jJ _ X.A (do let _ <-comprehension (.ListComp elt [⟨tg,iter,ifs,0⟩] scope pos) scope X.env _ (newList []) jj (eval iter X.env) (ja (assign (.Name x pos') X.env))) _ _ s
 refine jl (j7 (Ol (use:=ja (assign (.Name x pos') X.env)) (Q:=λ_ s'=>SP X pins D .next s') (cl:=Xh X.env.cells scope.names []) rfl hs (lS (S.clos I.ok)) S.kind S.names
  (aW (hI pins s σ H _ I h) λv s1 h1=>aW h1 λitv s2 h2 => ?_)) (λ_ s' hq=>jB (jB hq)) λ_ _ e=>e)
 obtain⟨it,fp,tnx,J,H2,e,I2,T,st2,f2,W,⟨m0,w0⟩,turn⟩:=h2;subst e;refine m9 (RR:=λacc C=>compPost (model X.prog X.w) X.A X.xe (ja (assign (.Name x pos') X.env)) (λ_ s'=>SP X pins D .next s') acc C) (W:=W) (m0:=m0) (xx:=λ_ _ _=>False) hc S (λC=>hg C _ _ _) (λC=>ht C _ _ _) (λC _=>he C _ _ _) I2 T st2 f2 w0 (λ_ _ _ _ _ z=>z.elim) λi' m ys H w => ?_
 rcases turn i' m ys H w with⟨stop,qn⟩|r
 . refine .inl ⟨stop,λC D' s its n σ' hC hD hDC hv hz I' => ?_⟩
   obtain⟨m',hn,_⟩:=id I'.loc;have pd:=I'.pin (D',{ cls := .type "list",data := .seq its.toArray n }) (jO _ jr);have hCf:H C=none:=I'.free;have I1:Inv X pins σ (aV H D' (.lst ys)) { s with heap:=s.heap }:=m7 S I2 hC hD hDC f2 I' hv hz (Heap.SameBut.refl _ _);show jJ _ X.A (assign (.Name x pos') X.env (.ref D')) _ _ _;have hlC:X.env.locals≠C:=λz=>absurd (z▸I2.lt) (ym.mpr hC)
   have hcC:∀y c,X.env.cells.lookup y=ja c->c≠C:=λy c e z=>by
    obtain⟨v',o',q,_⟩:=I2.cell y c e;exact absurd (jw q) (ym.mpr (z▸hC))
   refine WH (rq I1 hN hi (.inl hx) (v:=.ref D') rfl (λs3 I3 z=>?_) (.inr hx));obtain⟨a,hsb,ha⟩:=z
   have hCa:C≠a:=by
    rcases ha with rfl|ha
    . exact qF hlC
    . exact qF (hcC _ _ ha)
   refine⟨m',hn.sameBut hsb hCa,λh' hs' => ?_⟩;have hCn:aV H D' (.lst ys) C=none:=by rw [Zn (qF hDC)];exact hCf
   have I4:Inv X pins (σ.set i (ja (.ref D'))) (aV H D' (.lst ys)) { s3 with heap:=h',toks:=s3.toks }:=I3.turned (it:=C) (λb o hb e=>(hs'.2 b hb).trans e) hCn (qF hlC) (.inr (jK (jK I2.ok.above (uM I2.lt)) hC)) (λy c e=>hcC y c e) λp hp z=>by
    have:=(I2.pin p hp).1;exact absurd (jw this) (ym.mpr (z▸hC))
   exact⟨_,_,I4,qn D' pd.2.1⟩
 . exact .inr r
theorem aQ.mkG{on:al (Str×qP)}(hk:scope.kind = .function)(ho:∀y,on.lookup y=ja .cell\/on.lookup y=ja .free->X.env.kindOf y=ja .cell\/X.env.kindOf y=ja .free)(h:UT on X.N scope.names cn js=je):aQ X scope tn cn js:=by
 unfold UT at h;simp only [jF,jR]at h;obtain⟨⟨⟨⟨h1,h2⟩,h3⟩,h4⟩,h5⟩:=h;have hlen:cn.length=js.length:=by simpa using h5
 refine⟨hk,λy hy e=>by simpa [e]using h1 y hy,λy hy e=>by simpa [e]using h2 y hy,λy hy e=>ho _ (by simpa [e]using h3 y hy),λk x e => ?_,hlen⟩;have hkj:k<js.length:=hlen▸(jL.mp e).1;have:=h4 (x,js[k]) (qK (i:=k) (List.getElem?_zip_eq_some.mpr ⟨e,by simp [hkj]⟩));simp only [jF,uG,beq_iff_eq]at this
 exact⟨js[k],by simp [hkj],this.1.1,ho _ this.1.2,this.2⟩
theorem aQ.mk1{osc:qH}{oN:al Str}(hk:scope.kind = .function)(ho:X.env.scope=osc)(hN:X.N=oN)(h:UT osc.names oN scope.names cn js=je):aQ X scope tn cn js:=aQ.mkG (on:=osc.names) hk (λy e=>by unfold vU;rw [ho];exact e) (hN▸h)
theorem aQ.mk3(hk:scope.kind = .function)(h:UT [] [] scope.names [] []=je):aQ X scope tn [] []:=aQ.mkG (on:=[]) hk (λ_ e=>by simp at e) h
theorem aQ.mk7{scope0:qH}{N':al Str}{C:jf}{s₂:jg}{H₂:Hp}{fp:al jf}(hk:scope.kind = .function)(h:UT scope0.names N' scope.names cn js=je):aQ (UW X scope0 N' C s₂ H₂ fp) scope tn cn js:=aQ.mkG hk (λ_ e=>wD (env:=X.env) e) h
end
end L2
namespace L2
open PySem PySem.Spec
theorem ce {N P:al Str} {sc:qH} (a:autoParam (sc.kind = .function) ah) (b:autoParam (sc.isCoroutine=false) ah) (c:autoParam (sc.isGenerator=false) ah) (d:autoParam N.Nodup aj) (e:autoParam (N.take P.length=P) ah)
 (f:autoParam (∀x∈P,sc.names.lookup x=ja .local\/sc.names.lookup x=ja .cell) aj) (g:autoParam (∀y∈sc.names,y.2 ≠ .free) aj):aG N P sc:=⟨a,b,c,d,e,f,g⟩
structure Df(K:jb)(x q:Str)(st:qv)(a:jf)(fd:qI)(ps:List Str):Prop where
 f:bu K x q st a fd
 b:Binds K fd ps []
 k:jM K (.ref a)=je
structure Dg(K:jb)(mg:Str->Option jc)(x:Str)(st:qv)(a:jf)(fd:qI)(ps:List Str):Prop extends Df K x x st a fd ps where
 g:mg x=ja (.ref a)
structure Fg(K:jb)(x:Str)(st:qv)(f:jf)(fd:qI):Prop where
 a:nsIn K mainGlobals x=ja (ja (.ref f))
 l:dI K x x st f fd
variable{K:jb}{h:jX}{mg:Str->am jc}{x q:Str}{st:qv}{f:jf}{fd:qI}{ps:al Str}
theorem dI.df (F:dI K x q st f fd) (b:∀(kV doc pm:jc)(an:am jf)(cdv ct:jc)(us:al jc),us.length=ps.length->bindArgs (fnOf x q (ba st) (aN st) (aA st) .none kV doc pm an cdv ct) ⟨us,[]⟩=pure (ps.zip us):=by
 intro _ _ _ _ _ _ us hl;rcases us with _|⟨_,_|⟨_,_|⟨_,_|⟨_,_|⟨_,_|⟨_,_|⟨_,_⟩⟩⟩⟩⟩⟩⟩<;>first|(exfalso;simp at hl;done)|rfl):Df K x q st f fd ps:=⟨F.x,F.binds b,F.kp⟩
theorem Fg.dg(F:Fg K x st f fd)(X:K.In h)(G:h.Ns mainGlobals mg)(D:Df K x x st f fd ps):Dg K mg x st f fd ps:=⟨D,ur X G F.a⟩
theorem Fg.of {oc:jc} {od an:am jf} {osl:Array (am jc)} {kV doc pm cdv ct:jc} (a:nsIn K mainGlobals x=ja (ja (.ref f))) (l:K.lookup f=ja ⟨oc,od,.func (fnOf x x (ba st) (aN st) (aA st) .none kV doc pm an cdv ct),osl⟩)
 (c:codeIn K cdv x=je) (k:jM K (.ref f)=je):Fg K x st f (fnOf x x (ba st) (aN st) (aA st) .none kV doc pm an cdv ct):=⟨a,bL l c k⟩
end L2
namespace DL
open PySem PySem.Spec L2
section
variable{cA:Kn}{G:Cn}{ow owB owC:al Nat}
def V1(a:Env->am D)(lo hi:Env->am (am Int))(δ:Env):am D:=match a δ with
 |some (.lst _)=>bq a lo hi δ
 |_=>none
theorem nh{q:Ql}(hq:q = .cl\/q = .tp)(ha:VE G ow ta q a)(hl:VO G ow tl lo)(hh:VO G ow th hi):VF G ow (lK (hU G.1.K) ta tl th) (V1 a lo hi):=λH0 av A σ H δ E d e Q k=>by
 unfold V1 at e
 split at e
 . rename_i xs hx
   obtain⟨x,l,u,ex,el,eu,ed⟩:=tW e;rw [hx]at ex;cases ex;refine ha H0 av A σ H δ E _ hx _ λv H1 s1 r1=>hl H0 av A σ H1 δ (E.mono s1) l el _ λH2 s2=>hh H0 av A σ H2 δ ((E.mono s1).mono s2) u eu _ λH3 s3 => ?_
   have s13:=s2.trans s3
   have r3:bf G.1 av (AV av A) H3 (.lst xs) v:=by
    have:=(r1.same s13).tp;rcases hq with rfl|rfl<;>exact this
   cases ed;obtain⟨p,vs,rfl,_,rd,ll⟩:=r3;refine .inr (.inl ⟨p,vs,rfl,rd,λp' hp => ?_⟩);rw [mG];exact k p' _ _ H3 (s1.trans s13) hp (ll.cutL l u) rfl
 . cases e
end
end DL
namespace L2
open PySem PySem.Spec PyProof.Rows
structure bC(N ps fr:List Str)(sc:qH):Prop where
 kind:sc.kind = .function
 co:sc.isCoroutine=jj
 gen:sc.isGenerator=jj
 nd:N.Nodup
 pre:N.take (ps++fr).length=ps++fr
 par:∀x∈ps,sc.names.lookup x=ja .local
 frk:∀x∈fr,sc.names.lookup x=ja .free
 all:∀y∈sc.names,y.2 ≠ .cell/\(y.2 = .free->y.1∈fr)
structure gI(h:jX)(cl:List (Str×jf))(fr:List Str)(vc:List V):Prop where
 inj:∀x y c,cl.lookup x=ja c->cl.lookup y=ja c->x=y
 cell:∀x c,cl.lookup x=ja c->∃v,h.IsCell c v
 get:∀(i:Nat)(x:Str),fr[i]? = ja x->∃c u v,cl.lookup x=ja c/\vc[i]? = ja v/\RelV v u/\h.IsCell c (ja u)
 len:vc.length=fr.length
noncomputable def ni(P:jS)(w:jV)(K:jb)(mg:Str->am jc)(base:jX)(N:al Str)(qual:Str)(scope:qH)(f:jf)(cd:jc)(cl:al (Str×jf))(A:qe)(outer:al Env)(s:jg)(H:Hp):Cx where
 prog:=P
 w:=w
 K:=K
 mg:=mg
 base:=base
 A:=A.deeper (yQ qual scope s.heap.objs.size f cd cl)
 N:=N
 s₀:=s
 H₀:=H
 env:=yQ qual scope s.heap.objs.size f cd cl
 outer:=outer
 stack:=yQ qual scope s.heap.objs.size f cd cl::outer
 ex:=[]
 calm:=je
 fn:=λ_=>jj
 pn:=[]
 xe:=λ_ _=>False
theorem wK{x:Str}{v:jc}:∀{l:al (Str×jc)},(l.map (·.1)).Nodup->(x,v)∈l->l.lookup x=ja v
 | [],_,h=>by cases h
 |(y,w)::l,nd,h=>by
  rw [jy,yh]at nd;rcases jp.mp h with e|h
  . cases e
    simp [jC]
  . have hne:x≠y:=λe=>nd.1 (qf.mpr ⟨(x,v),h,e⟩)
    have hb:(x == y)=false:=beq_eq_false_iff_ne.mpr hne;rw [jC,hb];exact wK nd.2 h
theorem wL:∀(ps:al Str)(us:al jc),((ps.zip us).map (·.1)).Sublist ps
 | [],_ => .slnil
 |_::_,[]=>List.nil_sublist _
 |x::ps,u::us=>(wL ps us).cons_cons x
theorem Et{ps:al Str}{us:al jc}{i:Nat}{x:Str}{u:jc}(nd:ps.Nodup)(h1:ps[i]? = ja x)(h2:us[i]? = ja u):(ps.zip us).reverse.lookup x=ja u:=by
 refine wK ?_ (List.mem_reverse.mpr (qK (i:=i) ?_))
 . rw [List.map_reverse]
   refine List.pairwise_reverse.mpr (List.Pairwise.imp qF ?_);exact nd.sublist (wL ps us)
 . rw [oz]
   exact⟨h1,h2⟩
theorem Eu {K:jb} {N ps fr:al Str} {scope:qH} {cl:al (Str×jf)} {A:qe} {outer:al Env} {s:jg} {vs vc:al V} {h₁:jX} {tk:Nat}
 (S:bC N ps fr scope) (C:gI base cl fr vc) (hd:A.handled=none) (e0:dh P w K mg base A outer s H) (hl:vs.length=ps.length) (r:aR vs us)
 (hns:h₁.Ns s.heap.objs.size (λx=>(ps.zip us).reverse.lookup x)) (hk:∀b o,s.heap.get? b=ja o->h₁.get? b=ja o) :
 Inv (ni P w K mg base N qual scope f cd cl A outer s H) [] (start N (vs++vc)) H { s with heap:=h₁,toks:=tk }:=by
 have noA:∀b:jf,b∉(ni P w K mg base N qual scope f cd cl A outer s H).ex:=λb z=>absurd (show b∈([]:al jf)from z) (by simp)
 have hpl:(ps++fr).length<=N.length:=by have:=congrArg yE S.pre;rw [jT]at this;omega
 have hvl:(vs++vc).length=(ps++fr).length:=by rw [jt,jt,hl,C.len]
 have cb:∀x c v,cl.lookup x=ja c->base.IsCell c v->s.heap.IsCell c v/\H c=none:=λx c v e ⟨o,ho,hd⟩=>⟨⟨o,(e0.bs c o ho).1,hd⟩,(e0.bs c o ho).2⟩
 have ck:∀c v,s.heap.IsCell c v->h₁.IsCell c v:=λc v ⟨o,ho,hd⟩=>⟨o,hk _ _ ho,hd⟩
 refine⟨⟨e0.mod,S.kind,rfl,rfl,jz _,C.inj,λy hy => ?_,λy c h=>(by cases(show jj=je from h)),λ_=>hd,o0 e0.frames,.inr ⟨rfl,rfl⟩,λb z=>absurd z (noA b),e0.bs,e0.bsz,λb _ _=>noA b,λb z=>absurd z (noA b),e0.funs,e0.frf,e0.tb⟩,
  rfl,e0.bare,Un.kept hk,⟨_,hns,λi y v h1 h2 h3 => ?_⟩,λy c h => ?_,e0.hok.fresh (jz _),λy c h => ?_,λp hp=>absurd (show p∈([]:al (jf×Obj))from hp) (by simp),e0.hok.kept hk,?_,λq hq=>absurd (show q∈([]:al (jf×Obj×Str))from hq) (by simp)⟩
 . have hy:scope.names.lookup y=ja .cell\/scope.names.lookup y=ja .free:=hy
   rcases hy with hy|hy
   . exact absurd rfl (S.all _ (j4 hy)).1
   . obtain⟨i,hi⟩:=List.mem_iff_getElem?.mp ((S.all _ (j4 hy)).2 rfl)
     obtain⟨c,_,_,e,_⟩:=C.get i y hi;exact⟨c,e⟩
 . have h1:N[i]? = ja y:=h1
   have hi:i<(vs++vc).length:=by
    unfold start at h2
    by_cases hi:i<(vs++vc).length
    . exact hi
    . rw [qj (by simpa using hi)]at h2
      rw [yg]at h2
      split at h2<;>cases h2
   have ha:(vs++vc)[i]? = ja v:=by
    unfold start at h2;rw [qp (by simpa using hi),j9]at h2;cases e:(vs++vc)[i]? with
    |none=>rw [e]at h2;cases h2
    |some a=>rw [e]at h2;cases h2;rfl
   have hp:(ps++fr)[i]? = ja y:=by
    rw [<-S.pre,uX (by omega)];exact h1
   have ndP:(ps++fr).Nodup:=by rw [<-S.pre];exact S.nd.sublist (vW _ _)
   by_cases hv:i<vs.length
   . rw [qp hv]at ha
     rw [qp (by omega)]at hp;obtain⟨u,hu,rv⟩:=r.get ha;exact⟨u,rv,.inl ⟨S.par y (qK hp),Et (ndP.sublist (List.sublist_append_left _ _)) hp hu⟩⟩
   . rw [qj (by omega)]at ha
     rw [qj (by omega),<-hl]at hp;obtain⟨c,u,v',e1,e2,e3,e4⟩:=C.get _ y hp;rw [ha]at e2;cases e2;exact⟨u,e3,.inr ⟨.inr (S.frk y (qK hp)),c,e1,ck _ _ (cb y c _ e1 e4).1⟩⟩
 . obtain⟨v,hv⟩:=C.cell y c h
   exact⟨v,ck _ _ (cb y c v h hv).1⟩
 . obtain⟨v,hv⟩:=C.cell y c h
   exact(cb y c v h hv).2
 . unfold start
   show _=N.length;rw [jt,jk,jP];omega
section
variable{X:Cx}{pins:al (jf×Obj)}{σ:St}{H:Hp}{s:jg}
def V2(h:jX)(H:Hp)(fs:al jf):jX:=vJ h (fL h H++fs)
theorem dX{h:jX}{H:Hp}{b:jf}:b∈fL h H ↔ b<h.objs.size/\(H b).isSome=true:=by
 unfold fL;rw [List.mem_filter,List.mem_range]
theorem nj{h:jX}{H:Hp}{fs:al jf}{b:jf}{o:Obj}(e:h.get? b=ja o)(n:H b=none)(f:b∉fs):(V2 h H fs).get? b=ja o:=by
 refine y0 _ e λz => ?_
 rcases qY.mp z with z|z
 . have:=(dX.mp z).2
   rw [n]at this;cases this
 . exact f z
theorem iE{h:jX}{H:Hp}{fs:al jf}{b:jf}{o:Obj}(e:(V2 h H fs).get? b=ja o):h.get? b=ja o/\H b=none/\b∉fs:=by
 have e1:=uo _ e
 have hn:b∉fL h H++fs:=λz=>by
  have:=u7 (h:=h) _ z;unfold V2 at e;rw [e]at this;cases this
 refine⟨e1,?_,λz=>hn (jO _ z)⟩;cases q:H b with
 |none=>rfl
 |some u=>exact absurd (uD _ (dX.mpr ⟨jw e1,by rw [q];rfl⟩)) hn
theorem Inv.base_wide(I:Inv X pins σ H s):∀b o,X.base.get? b=ja o->(V2 s.heap H (bI X.stack)).get? b=ja o:=λb o e=>by
 obtain⟨h1,h2⟩:=I.bs b o e;refine nj h1 h2 λz => ?_
 rcases jp.mp (I.stkSub b z)with q|q
 . have:=jw e
   rw [q]at this;exact absurd (jA this (jK I.ok.bsz I.ok.above)) (qV _)
 . exact I.ok.nofr e q
theorem wM{h base b2:jX}:∀{l:al Env},(∀L∈bI l,b2.get? L=none)->h.FunFrames base l->h.FunFrames b2 l
 | [],_,_=>trivial
 |env::r,hn,hl=>by
  obtain⟨hk,⟨L,o,hf,_,ho,hd⟩,hr⟩:=hl;have hL:L∈bI (env::r):=by unfold bI;rw [yy,hf];exact jr
  refine⟨hk,⟨L,o,hf,hn L hL,ho,hd⟩,wM (λb hb=>hn b ?_) hr⟩;unfold bI at hb ⊢;rw [yy,hf];exact jq _ hb
theorem Mod.keeps{K:jb}{mg:Str->am jc}{b1 b2:jX}(M:Mod K mg b1)(k:∀b o,b1.get? b=ja o->b2.get? b=ja o):Mod K mg b2:=
 ⟨M.kin.keeps k,M.glob.keeps k,let⟨mb,h1,h2⟩:=M.blt;⟨mb,h1.keeps k,h2⟩,M.nolimit.keeps k⟩
theorem wN{a b:Int}{c cv:jc}:∀(l:al jc),TriplesOk l->codeAmong pos (l++[rawInt a,rawInt b,c])=ja cv->codeAmong pos l=ja cv\/cv=c
 | [],_,h=>by
  have h:(if(a == (pos.line:Int)&&b == (pos.col:Int))=je then ja c else none)=ja cv:=h
  split at h
  . cases h;exact .inr rfl
  . cases h
 | .int x tx :: .int y ty::z::r,ht,h=>by
  have h:(if(x == (pos.line:Int)&&y == (pos.col:Int))=je then ja z else codeAmong pos (r++[rawInt a,rawInt b,c]))=ja cv:=h;show(if(x == (pos.line:Int)&&y == (pos.col:Int))=je then ja z else codeAmong pos r)=ja cv\/_
  by_cases hz:(x == (pos.line:Int)&&y == (pos.col:Int))=je
  . rw [if_pos hz]at h ⊢
    exact .inl h
  . rw [if_neg hz]at h ⊢
    exact wN r ht h
structure gi(mg:Str->Option jc)(base:jX)(c P:jf):Prop where
 hd:PySem.W.CodeHd base c P
 bm:∃bm ob,mg "__builtins__" = ja (.ref bm)/\bm≠builtinsNs/\base.get? bm=ja ob/\ob.cls = .type "module" /\ ob.dict=ja builtinsNs/\ob.data = .plain
structure bV(K:jb)(mg:Str->Option jc)(c P:jf):Prop where
 hd:∃o vs file tf flags tg inF text tt,K.lookup c=ja o/\o.cls = .type "code" /\ o.data = .fields vs/\vs[11]? = ja (.ref P)/\vs.getD 11 .none = .ref P/\vs.getD 18 .none = .str file tf/\vs.getD 7 .none = .int flags tg/\vs.getD 9 .none = .bool inF/\vs.getD 10 .none = .int text tt/\c≠P
 bm:∃bm ob,mg "__builtins__" = ja (.ref bm)/\bm≠builtinsNs/\K.lookup bm=ja ob/\ob.cls = .type "module" /\ ob.dict=ja builtinsNs/\ob.data = .plain
theorem bV.at{K:jb}{mg:Str->am jc}{c P:jf}{base:jX}(N:bV K mg c P)(M:K.In base):gi mg base c P:=by
 obtain⟨o,vs,file,tf,flags,tg,inF,text,tt,e,r⟩:=N.hd;obtain⟨bm,ob,h1,h2,h3,q⟩:=N.bm;exact⟨⟨o,vs,file,tf,flags,tg,inF,text,tt,M _ _ e,r⟩,bm,ob,h1,h2,M _ _ h3,q⟩
theorem Ev {c' P:jf} {h':jX} {fo oc:Obj} {tk:Nat} {pos:Pos} {ps qs:Array jc} (I:Inv X pins σ H s) (hP:H P=ja (.tbl ps)) (hps:ps[0]? = ja (.str qual 0)) (hq:s.heap.get? P=ja (jW qs)) (ht:TriplesOk qs.toList)
 (hrow:∀pos cv,codeAmong pos qs.toList=ja cv->∃c oc q u,cv = .ref c/\H c=ja (.frz oc (.cod q))/\ps[0]? = ja (.str q u))
 (hx:Heap.ExtBut P s.heap h') (hge:s.heap.objs.size<=c') (hoc:h'.get? c'=ja oc) (hrec:h'.CodeRec (.ref c') qual) (htb:h'.get? P=ja (jW (qs ++ #[rawInt pos.line,rawInt pos.col,.ref c']))) :
 Inv X pins σ (aV H c' (.frz oc (.cod qual))) { s with heap:=h'.push fo,toks:=tk }:=by
 have hcn:H c'=none:=I.hok.fresh hge;have neP:∀b,H b=none->b≠P:=λb n z=>by rw [z,hP]at n;cases n
 have hPc:P≠c':=λz=>by rw [z,hcn]at hP;cases hP
 have old:∀b o,b≠P->s.heap.get? b=ja o->(h'.push fo).get? b=ja o:=λb o n e=>ji _ (hx b o n e)
 have lt:∀b o,s.heap.get? b=ja o->b≠c':=λb o e=>jU (jA (jw e) hge)
 refine I.step (g':=s.gens) (d':=s.drawn) (ch:=[]) (λ_ z=>nomatch z) (λb o _ _ _ e n=>old b o (neP b n) e) (λb o _ _ _ e n=>⟨o.slots,old b o (neP b n) e⟩) (λb o _ e n=>by rw [Zn (lt b o e)];exact n)
  (λb o _ e => ?_) (λb xs e=>by rw [Zn (Yq e hcn)];exact e) (λb o u e=>by rw [Zn (Yq e hcn)];exact e) (λb ps e=>⟨#[],by rw [Zn (Yq e hcn),e];simp⟩) (λm hm=>(hm.extBut hx (neP _ I.free)).push _) (λb u e => ?_) I.bare
 . by_cases hb:b=P
   . exact⟨_,by rw [hb];exact ji _ htb⟩
   . exact⟨o,old b o hb e⟩
 . by_cases hb:b=c'
   . subst hb
     rw [ZF]at e;cases e;obtain⟨c2,o,vs,t,e2,g,r⟩:=hrec;cases e2;exact⟨ji _ hoc,_,o,vs,t,rfl,ji _ g,r⟩
   . rw [Zn hb]at e
     by_cases hbP:b=P
     . subst hbP
       rw [hP]at e;cases e;refine⟨_,ji _ htb,?_,λpos' cv z => ?_⟩
       . have:=TriplesOk_snoc pos.line pos.col (.ref c') qs.toList ht
         simpa using this
       . have z:codeAmong pos' (qs.toList++[rawInt pos.line,rawInt pos.col,.ref c'])=ja cv:=by simpa using z
         rcases wN _ ht z with z|z
         . obtain⟨c,oc',q,u,z1,z2,z3⟩:=hrow pos' cv z
           exact⟨c,oc',q,u,z1,by rw [Zn (Yq z2 hcn)];exact z2,z3⟩
         . exact⟨c',oc,qual,0,z,ZF,hps⟩
     . refine(I.hok b u e).stay (λc v hc q=>old c v ?_ q) (λc q=>by rw [Zn (Yq q hcn)];exact q) (λc xs q=>by rw [Zn (Yq q hcn)];exact q)
       rcases hc with rfl|hc
       . exact hbP
       . intro z
         rw [z,hP]at hc;cases hc
end
def cP(H:Hp)(cs:al jf):Hp:=λb=>if b∈cs then none else H b
def eG(H H':Hp)(cs:al jf):Hp:=λb=>if b∈cs then H b else H' b
theorem Qw{cs:al jf}{b:jf}(h:b∈cs):cP H cs b=none:=if_pos h
theorem Qx{H:Hp}{cs:al jf}{b:jf}(h:b∉cs):cP H cs b=H b:=if_neg h
theorem iF{H H':Hp}{cs:al jf}{b:jf}(h:b∈cs):eG H H' cs b=H b:=if_pos h
theorem Xw{H H':Hp}{cs:al jf}{b:jf}(h:b∉cs):eG H H' cs b=H' b:=if_neg h
theorem UX{H:Hp}(h:H b=none):cP H cs b=none:=by
 unfold cP
 split
 . rfl
 . exact h
abbrev eH(H:Hp)(cs:al jf):Prop:=∀c∈cs,∃o,H c=ja (fv o)
theorem eH.out{H:Hp}{cs:al jf}(h:eH H cs){b:jf}{u:HO}(e:H b=ja u)(n:∀o,u≠fv o):cP H cs b=ja u:=by
 rw [Qx λz => ?_]
 . exact e
 . obtain⟨o,ho⟩:=h b z
   rw [e]at ho;exact n o (jx ho)
section
variable{X:Cx}{pins:al (jf×Obj)}{σ:St}{H:Hp}{s s':jg}{cs:al jf}
theorem Inv.hokD(I:Inv X pins σ H s)(hc:eH H cs):bS X.prog X.w (cP H cs) s.heap:=λb o e=>by
 have hb:b∉cs:=λz=>by rw [Qw z]at e;cases e
 rw [Qx hb]at e
 exact(I.hok b o e).stay (λ_ _ _ q=>q) (λb' q=>by
  by_cases hz:b'∈cs
  . obtain⟨o',ho'⟩:=hc b' hz
    rw [q]at ho';cases ho'
  . rw [Qx hz];exact q) (λb' xs q=>hc.out q λo=>by simp) (λb' ob q e'=>hc.out e' λo=>by simp)
theorem Inv.stkOut(I:Inv X pins σ H s)(hc:eH H cs){b:jf}(h:b∈cs):b∉bI X.stack:=λz=>by
 obtain⟨o,ho⟩:=hc b h;rw [I.stkFree b z]at ho;cases ho
theorem Inv.env0D(I:Inv X pins σ H s)(hc:eH H cs):dh X.prog X.w X.K X.mg (V2 s.heap (cP H cs) (bI X.stack)) X.A X.stack s (cP H cs):=
 ⟨I.ok.frames,I.ok.mod.keeps λb o e=>by
   refine nj (I.bs b o e).1 (UX (I.bs b o e).2) λz => ?_
   exact(iE (I.base_wide b o e)).2.2 z,
   λb o e=>⟨(iE e).1,(iE e).2.1⟩,uN (oP _ _),wM (λL hL=>by
    cases q:(V2 s.heap (cP H cs) (bI X.stack)).get? L with
    |none=>rfl
    |some o=>exact absurd hL (iE q).2.2) I.stack,λb hb=>UX (I.stkFree b hb),I.hokD hc,I.bare,λq hq=>by
    obtain⟨more,e⟩:=I.tabs q hq;exact⟨more,hc.out e λo=>by simp⟩⟩
theorem Ew{Q:VK}(I:Inv X pins σ H s)(hc:eH H cs)(h:CE X.stack X.prog X.w (cP H cs) s (λv H'=>(∀c∈cs,H' c=none)->Q v (eG H H' cs)) u s'):CE X.stack X.prog X.w H s Q u s':=by
 obtain⟨v,H',os,bare,un,hok,r,q⟩:=h
 have old:∀c∈cs,∃o,H c=ja (fv o)/\s.heap.get? c=ja o:=λc h=>by
  obtain⟨o,e⟩:=hc c h;exact⟨o,e,(I.hok c _ e).1⟩
 have gone:∀c∈cs,H' c=none:=λc h=>by
  obtain⟨o,_,e⟩:=old c h;exact un.free c o e (Qw h) (by simp)
 have out:∀{b:jf}{w':HO},H' b=ja w'->b∉cs:=λe z=>by rw [gone _ z]at e;cases e
 refine⟨v,eG H H' cs,os,bare,⟨λb o e n hb hx=>un.keep b o e (UX n) hb hx,λb o e n hb hx=>un.slot b o e (UX n) hb hx,λb o e n hx => ?_,un.there,λb xs e => ?_,λb o w' e => ?_,λb ps e => ?_⟩,λb o e => ?_,r,q gone⟩
 . have hb:b∉cs:=λz=>by obtain⟨o',e',_⟩:=old b z;rw [n]at e';cases e'
   rw [Xw hb];exact un.free b o e (UX n) hx
 . have z:=un.tups b xs (hc.out e λo=>by simp)
   rw [Xw (out z)];exact z
 . by_cases hb:b∈cs
   . rw [iF hb];exact e
   . rw [Xw hb]
     exact un.frzs b o w' (by rw [Qx hb];exact e)
 . obtain⟨more,z⟩:=un.tbls b ps (hc.out e λo=>by simp)
   exact⟨more,by rw [Xw (out z)];exact z⟩
 . by_cases hb:b∈cs
   . rw [iF hb]at e
     obtain⟨o',e',g⟩:=old b hb;rw [e']at e;cases e;have g':=un.keep b o' g (Qw hb) (I.stkOut hc hb) (by simp);exact⟨g',o',g'⟩
   . rw [Xw hb]at e
     exact(hok b o e).stay (λ_ _ _ z=>z) (λb' z=>by rw [Xw (out z)];exact z) (λb' xs z=>by rw [Xw (out z)];exact z) (λb' ob q z=>by rw [Xw (out z)];exact z)
end
abbrev cells(cl:al (Str×jf)):al jf:=cl.map (·.2)
theorem bw.stl{H:Hp}{p:jf}{m:Lm}{cl:al (Str×jf)}{vc:al V}(L:bw H p m cl vc):eH H (cells cl):=λc hc=>by
 obtain⟨q,hq,rfl⟩:=qf.mp hc;obtain⟨o,_,e,_⟩:=L.cell q hq;exact⟨o,e⟩
theorem wO(env:Env)(b:al qv):∀a:al qv,execs (a++b) env=(do match <-execs a env with | .next=>execs b env|f=>pure f)
 | []=>by
  show execs b env=_;rw [arm_execs_nil,pure_bind]
 |st::a=>by
  show execs (st::(a++b)) env=_;rw [execs_cons,execs_cons,bind_assoc];refine bind_congr λf => ?_
  cases f with
  |next=>exact wO env b a
  |_=>rw [pure_bind]
def Jm(H:Hp)(h:jX)(l:al jf):Hp:=λb=>if b∈l then(h.get? b).map L2.fv else H b
theorem Ex{h:jX}{l:al jf}{b:jf}{o:Obj}(hb:b∈l)(e:h.get? b=ja o):Jm H h l b=ja (fv o):=by
 unfold Jm;rw [if_pos hb,e];rfl
theorem Ey{H:Hp}{l:al jf}{b:jf}(hb:b∉l):Jm H h l b=H b:=if_neg hb
section
variable{X:Cx}{pins:al (jf×Obj)}{σ:St}{H:Hp}{s s':jg}
theorem Ez{Q:VK}{l:al jf}{H3:Hp}(J:Inv X pins σ H s)(hex:X.ex=[])(hl:∀b∈l,H b=none/\X.s₀.heap.objs.size<=b)(h3:∀b,b∉l->H3 b=H b)(hk:∀b∈l,∀o,H3 b=ja o->aZ X.prog X.w H3 s.heap b o)(r:RelV v u)(q:Q v H3):CE X.outer X.prog X.w X.H₀ X.s₀ Q u s:=by
 have out:∀{b:jf}{w':HO},H b=ja w'->b∉l:=λe z=>by rw [(hl _ z).1]at e;cases e
 have un:=J.base;rw [hex]at un;refine⟨v,_,J.os,J.bare,⟨un.keep,un.slot,λb o e n hx => ?_,un.there,λb xs e => ?_,λb o w' e => ?_,λb ps e => ?_⟩,λb o e => ?_,r,q⟩
 . rw [h3 b λz=>absurd (jA (jw e) (hl b z).2) (qV _)]
   exact un.free b o e n hx
 . have z:=un.tups b xs e
   rw [h3 _ (out z)];exact z
 . have z:=un.frzs b o w' e
   rw [h3 _ (out z)];exact z
 . obtain⟨more,z⟩:=un.tbls b ps e
   exact⟨more,by rw [h3 _ (out z)];exact z⟩
 . by_cases hb:b∈l
   . exact hk b hb o e
   . rw [h3 _ hb]at e
     exact(J.hok b o e).stay (λ_ _ _ z=>z) (λb' z=>by rw [h3 _ (out z)];exact z) (λb' xs z=>by rw [h3 _ (out z)];exact z) (λb' ob q z=>by rw [h3 _ (out z)];exact z)
theorem EA {m:Lm} {cl:al (Str×jf)} {c0 P:jf} {E:jc->jg->Prop} {Q:jc->jg->Prop} (I:Inv X pins σ H s) (Nk:bV X.K X.mg c0 P) (htab:(P,m.qual)∈YV X.K) (hcode:X.env.code = .ref c0) (hcl:closureFor m.scope X.env=pure cl)
 (hq:X.env.qual ++ "<lambda>" = m.qual) (hdef:defaultsOf m.params X.env=([],[]))
 (h:∀(p c:jf)(pm ct:jc)(oc:Obj)(H':Hp)(s':jg),aH H H'->H' c=ja (.frz oc (.cod m.qual))->Inv X pins σ H' s'->H' p=none->s.heap.objs.size<=p->s'.heap.get? p=ja (u1 "<lambda>" m.qual m.params m.body m.scope cl pm c ct)->Q (.ref p) s') :
 jJ (model X.prog X.w) X.A (eval (.Lambda m.params m.body m.scope pos) X.env) Q E s:=by
 obtain⟨more,hP⟩:=I.tabs _ htab;have hP:H P=ja (.tbl (#[.str m.qual 0]++more)):=hP
 have hps:(#[uK m.qual 0]++more)[0]? = ja (.str m.qual 0):=by
  rw [Array.getElem?_append_left (by simp)];rfl
 obtain⟨qs,eq,ht,hrow⟩:=I.hok P _ hP;have Nn:=Nk.at I.mod.kin;obtain⟨bm,ob,b1,b2,b3,b4,b5,b6⟩:=Nn.bm;have hg:=I.mod.glob.keeps I.bk
 have neP:∀b o,X.base.get? b=ja o->b≠P:=λb o e z=>by
  have:=(I.bs b o e).2;rw [z,hP]at this;cases this
 have hgP:mainGlobals≠P:=by
  obtain⟨o,_,_,e,_⟩:=I.mod.glob;exact neP _ o e
 have hbG:bm≠mainGlobals:=λq=>by
  obtain⟨o,es,ep,e,hd,_⟩:=I.mod.glob;rw [q,e]at b3;cases b3;rw [hd]at b6;cases b6
 have hb:s.heap.BuiltinsAt X.mg P:=⟨bm,ob,b1,b2,hbG,neP bm ob b3,I.bk _ _ b3,b4,b5,b6⟩
 have hC:=Nn.hd.keeps I.bk;refine PySem.W.kla_eval hdef ?_;rw [hq];cases hz:codeAmong pos qs.toList with
 |none=>
  refine PySem.W.kla_makeFunction (mg:=X.mg) hcl I.ok.glob hg hcode hC eq ht hz hgP hb λc' ctv h' tk hx hge hlt hrec htb => ?_
  have hcn:H c'=none:=I.hok.fresh hge;obtain⟨c2,oc,vs2,t2,e2,hoc,_⟩:=id hrec;cases e2;refine h _ c' _ ctv oc (aV H c' (.frz oc (.cod m.qual))) _ (λb o e=>by rw [Zn (Yq e hcn)];exact e) ZF (Ev I hP hps eq ht hrow hx hge hoc hrec htb) ?_ (jK hge (uM hlt)) (jD _ rfl);rw [Zn (yG hlt)];exact I.hok.fresh (jK hge (uM hlt))
 |some cv=>
  obtain⟨c,oc,q,u,e1,e2,e3⟩:=hrow pos cv hz;rw [hps]at e3;cases e3;subst e1;refine PySem.W.kla_makeFunctionHit (mg:=X.mg) hcl I.ok.glob hg hcode hC eq ht hz hb λctv h' tk hk hsz => ?_
  exact h _ c _ ctv oc H _ (aH.refl H) e2 (I.kept λb o e=>ji _ (hk b o e)) (I.hok.fresh hsz) hsz (jD _ rfl)
end
section
variable{X:Cx}{pins:al (jf×Obj)}{σ:St}{H:Hp}{s s':jg}
structure dY(X:Cx)(m:Lm)(js:List Nat)(cl:List (Str×jf)):Prop where
 hcl:closureFor m.scope X.env=pure cl
 hce:∀q∈cl,X.env.cells.lookup q.1=ja q.2
 hjs:∀(i:Nat)(y:Str),m.fr[i]? = ja y->∃j c,js[i]? = ja j/\X.N[j]? = ja y/\(X.env.kindOf y=ja .cell\/X.env.kindOf y=ja .free)/\fZ X.env.scope y/\cl.lookup y=ja c
 hjl:js.length=m.fr.length
 hq:X.env.qual ++ "<lambda>" = m.qual
 hdef:defaultsOf m.params X.env=([],[])
def eY(σ:St)(js:al Nat)(vc:al V):Prop:=vc.length=js.length/\∀i j:Nat,js[i]? = ja j->∃v,σ[j]? = ja (ja v)/\vc[i]? = ja v
theorem EC {m:Lm} {cl:al (Str×jf)} {c0 P:jf} {Q:VK} {E:jc->jg->Prop} (I:Inv X pins σ H s) (W:dY X m js cl) (hex:X.ex=[]) (hfn:∀y,X.fn y=je) (Nk:bV X.K X.mg c0 P) (htab:(P,m.qual)∈YV X.K) (hcode:X.env.code = .ref c0)
 (hv:eY σ js vc) (h:∀p cl H',aH H H'->X.s₀.heap.objs.size<=p->(∀q∈cl,X.s₀.heap.objs.size<=q.2)->bw H' p m cl vc->Q (.ref p) H') :
 jJ (model X.prog X.w) X.A (exec (.Return (ja (.Lambda m.params m.body m.scope pos)) pos2) X.env) (λf s'=>∃u,f = .ret u/\CE X.outer X.prog X.w X.H₀ X.s₀ Q u s') E s:=by
 refine WI (EA I Nk htab hcode W.hcl W.hq W.hdef λp c pm ct oc H' s' sm hc J hpn hge hp=>⟨_,rfl,?_⟩)
 have cell:∀q∈cl,∃o v,s'.heap.get? q.2=ja o/\o.data = .cell v:=λq hq=>by
  obtain⟨v,o,e1,e2⟩:=J.cell q.1 q.2 (W.hce q hq);exact⟨o,v,e1,e2⟩
 have hl:∀b∈p::cells cl,H' b=none/\X.s₀.heap.objs.size<=b:=λb hb=>by
  rcases jp.mp hb with e|hb
  . subst e
    exact⟨hpn,jK I.sz hge⟩
  . obtain⟨q,hq,rfl⟩:=qf.mp hb
    exact⟨J.freeC q.1 q.2 (W.hce q hq),J.ok.cab q.1 q.2 (hfn _) (W.hce q hq)⟩
 have out:∀{b:jf}{w':HO},H' b=ja w'->b∉p::cells cl:=λe z=>by rw [(hl _ z).1]at e;cases e
 have np:∀q∈cl,q.2≠p:=λq hq z=>by
  obtain⟨o,v,e1,e2⟩:=cell q hq;rw [z,hp]at e1;cases e1;cases e2
 have inC:∀q∈cl,∀o,s'.heap.get? q.2=ja o->aV (Jm H' s'.heap (cells cl)) p (.frz (u1 "<lambda>" m.qual m.params m.body m.scope cl pm c ct) (.fnc c m.qual)) q.2=ja (fv o):=λq hq o e=>by
  rw [Zn (np q hq),Ex (qf.mpr ⟨q,hq,rfl⟩) e]
 have h3:∀b,b∉p::cells cl->aV (Jm H' s'.heap (cells cl)) p (.frz (u1 "<lambda>" m.qual m.params m.body m.scope cl pm c ct) (.fnc c m.qual)) b=H' b:=λb hb=>by
  rw [Zn λz=>hb (by rw [z];exact jr),Ey λz=>hb (jq _ z)]
 refine Ez (v:=.ref p) J hex hl h3 (λb hb o e => ?_) rfl (h p cl _ (λb o e => ?_) (hl p jr).2 (λq hq=>(hl q.2 (jq _ (qf.mpr ⟨q,hq,rfl⟩))).2) ⟨⟨pm,c,ct,ZF⟩,λx y c e1 e2 => ?_,λq hq => ?_,λi y hy => ?_,hv.1.trans W.hjl⟩)
 . rcases jp.mp hb with z|hb
   . subst z
     rw [ZF]at e;cases e;exact⟨hp,⟨_,hp⟩,oc,by rw [h3 _ (out hc)];exact hc⟩
   . obtain⟨q,hq,rfl⟩:=qf.mp hb
     obtain⟨o',v,e1,_⟩:=cell q hq;rw [inC q hq o' e1]at e;cases e;exact⟨e1,o',e1⟩
 . have z:=sm b o e
   rw [h3 _ (out z)];exact z
 . exact J.ok.inj x y c (W.hce _ (j4 e1)) (W.hce _ (j4 e2))
 . obtain⟨o,v,e1,e2⟩:=cell q hq
   exact⟨o,v,inC q hq o e1,e2⟩
 . obtain⟨j,c,e1,e2,e3,e4,e5⟩:=W.hjs i y hy
   obtain⟨v,h1,h2⟩:=hv.2 i j e1;have hc2:=W.hce (y,c) (j4 e5);obtain⟨mm,_,hl'⟩:=J.loc;obtain⟨u,rv,lk⟩:=hl' j y v e2 h1 e4;rcases lk with⟨k1,_⟩|⟨_,c',hc',o,ho,hd⟩
   . rcases e3 with z|z<;>(rw [k1]at z;cases z)
   . have hc2':X.env.cells.lookup y=ja c:=hc2
     rw [hc']at hc2';cases hc2';exact⟨_,u,v,o,e5,h2,rv,inC _ (j4 e5) o ho,hd⟩
end
theorem ED {K:jb} {k:Nat} {params:Arguments} {pre:al qv} {scope:qH} {dV kV doc pm ct oc:jc} {an od:am jf}
 {osl:Array (am jc)} {N ps:al Str} {sp:Sp} {m:Lm} {c0 Pt:jf}
 (lk:K.lookup f=ja ⟨oc,od,.func (fnOf name qual params (pre++[.Return (ja (.Lambda m.params m.body m.scope pos)) pos2]) scope dV kV doc pm an (.ref c0) ct),osl⟩) (hcd:codeIn K (.ref c0) qual=je) (S:aG N ps scope)
 (Nk:bV K mg c0 Pt) (htab:(Pt,m.qual)∈YV K)
 (W:∀(A:qe)(outer:al Env)(s:jg)(H:Hp)(E:XK),∃cl,dY (ZJ CX P w K mg base N qual scope f (.ref c0) A outer s H E) m js cl)
 (len:∀vs H Q E,sp vs H Q E->vs.length=ps.length)
 (hbody:∀(A:qe)(outer:al Env)(s:jg)(H:Hp)(vs:al V)(Q:VK)(E:XK),a4 k (A.deeper (envOfC qual scope s.heap.objs.size f (.ref c0)))->sp vs H Q E ->
   ∃t,cK (ZJ CX P w K mg base N qual scope f (.ref c0) A outer s H E) pre t/\t { nx:=λσ H'=>∃vc,eY σ js vc/\∀p cl H'',aH H' H''->H p=none->(∀q∈cl,H q.2=none)->bw H'' p m cl vc->Q (.ref p) H'',rt:=Q } (start N vs) H) :
 aO P w K mg base CX (k+1) f (fnOf name qual params (pre++[.Return (ja (.Lambda m.params m.body m.scope pos)) pos2]) scope dV kV doc pm an (.ref c0) ct) ps sp:=by
 refine⟨len,λA outer s H args us vs Q E hr e0 hb r hsp => ?_⟩;have hl:=len _ _ _ _ hsp;have KX:K.In s.heap:=e0.mod.kin.keeps λb o e=>(e0.bs b o e).1
 have lim:s.heap.NoLimit:=e0.mod.nolimit.keeps λb o e=>(e0.bs b o e).1
 have hkind:∀y∈ps.zip us,scope.names.lookup y.1=ja .local\/(scope.names.lookup y.1=ja .cell/\((cellsFrom (s.heap.objs.size+1) scope.names []).lookup y.1).isSome=je):=λ⟨n,v⟩ hy=>by
  rcases S.par n (uF hy).1 with q|q
  . exact .inl q
  . exact .inr ⟨q,uZ _ _ _ (.inl q)⟩
 refine v9 hr.depth (KX _ _ lk) rfl S.co S.gen rfl (vd KX hcd) (hb _ _ _ _ ?_);refine o8 S.kind hkind λenv he s1 x => ?_
 subst he;refine⟨lim.keeps x.toInCall.keep,codeAny_func ?_⟩;obtain⟨t,ht,hq⟩:=hbody A outer s H vs Q E (hr.deeper _) hsp;have I0:Inv (ZJ CX P w K mg base N qual scope f (.ref c0) A outer s H E) [] (start N vs) H s1:=sG S hr.hd e0 hl r x;rw [wO];refine jl (j7 (ht [] s1 (start N vs) H _ I0 hq) (λfl s' hs => ?_) λe s' hs=>hs)
 have fin:∀{σ':St}{H':Hp}{v:V}{u:jc},Inv (ZJ CX P w K mg base N qual scope f (.ref c0) A outer s H E) [] σ' H' s'->RelV v u->Q v H'->CE outer P w H s Q u s':=
  λ{σ' H' v u} J rv q=>⟨v,H',J.os,J.bare,J.base,J.hok,rv,q⟩
 cases fl with
 |ret u=>
  obtain⟨v,σ',H',J,rv,q⟩:=hs;exact jB (fin J rv q)
 |next=>
  obtain⟨σ',H',J,vc,hv,q⟩:=hs;obtain⟨cl,hW⟩:=W A outer s H E;refine Oo (j7 (EC J hW rfl (λ_=>rfl) Nk htab rfl hv λp cl H'' sm h1 h2=>q p cl H'' sm (e0.hok.fresh h1) λx hx=>e0.hok.fresh (h2 x hx)) (λfl2 s2 ⟨u,e,z⟩ => ?_) λe s' z=>z);subst e;exact z
 |brk=>
  obtain⟨_,_,_,q⟩:=hs;exact qi q
 |cont=>
  obtain⟨_,_,_,q⟩:=hs;exact qi q
end L2
namespace DL
open PySem PySem.Spec L2
section
variable{cA:Kn}{G:Cn}{ow owN owB owC:al Nat}
noncomputable def cM(δ:Env):al Nat->am (al D)
 | []=>ja []
 |j::js=>match δ[j]?,cM δ js with
  |some (ja d),ja xs=>ja (d::xs)
  |_,_=>none
theorem wP(E:ER G ow H0 av A σ H δ):∀{js:al Nat}{xs:al D},cM δ js=ja xs->∃vc,eY σ js vc/\aD G.1 av H xs vc
 | [],xs,h=>by
  cases h;exact⟨[],⟨rfl,λi j e=>by simp at e⟩,aD.nil⟩
 |j::js,xs,h=>by
  unfold cM at h
  split at h
  . rename_i d ys e1 e2
    cases h;obtain⟨vc,hv,r⟩:=wP E e2;obtain⟨v,e3,k1,k2⟩:=E.var j d e1
    have hr:Rep G.1 av H d v:=by
     cases hA:A j with
     |none=>exact(k1 hA).av λb z => .inl (.inl z)
     |some a=>
      obtain⟨e4,o⟩:=k2 a hA;subst e4;exact dL.rep (λz=>E.avd a z (E.fr j a hA)) (o.av λb z => .inl (.inl z))
    refine⟨v::vc,⟨by rw [jh,jh,hv.1],λi k e => ?_⟩,aD.cons hr r⟩;cases i with
    |zero=>
     cases e;exact⟨v,e3,rfl⟩
    |succ i=>exact hv.2 i k e
  . cases h
def Vx(N:Nat)(φ:Env->am aT)(k:Nat)(js:al Nat)(ds:al D):am D:=match φ (ds.map ja++jd (N-ds.length) none)with
 |some (.rt d)=>ja d
 |some (.nx δ)=>(cM δ js).map (D.clo k)
 |_=>none
theorem EE {K:jb} {st:qv} {fd:qI} {N ps:al Str} {k n i:Nat} {pre:al qv} {scope:qH} {c0 Pt:jf} {m:al D->am D}
 (F:bu K x qual st f fd) (S:aG N ps (aA st)) (hS:aA st=scope) (hB:aN st=pre++[.Return (ja (.Lambda (cA.lm i).params (cA.lm i).body (cA.lm i).scope pos)) pos2]) (hc0:fd.code = .ref c0)
 (Nk:bV K mg c0 Pt) (htab:(Pt,(cA.lm i).qual)∈YV K)
 (W:∀(A:qe)(outer:al yq)(s:jg)(H:Hp)(E:XK),∃cl,dY (ZJ bF P w K mg base N qual scope f (.ref c0) A outer s H E) (cA.lm i) js cl)
 (hbody:∀(A:qe)(outer:al yq)(s:jg)(H:Hp)(E:XK),a4 k (A.deeper (qm qual scope s.heap.objs.size f (.ref c0))) ->
   ∃t,cK (ZJ bF P w K mg base N qual scope f (.ref c0) A outer s H E).nox pre t/\∃owN,VS ⟨cA,λ_=>none⟩ [] owN [] [] t φ) (hm:m=Vx N.length φ i js) (hn:ps.length=n):aO P w K mg base bF (k+1) f fd ps (cp cA n m):=by
 subst hS hm hn;obtain⟨oc,od,dV,kV,doc,pm,an,cdv,ct,osl,rfl,lk,hcd⟩:=F.ex;cases(show cdv = .ref c0 from hc0);rw [hB]at lk ⊢;refine ED lk hcd S Nk htab W (λvs H Q E h => ?_) λA outer s H vs Q E hr h => ?_
 . obtain⟨av,ds,d,_,r,hl,_⟩:=h
   rw [<-r.length,hl]
 . obtain⟨av,ds,d,ha,r,hl,hm,q⟩:=h
   obtain⟨t,ht,owN,hv⟩:=hbody A outer s H E hr;refine⟨t,ht.nox,?_⟩;unfold Vx at hm;cases hφ:φ (ds.map ja++jd (N.length-ds.length) none)with
   |none=>rw [hφ]at hm;cases hm
   |some o=>
    rw [hφ]at hm;refine hv H av _ _ H _ (VZ ha r) o hφ _ ?_;cases o with
    |nx δ'=>
     intro A' σ' H' E';cases hp:cM δ' js with
     |none=>dsimp only at hm;rw [hp]at hm;cases hm
     |some xs=>
      dsimp only at hm;rw [hp]at hm;cases hm;obtain⟨vc,hvc,rc⟩:=wP E' hp;refine⟨vc,hvc,λp cl H'' sm h1 h2 L=>q _ H'' (E'.same.trans sm) ?_⟩;unfold Rep;exact⟨p,cl,vc,rfl,λz=>ha p z h1,λx hx z=>ha x.2 z (h2 x hx),L,rc.same sm⟩
    |rt d'=>cases hm;exact λv H' s' r'=>q v H' s' r'
    |bk δ'=>cases hm
    |ct δ'=>cases hm
end
mutual
def eZ:D->Bool
 | .lst xs=>YQ xs
 | .tup xs=>YQ xs
 | .obj _ _ xs=>YQ xs
 | .dct _ xs=>YQ xs
 | .dtt _ xs=>YQ xs
 | .clo _ _=>jj
 | .exc _ _=>jj
 |_=>je
def YQ:al D->Bool
 | []=>je
 |x::xs=>eZ x&&YQ xs
end
section
variable{cA:Kn}{G:Cn}{ow owN owB owC:al Nat}
variable{av:jf->Prop}{H:Hp}{cs:al jf}
theorem EF{u:HO}(hc:eH H cs)(hu:∀o,u≠fv o)(hf:u ≠ .own 0)(h:Rd H a u):Rd (cP H cs) a u:=by
 rcases h with h|⟨o,h⟩
 . exact .inl (hc.out h hu)
 . exact .inr ⟨o,hc.out h λo' z=>by cases z;exact hf rfl⟩
theorem EG{K:jb}(hc:eH H cs)(h:bv K H a vs):bv K (cP H cs) a vs:=by
 rcases h with h|h
 . exact .inl (EF hc (λo=>by simp) (by simp) h)
 . exact .inr h
mutual
theorem Rep.drp(hc:eH H cs):∀{d:D}{v:V},eZ d=je->Rep cA av H d v->Rep cA av (L2.cP H cs) d v
 | .non,_,_,h=>h
 | .bl _,_,_,h=>h
 | .int _,_,_,h=>h
 | .str _,_,_,h=>h
 | .lst xs,v,n,h=>by
  unfold Rep at h ⊢;obtain⟨a,vs,e,n1,r,l⟩:=h;exact⟨a,vs,e,n1,EG hc r,aD.drp hc (by unfold eZ at n;exact n) l⟩
 | .tup xs,v,n,h=>by
  unfold Rep at h ⊢;obtain⟨a,vs,e,n1,r,l⟩:=h;exact⟨a,vs,e,n1,hc.out r λo=>by simp,aD.drp hc (by unfold eZ at n;exact n) l⟩
 | .obj c ks xs,v,n,h=>by
  unfold Rep at h ⊢;obtain⟨a,dx,vs,e,n1,r,z,l⟩:=h;exact⟨a,dx,vs,e,n1,hc.out r λo=>by simp,z,aD.drp hc (by unfold eZ at n;exact n) l⟩
 | .dct ks xs,v,n,h=>by
  unfold Rep at h ⊢;obtain⟨a,vs,e,n1,r,z,l⟩:=h;exact⟨a,vs,e,n1,hc.out r λo=>by simp,z,aD.drp hc (by unfold eZ at n;exact n) l⟩
 | .dtt ks xs,v,n,h=>by
  unfold Rep at h ⊢;obtain⟨a,vs,e,n1,r,z,l⟩:=h;exact⟨a,vs,e,n1,hc.out r λo=>by simp,z,aD.drp hc (by unfold eZ at n;exact n) l⟩
 | .clo k xs,v,n,h=>by unfold eZ at n;cases n
 | .exc c r,v,n,h=>by unfold eZ at n;cases n
theorem aD.drp(hc:eH H cs):∀{xs:al D}{vs:al V},YQ xs=je->aD cA av H xs vs->aD cA av (L2.cP H cs) xs vs
 | [],_,_,h=>h
 |x::xs,vs,n,h=>by
  unfold aD at h ⊢;obtain⟨v,r,e,h1,h2⟩:=h;unfold YQ at n;obtain⟨n1,n2⟩:=Bool.and_eq_true_iff.mp n;exact⟨v,r,e,Rep.drp hc n1 h1,aD.drp hc n2 h2⟩
end
def wQ(cA:Kn)(n:Nat)(m:al D->am D)(vc:al V):Sp:=λvs H Q _=>∃av ds cs d,(∀a,av a->H a≠none)/\aD cA av H ds vs/\ds.length=n/\aD cA av H cs vc/\m (ds++cs)=ja d/\∀v H',aH H H'->Rep cA av H' d v->Q v H'
def Qy(N:Nat)(ε:Env->am D)(ds:al D):am D:=ε (ds.map ja++jd (N-ds.length) none)
theorem cC.none_of{q:Ql}{d:D}{v:V}{H':Hp}(h:cC cA av (λ_=>none) H' q d v):Rep cA av H' d v:=by
 have w:∀a,AV av (λ_=>none) a->av a:=λa z=>z.elim id λ⟨_,z⟩=>by cases z
 cases q with
 |cl=>exact(bf.weak (λa z => .inl z) (λa z => .inl z) h).r
 |tp=>exact(bf.weak (λa z=>z) (λa z => .inl z) h).r
 |dt=>exact bf.r h
end
end DL
namespace L2
open PySem PySem.Spec PyProof.Rows
abbrev fk(kvs:al (Str×jc)):al (cQ×jc):=kvs.map λq=>(uc q.1,q.2)
structure gv(P:jS)(w:jV)(K:jb)(a:jf)(kvs:List (Str×jc)):Prop where
 dict:∀h,K.In h->h.DictOf (Qc P w) a (fk kvs)
 nsys:(a == sysModules)=jj
theorem gv.of {P:jS} {w:jV} {K:jb} {a:jf} {n:Nat} {kvs:al (Str×jc)} {ts:al Nat} (h:K.lookup a=ja ⟨.type "dict",none,.dict ((kvs.zip ts).map λq=>⟨q9 w.params q.1.1,.str q.1.1 q.2,q.1.2⟩:al DictEntry).toArray n,#[]⟩) (hl:ts.length=kvs.length)
 (nd:(kvs.map (·.1)).Nodup) (ns:(a == sysModules)=jj):gv P w K a kvs:=by
 refine⟨λhp M=>⟨_,_,n,M _ _ h,⟨rfl,rfl,rfl⟩,rfl,λe he => ?_,?_,?_⟩,ns⟩
 . have he:e∈(kvs.zip ts).map λq=>(⟨q9 w.params q.1.1,.str q.1.1 q.2,q.1.2⟩:DictEntry):=by simpa using he
   obtain⟨q,_,rfl⟩:=qf.mp he;exact⟨.inr q.1.1,lf P w q.1.1 q.2,rfl⟩
 . show Pairs _ ((kvs.zip ts).map λq=>(⟨q9 w.params q.1.1,.str q.1.1 q.2,q.1.2⟩:DictEntry)) (fk kvs)
   have go:∀(l:al (Str×jc))(ts:al Nat),ts.length=l.length->Pairs (Qc P w) ((l.zip ts).map λq=>(⟨q9 w.params q.1.1,.str q.1.1 q.2,q.1.2⟩:DictEntry)) (fk l):=by
    intro l
    induction l with
    |nil=>intro ts _;exact .nil
    |cons q l ih=>
     intro ts hl;cases ts with
     |nil=>cases hl
     |cons t ts=>exact .cons (lf P w q.1 t) rfl (ih ts (by simpa using hl))
   exact go kvs ts hl
 . rw [qM]
   have e:(Prod.fst∘λq:Str×jc=>((uc q.1:cQ),q.2))=λq=>uc q.1:=rfl
   rw [e];have:(kvs.map λq=>(uc q.1:cQ))=(kvs.map (·.1)).map uc:=by rw [qM];rfl
   rw [this];exact List.Pairwise.map _ (λa b h z=>h (Wn z)) nd
section
variable{X:Cx}{i o:qA}{pos:Pos}{ty:TE}{kvs:al (Str×jc)}{a:jf}
theorem wR(r:RelV (.str z) u):(Qc X.prog X.w).is (.inr z) u=true:=by
 obtain⟨t,rfl⟩:=r;exact lf _ _ z t
def wS(kvs:al (Str×jc))(ty:TE):TE:=λσ H Q=>ty σ H λy H1=>∃z,y = .str z/\Q (.bl (!(valueAt (fk kvs) (.inr z)).isSome)) H1
def wT(kvs:al (Str×jc))(ty:TE):TE:=λσ H Q=>ty σ H λy H1=>∃z f,y = .str z/\valueAt (fk kvs) (.inr z)=ja (.ref f)/\Q (.ref f) H1
theorem EH {g:Str} (M:gv X.prog X.w X.K a kvs) (hi:PE X i ty) (hg:Gl X g) (hm:X.mg g=ja (.ref a)) (hd:autoParam ((g == ("__debug__" : Str))=false) ad):PC X .NotIn i (.Name g pg) (wS kvs ty):=by
 intro pins s σ H Q I h;refine aW (hi pins s σ H _ I h) λiv s1 ⟨y,H1,I1,ry,z,ey,q1⟩=>X8 I1 hg hm ?_ hd
 subst ey;have dd:=M.dict _ I1.kIn;refine wpAny_notIn_of (wR ry) M.nsys dd.mapOf ?_;exact⟨.bl _,H1,I1.tok _,rfl,q1⟩
theorem EI {g:Str} (M:gv X.prog X.w X.K a kvs) (hi:PE X i ty) (hg:Gl X g) (hm:X.mg g=ja (.ref a)) (hs:wC i) (hd:autoParam ((g == ("__debug__" : Str))=false) ad):PE X (.Subscript (.Name g pg) i pos) (wT kvs ty):=by
 intro pins s σ H Q I h;refine Eg PySem.F.slot_dict_getitem.lookup hs (X8 I hg hm (aW (hi pins s σ H _ I h) λiv s2 Z=>?_) hd);obtain⟨y,H2,I2,ry,z,f,ey,g,q2⟩:=Z;subst ey;have dd:=M.dict _ I2.kIn;obtain⟨ob,es,ep,h1,h2,_⟩:=id dd;exact⟨⟨ob,h1,h2.1⟩,wpAny_getItem_of (wR ry) dd.mapOf g ⟨.ref f,H2,I2.tok _,rfl,q2⟩⟩
def wU(i:Nat)(fs:al (jf×Sp))(t:TA):TE:=λσ H Q=>∃q∈fs,σ[i]? = ja (ja (.ref q.1))/\t σ H λvs H1=>q.2 vs H1 Q E0
theorem EJ {i k:Nat} {x:Str} {fs:al (jf×Sp)} {e:qA} {es:al qA} (F:∀q∈fs,∃fd ps,aO X.prog X.w X.K X.mg X.base bF k q.1 fd ps q.2/\Binds X.K fd ps []/\∃oc od osl,X.K.lookup q.1=ja ⟨oc,od,.func fd,osl⟩) (hr:a4 k X.A)
 (hN:X.N[i]? = ja x) (hv:fZ X.env.scope x) (ha:PA X (e::es) t)
 (hd:autoParam ((x == ("__debug__" : Str))=false) ad) (hcd:autoParam ((x == ("__classdict__" : Str))=false) ad)
 (he:autoParam (starEach (e::es) X.env=(jj,eval e X.env)::starEach es X.env) ah) (hpl:autoParam ((backTo pos (starEach es X.env)).any (·.1)=false) ah) :
 PE X (.Call (.Name x pn) (e::es) [] pos) (wU i fs t):=by
 intro pins s σ H Q I h;obtain⟨q,hq,h0,h⟩:=h;obtain⟨fd,ps,F,hb,oc,od,osl,lk⟩:=F q hq;have fa:∀{σ:St}{H:Hp}{s:jg},Inv X pins σ H s->Wf q.1 s.heap:=λ{σ H s} J=>⟨oc,od,fd,osl,J.kIn _ _ lk⟩
 refine yc (aW (lj hN hv hd hcd pins s σ H (λv H'=>v = .ref q.1/\H'=H) I ⟨_,h0,rfl,rfl⟩) λu s1 z=>?_);obtain⟨v,H1,I1,rv,e1,e2⟩:=z;subst e1 e2;cases rv;refine ve (fa I1) (aW (ha pos pins s1 σ _ _ I1 h) λus s2 ⟨vs,H2,I2,r,q⟩=>⟨fa I2,?_⟩) he hpl;exact lH (dvs:=[]) F hr hb .nil Xv I2 r (by rw [qh];exact q)
end
end L2
namespace DL
open PySem PySem.Spec L2
section
variable{cA:Kn}{G:Cn}{ow owN owB owC:al Nat}{H0:Hp}{av:jf->Prop}{A:Nat->am jf}{σ:L2.St}{H:Hp}{δ:Env}
theorem wV{v:V}(h:cC cA av A H q (.str cs) v):v = .str (tx cs):=by
 cases q<;>exact h
abbrev cL:=al (al Nat×Nat×(al D->am D))
abbrev Ux(tab:cL)(as:al jf):al (Str×jc):=(tab.zip as).map λq=>(tx q.1.1,.ref q.2)
abbrev Jn(cA:Kn)(tab:cL)(as:al jf):al (jf×Sp):=(tab.zip as).map λq=>(q.2,cp cA q.1.2.1 q.1.2.2)
theorem nk(cs:al Nat):∀(tab:cL)(as:al jf),as.length=tab.length ->
 (match tab.find? (·.1 == cs)with
 |some x=>∃f,valueAt (fk (Ux tab as)) (.inr (tx cs))=ja (.ref f)/\(f,cp cA x.2.1 x.2.2)∈Jn cA tab as
 |none=>valueAt (fk (Ux tab as)) (.inr (tx cs))=none)
 | [],_,_=>rfl
 |x::tab,[],h=>by cases h
 |x::tab,a::as,h=>by
  have ih:=nk cs tab as (by simpa using h)
  by_cases hx:x.1=cs
  . subst hx
    rw [o4 (by simp)];refine⟨a,?_,jr⟩;show(W6 _ ((uc (tx x.1),jY a)::_)).map _=_;rw [o4 (by simp)];rfl
  . rw [o5 (by simpa using hx)]
    have e:valueAt (fk (Ux (x::tab) (a::as))) (.inr (tx cs))=valueAt (fk (Ux tab as)) (.inr (tx cs)):=by
     show(W6 _ ((uc (tx x.1),jY a)::_)).map _=_
     rw [o5 (by
      have:¬tx x.1=tx cs:=λz=>hx (dJ.mp z)
      simpa using this)]
     rfl
    rw [e];cases hf:tab.find? (·.1 == cs)with
    |none=>rw [hf]at ih;exact ih
    |some y=>
     rw [hf]at ih;obtain⟨f,h1,h2⟩:=ih;exact⟨f,h1,jq _ h2⟩
def Jo(tab:cL)(ε:Env->am D)(δ:Env):am D:=match ε δ with
 |some (.str cs)=>ja (.bl (!(tab.find? (·.1 == cs)).isSome))
 |_=>none
theorem EK{tab:cL}{as:al jf}(hl:as.length=tab.length)(h:VE G ow ty q ε):VE G ow (wS (Ux tab as) ty) .cl (Jo tab ε):=λH0 av A σ H δ E d e Q k=>by
 unfold Jo at e
 split at e
 . rename_i cs hx
   cases e;refine h H0 av A σ H δ E _ hx _ λv H1 s1 r1=>⟨tx cs,wV r1,k _ H1 s1 ?_⟩
   have m:=nk (cA:=G.1) cs tab as hl
   have e:(valueAt (fk (Ux tab as)) (.inr (tx cs))).isSome=(tab.find? (·.1 == cs)).isSome:=by
    cases hf:tab.find? (·.1 == cs)with
    |none=>rw [hf]at m;rw [m];rfl
    |some y=>rw [hf]at m;obtain⟨f,h1,_⟩:=m;rw [h1];rfl
   rw [e];rfl
 . cases e
noncomputable def iG(i:Nat)(tab:cL)(ε:Env->am D)(α:Env->am (al D))(δ:Env):am aT:=match ε δ with
 |some (.str cs)=>match tab.find? (·.1 == cs),α (δ.set i none)with
  |some x,ja ds=>if i<δ.length/\ds.length=x.2.1 then(x.2.2 ds).map aT.rt else none
  |_,_=>none
 |_=>none
theorem EL{i:Nat}{tab:cL}{as:al jf}(hl:as.length=tab.length)(h:VE G ow ty q ε)(ha:VA G ow t qa α)(hi:ow.contains i=jj)(hG:G.2 i=none) :
 VS G ow owN owB owC (VQ (Uj (wT (Ux tab as) ty) (Uh i)) (QW (wU i (Jn G.1 tab as) t))) (iG i tab ε α):=λH0 av A σ H δ E o e De k=>by
 unfold iG at e
 split at e
 . rename_i cs hx
   split at e
   . rename_i x ds hf hds
     split at e
     . rename_i hz
       cases hm:x.2.2 ds with
       |none=>rw [hm]at e;cases e
       |some d=>
        rw [hm]at e;cases e;have m:=nk (cA:=G.1) cs tab as hl;rw [hf]at m;obtain⟨f,h1,h2⟩:=m;refine h H0 av A σ H δ E _ hx _ λv H1 s1 r1=>⟨tx cs,f,wV r1,h1,?_⟩
        have E1:=(E.mono s1).none (x:=ja (.ref f)) hi hG;refine⟨_,h2,?_,ha H0 av A _ H1 _ E1 ds hds _ λvs H2 s2 r2 => ?_⟩
        . rw [qN (by rw [E.len];exact hz.1)]
        . exact⟨av,ds,d,(E1.mono s2).avH,r2.any,hz.2,hm,λv H' s' r'=>k v H' ((E1.mono s2).same.trans s') r'⟩
     . cases e
   . cases e
 . cases e
end
section
variable{cA:Kn}{G:Cn}{ow owN owB owC:al Nat}
def ins{α:Type}(j:Nat)(x:α)(l:al α):al α:=l.take j++x::l.drop j
end
end DL
namespace L2
open PySem PySem.Spec PyProof.Rows
theorem Jp {K:jb} {h:jX} {c P bm:jf} {od:am jf} {vs:Array jc} {sl sl2:Array (am jc)} {flags text:Int} {inF:Bool} (X:K.In h) (G:h.Ns mainGlobals mg)
 (e1:K.lookup c=ja ⟨.type "code",od,.fields vs,sl⟩) (e2:vs[11]? = ja (.ref P)) (e3:vs[18]? = ja (.str file tf)) (e4:vs[7]? = ja (.int flags tg)) (e5:vs[9]? = ja (.bool inF)) (e6:vs[10]? = ja (.int text tt)) (hne:c≠P)
 (b1:nsIn K mainGlobals "__builtins__" = ja (ja (.ref bm))) (b2:K.lookup bm=ja ⟨.type "module",ja builtinsNs,.plain,sl2⟩) (b3:bm≠builtinsNs):bV K mg c P:=by
 have g:∀{i:Nat}{v:jc},vs[i]? = ja v->vs.getD i .none=v:=λ{i v} e=>by
  rw [Array.getD_eq_getD_getElem?,e];rfl
 exact⟨⟨_,vs,file,tf,flags,tg,inF,text,tt,e1,rfl,rfl,e2,g e2,g e3,g e4,g e5,g e6,hne⟩,bm,_,ur X G b1,b3,b2,rfl,rfl,rfl⟩
theorem nl{β:Type}{b:jf}{v:β}:∀{l:al (jf×β)},l.lookup b=ja v->(b,v)∈l
 | [],e=>by cases e
 |(a,u)::l,e=>by
  rw [jC]at e;cases hb:b == a with
  |true=>
   rw [hb]at e;cases e;rw [eq_of_beq hb];exact jr
  |false=>
   rw [hb]at e;exact jq _ (nl e)
theorem EM {K:jb} {mg mb:Str->am jc} {CX:dq} {k:Nat} {aX:al (jf×Str)} {x:Str} {sp:Sp} {s₁:jg} {vs:al jc} {ns:al Int}
 (KX:K.In s₁.heap) (hns:s₁.heap.Ns mainGlobals mg) (hb:s₁.heap.Ns builtinsNs mb) (hbb:∀x:Str,x ≠ "__name__" -> mb x=bootBuiltins x) (hlim:s₁.heap.NoLimit) (hg:s₁.gens = #[])
 (ha:s₁.heap.get? a=ja { cls := .type "list",data := .seq vs.toArray }) (hi:IntsAre vs ns) (hl:ns.length<=jv) (hr:a4 k callerA)
 (hP:∀q∈aX,s₁.heap.get? q.1=ja (jW #[])) (hT:YV K=aX) (hL:∀q∈aX,aX.lookup q.1=ja q.2) (hKP:∀q∈aX,K.lookup q.1=none) (hct:∀q∈aX,isCodeTable s₁.heap q.1)
 (F:∀base:jX,K.In base->base.Ns mainGlobals mg->aO P w K mg base CX k fa fd [x] sp) (hbind:∀(s:jg)(u:jc),BindsTo s fd ⟨[u],[]⟩ [(x,u)])
 (hsp:∀H:Hp,bv K H a (ns.map V.int)->sp [.ref a] H (λv _=>v = .bl je) λ_ _ _=>False)
 (hCX:∀H e s',CX [] H s₁ (λ_ _ _=>False) e s'->False) :
 codeAny (model P w) callerA (.call (.ref fa) ⟨[.ref a],[]⟩) (λr s'=>r = .ok (.ret (.bool je))/\OldK s₁.heap s'.heap/\s'.os=s₁.os/\AllBare s'.gens) s₁:=by
 have rv:=BR hi;have lenV:=hi.length;have at_:∀{b:jf}{q:Str},aX.lookup b=ja q->(b,q)∈aX:=λe=>nl e
 have haP:aX.lookup a=none:=by
  cases e:aX.lookup a with
  |none=>rfl
  |some q=>
   have z:=hP _ (at_ e);rw [ha]at z;cases z
 have core:∀H:Hp,(∀b q,aX.lookup b=ja q->H b=ja (.tbl #[.str q 0]))->(∀b,aX.lookup b=none->H b=none\/(b=a/\K.lookup a=none/\∃xs,H b=ja (.frz { cls := .type "list",data := .seq vs.toArray } (.lst xs))))->bv K H a (ns.map V.int)->bS P w H s₁.heap ->
  codeAny (model P w) callerA (.call (.ref fa) ⟨[.ref a],[]⟩) (λr s'=>r = .ok (.ret (.bool je))/\OldK s₁.heap s'.heap/\s'.os=s₁.os/\AllBare s'.gens) s₁:=by
  intro H hHP hO hS hok;have base_of:∀{b:jf}{o:Obj},s₁.heap.get? b=ja o->H b=none->(VP s₁.heap H).get? b=ja o:=λe n=>Az e n
  have noA:∀{b:jf}{o:Obj}{es:Array DictEntry}{ep:Nat},s₁.heap.get? b=ja o->o.data = .dict es ep->H b=none:=λ{b o es ep} e d=>by
   cases hbP:aX.lookup b with
   |some q=>
    have z:=hP _ (at_ hbP);rw [e]at z;cases z;cases d
   |none=>
    rcases hO b hbP with z|⟨z,_⟩
    . exact z
    . rw [z,ha]at e;cases e;cases d
  have nsK:∀{b:jf}{m:Str->am jc},s₁.heap.Ns b m->(VP s₁.heap H).Ns b m:=λ{b m} ⟨o,es,ep,e,d,r⟩=>⟨o,es,ep,base_of e (noA e d),d,r⟩
  have hKb:K.In (VP s₁.heap H):=λb o e=>base_of (KX b o e) (by
   cases hbP:aX.lookup b with
   |some q=>
    have z:=hKP _ (at_ hbP);rw [e]at z;cases z
   |none=>
    rcases hO b hbP with z|⟨z,z2,_⟩
    . exact z
    . rw [z,z2]at e;cases e)
  have hM:Mod K mg (VP s₁.heap H):=⟨hKb,nsK hns,⟨mb,nsK hb,hbb⟩,let⟨mc,h1,h2⟩:=hlim;⟨mc,nsK h1,h2⟩⟩
  have e0:dh P w K mg (VP s₁.heap H) callerA [] s₁ H:=⟨rfl,hM,λb o e=>AA e,uN (Ay _ _),trivial,λb hb=>absurd (show b∈([]:al jf)from hb) (by simp),hok,.of_eq hg,λq hq=>by
   rw [hT]at hq;exact⟨#[],by rw [hHP q.1 q.2 (hL q hq)];rfl⟩⟩
  refine yM ((F _ hKb (nsK hns)).run callerA [] s₁ H ⟨[.ref a],[]⟩ [.ref a] [.ref a] _ _ hr e0 (hbind s₁ (.ref a)) (.cons rfl .nil) (hsp H hS)) λr s' h => ?_
  cases r with
  |error e=>exact(hCX H e s' h).elim
  |ok fl=>
   cases fl with
   |next=>exact qi h
   |brk=>exact qi h
   |cont=>exact qi h
   |ret u=>
    obtain⟨v,H',os,bare,un,hok',r',q⟩:=h;have q':v = .bl true:=q;subst q';obtain rfl:u=uw true:=r'
    have kept:∀b o,aX.lookup b=none->s₁.heap.get? b=ja o->s'.heap.get? b=ja o:=λb o hbP e=>by
     rcases hO b hbP with z|⟨z,_,xs,z2⟩
     . exact un.keep b o e z (by intro z;exact absurd (show b∈([]:al jf)from z) (by simp)) (by simp)
     . have z3:=un.frzs b _ _ z2
       obtain⟨e2,_⟩:=hok' b _ z3;rw [z,ha]at e;cases e;exact e2
    have tab:∀b q,aX.lookup b=ja q->∃qs,s'.heap.get? b=ja (jW qs):=λb q e=>by
     obtain⟨more,z⟩:=un.tbls b _ (hHP b q e);obtain⟨qs,e,_⟩:=hok' b _ z;exact⟨qs,e⟩
    refine⟨rfl,⟨λb o e => ?_,λb o e => ?_⟩,os,bare⟩
    . cases hbP:aX.lookup b with
      |some q=>
       obtain⟨qs,e2⟩:=tab b q hbP;have z:=hP _ (at_ hbP);have z:s₁.heap.get? b=_:=z;rw [z]at e;cases e;exact .inr (.inl ⟨hct _ (at_ hbP),rfl,#[],qs,rfl,by rw [Array.empty_append];exact e2⟩)
      |none=>exact .inl (kept b o hbP e)
    . cases hbP:aX.lookup b with
      |some q=>
       obtain⟨qs,e2⟩:=tab b q hbP;exact⟨_,e2⟩
      |none=>exact⟨o,kept b o hbP e⟩
 have tabOk:∀(H:Hp)(b:jf)(q:Str),aX.lookup b=ja q->aZ P w H s₁.heap b (.tbl #[.str q 0]):=λH b q e=>⟨#[],hP _ (at_ e),trivial,λpos cv z=>by cases z⟩
 cases hk:K.lookup a with
 |some o=>
  have e:=KX a o hk;rw [ha]at e;cases e;refine core (λb=>(aX.lookup b).map λq => .tbl #[.str q 0]) (λb q e=>by(try dsimp only);rw [e];rfl) (λb hb => .inl (by(try dsimp only);rw [hb];rfl)) (.inr ⟨_,vs.toArray,_,hk,rfl,rfl,rfl,by rw [jN,lenV];exact hl,by simpa using rv⟩) (λb u z => ?_);obtain⟨q,e1,e2⟩:=ud.mp z;subst e2;exact tabOk _ b q e1
 |none=>
  refine core (λb=>match aX.lookup b with|some q=>ja (.tbl #[.str q 0])|none=>if b=a then ja (.frz { cls := .type "list",data := .seq vs.toArray } (.lst (ns.map V.int)))else none) (λb q e=>by(try dsimp only);rw [e]) (λb hb => ?_) (.inl (.inr ⟨{ cls := .type "list",data := .seq vs.toArray },by(try dsimp only);rw [haP];exact if_pos rfl⟩)) (λb u z => ?_)
  . by_cases hb2:b=a
    . exact .inr ⟨hb2,hk,_,by(try dsimp only);rw [hb];exact if_pos hb2⟩
    . exact .inl (by(try dsimp only);rw [hb];exact if_neg hb2)
  . cases e:aX.lookup b with
    |some q=>
     (try dsimp only at z)
     rw [e]at z;cases z;exact tabOk _ b q e
    |none=>
     (try dsimp only at z)
     rw [e]at z
     by_cases hb2:b=a
     . have z':=(if_pos hb2).symm.trans z
       cases z';subst hb2;exact⟨ha,by rw [jk];exact hl,vs,_,rv,ha⟩
     . have z':=(if_neg hb2).symm.trans z
       cases z'
theorem gJ {l:OS} {n k:Nat} {q:jS} {XP:(Str->am jc)->jX->Prop} {YP:jV->jX->Prop} {d:DefRec} {K:Params->jb} {CX:jV->dq} {sp:jV->Sp} {x:Str} {aX:al (jf×Str)}
 (hn:l.most=ja n) (hn2:n<=jv) (hdf:d.params.defaults=[]) (hr:a4 k callerA)
 (hY:∀(w:jV)(h:jX),YP w h->(K w.params).In h/\∀q∈aX,h.get? q.1=ja (jW #[]))
 (hT:∀w:jV,YV (K w.params)=aX) (hL:∀q∈aX,aX.lookup q.1=ja q.2) (hKP:∀w:jV,∀q∈aX,(K w.params).lookup q.1=none)
 (hct:∀w:jV,∀q∈aX,∃c o vs,(K w.params).lookup c=ja o/\o.cls = .type "code" /\ o.data = .fields vs/\vs[11]? = ja (.ref q.1))
 (F:∀(w:jV)(mg:Str->am jc)(fa:jf)(h:jX),(K w.params).In h->h.Ns mainGlobals mg->mg d.name=ja (.ref fa) ->
   ∃fd:qI,(∀(s:jg)(u:jc),BindsTo s fd ⟨[u],[]⟩ [(x,u)]) /\
    ∀base:jX,(K w.params).In base->base.Ns mainGlobals mg->aO l.prog w (K w.params) mg base (CX w) k fa fd [x] (sp w))
 (hsp:∀(w:jV)(H:Hp)(a:jf)(ns:al Int),ns.length<=n->bv (K w.params) H a (ns.map V.int)->sp w [.ref a] H (λv _=>v = .bl je) λ_ _ _=>False)
 (hCX:∀(w:jV)(H:Hp)(s:jg)(e:jc)(s':jg),CX w [] H s (λ_ _ _=>False) e s'->False) :
 Wa q loose XP YP l.row.toRowW d [] (λf vs=>vD f vs):=by
 refine Att.fP hn hdf λw s₀ s₁ mg mb fa o pm cd doc a vs ns G Y ho hd hcd hmg hobj hints hlen hg => ?_
 obtain⟨KX,hP⟩:=hY w _ Y;obtain⟨fd,hb,hF⟩:=F w mg fa _ KX G.T.g hmg;exact EM KX G.T.g G.T.b G.T.builtins G.T.nolimit hg hobj hints (jK hlen hn2) hr hP (hT w) hL (hKP w) (λq hq=>let⟨c,oc,vc,h1,h2⟩:=hct w q hq;⟨c,oc,vc,KX _ _ h1,h2⟩) hF hb (λH hS=>hsp w H a ns hlen hS) λH e s'=>hCX w H s₁ e s'
theorem gK{I J M:jb}{h:jX}(hm:∀p∈M,(I.lookup p.1).isSome=je)(hx:∀p∈J,I.lookup p.1=none/\J.lookup p.1=ja p.2)(k:oQ (I++J) h):oQ (I++M) h/\∀p∈J,h.get? p.1=ja p.2:=by
 have app:∀(I M:jb)(b:jf),(I++M).lookup b=(I.lookup b).or (M.lookup b):=λI M b=>by
  induction I with
  |nil=>rfl
  |cons p I ih=>
   obtain⟨a,u⟩:=p;rw [q5,jC,jC];cases hb:b == a with
   |true=>rfl
   |false=>exact ih
 refine⟨λb o e => ?_,λp hp=>k _ _ ?_⟩
 . have e:(I++M).lookup b=ja o:=e
   rw [app]at e;cases hI:I.lookup b with
   |some u=>
    rw [hI]at e;cases e;exact k b _ (show(I++J).lookup b=_ by rw [app,hI];rfl)
   |none=>
    rw [hI]at e;have e:M.lookup b=ja o:=e;have z:=hm _ (nl e);rw [hI]at z;cases z
 . show(I++J).lookup p.1=_
   rw [app,(hx p hp).1,(hx p hp).2];rfl
def wW(st:qv):Arguments:=match(aN st).getLast? with|some (.Return (ja (.Lambda a _ _ _)) _)=>a|_=>ba st
def wX(st:qv):qA:=match(aN st).getLast? with|some (.Return (ja (.Lambda _ b _ _)) _)=>b|_ => .Name "" ⟨0,0,0,0⟩
def UY(st:qv):qH:=match(aN st).getLast? with|some (.Return (ja (.Lambda _ _ s _)) _)=>s|_=>aA st
def EO(st:qv):Pos:=match(aN st).getLast? with|some (.Return (ja (.Lambda _ _ _ p)) _)=>p|_=>⟨0,0,0,0⟩
def EQ(st:qv):Pos:=match(aN st).getLast? with|some (.Return _ p)=>p|_=>⟨0,0,0,0⟩
abbrev UZ(qual:Str)(st:qv)(N ps fr:al Str):Lm:=⟨qual,wW st,wX st,UY st,N,ps,fr⟩
theorem bu.at{K:jb}{x qual:Str}{st:qv}{f:jf}{fd:qI}(F:bu K x qual st f fd):∃oc od osl,K.lookup f=ja ⟨oc,od,.func fd,osl⟩:=by
 obtain⟨oc,od,dV,kV,doc,pm,an,cdv,ct,osl,rfl,lk,hcd⟩:=F.ex;exact⟨oc,od,osl,lk⟩
end L2
namespace DL
open PySem PySem.Spec L2
section
variable{cA:Kn}{P:jS}{w:jV}{K:jb}{mg:Str->am jc}
theorem Jq {x qual lq:Str} {st:qv} {fd:qI} {N ps lN lps lfr:al Str} {k n i:Nat} {pre:al qv} {scope:qH} {c0 Pt:jf} {m:al D->am D}
 (F:bu K x qual st f fd) (S:aG N ps (aA st)) (hS:aA st=scope) (hP:(aN st).dropLast=pre) (hlm:cA.lm i=UZ lq st lN lps lfr) (hB:aN st=(aN st).dropLast++[.Return (ja (.Lambda (wW st) (wX st) (UY st) (EO st))) (EQ st)]) (hc0:fd.code = .ref c0)
 (Nk:bV K mg c0 Pt) (htab:(Pt,lq)∈YV K)
 (W:∀(A:qe)(outer:al yq)(s:jg)(H:Hp)(E:XK),∃cl,dY (ZJ bF P w K mg base N qual scope f (.ref c0) A outer s H E) (UZ lq st lN lps lfr) js cl)
 (hbody:∀(A:qe)(outer:al yq)(s:jg)(H:Hp)(E:XK),a4 k (A.deeper (qm qual scope s.heap.objs.size f (.ref c0))) ->
   ∃t,cK (ZJ bF P w K mg base N qual scope f (.ref c0) A outer s H E).nox pre t/\∃owN,VS ⟨cA,λ_=>none⟩ [] owN [] [] t φ) (hm:m=Vx N.length φ i js) (hn:ps.length=n):aO P w K mg base bF (k+1) f fd ps (cp cA n m):=by
 subst hP;exact EE (i:=i) F S hS (by rw [hlm];exact hB) hc0 Nk (by rw [hlm];exact htab) (by rw [hlm];exact W) hbody hm hn
end
end DL
namespace L2
open PySem PySem.Spec PyProof.Rows
def Zu:Int->al Nat
 | .ofNat n=>Uo n
 | .negSucc n=>45::Uo (n+1)
theorem ES(i:Int):(toString i:Str)=tx (Zu i):=by
 rw [<-lV (toString i:Str)]
 congr 1
 cases i with
 |ofNat n=>exact O2 n
 |negSucc n=>
  rw [signs_ofString];show("-" ++ Nat.repr (n+1)).toList.map Oj=_;rw [String.toList_append,Nat.toList_repr,qZ];rfl
def fW:al V->Hp->VK->Prop:=λxs H Q=>(∃i:Int,xs=[.int i]/\i.natAbs<10 ^ 10/\Q (S (Zu i)) H)\/∃a,xs=[S a]/\Q (S a) H
theorem ET:bg X (.type "str") fW:=by
 intro pins s σ H xs us Q I rs h;rcases h with⟨i,rfl,hn,q⟩|⟨a,rfl,q⟩
 . refine Bc pins s σ H _ us Q I rs ⟨i,rfl,?_,?_⟩
   . have h1 : i.natAbs.log2 < 40 := by
      by_cases h0:i.natAbs=0
      . rw [h0];decide
      . exact(vG h0).mpr (vm hn (by decide))
     omega
   . rw [ES]
     exact q
 . obtain⟨u,rfl,t,rfl⟩:=YW rs
   exact PySem.P.str_of_str ⟨S a,H,I,⟨_,rfl⟩,q⟩
end L2
namespace DL
open PySem PySem.Spec L2
variable{cA:Kn}
def dk:al D->am D
 | [.int n]=>if n.natAbs<10 ^ 10 then ja (.str (Zu n))else none
 | [.str a]=>ja (.str a)
 |_=>none
theorem EU:Us cA fW dk:=λi H ds vs d _ h e Q k=>by
 unfold dk at e
 split at e
 . rename_i n
   obtain⟨v,t,rfl,hx⟩:=eU h;cases(show v=_ from hx)
   by_cases hz:n.natAbs<10 ^ 10
   . rw [if_pos hz]at e
     cases e;exact .inl ⟨n,rfl,hz,k _ H (aH.refl H) rfl⟩
   . rw [if_neg hz]at e;cases e
 . rename_i a
   obtain⟨v,t,rfl,hx⟩:=eU h;cases(show v=_ from hx);cases e;exact .inr ⟨a,rfl,k _ H (aH.refl H) rfl⟩
 . cases e
end DL
namespace L2
open PySem PySem.Spec PySem.W PyProof.Rows
theorem EV{a b:Env}(h:a.frame=b.frame):noteFrame e a=noteFrame e b:=by
 unfold PySem.noteFrame Oy;rw [h]
theorem nq{h h' base base':jX}:∀{l:al Env},h.FunFrames base l->(∀b o,h.get? b=ja o->(∀vs,o.data ≠ .fields vs)->base.get? b=none->base'.get? b=none/\h'.get? b=ja o)->h'.FunFrames base' l
 | [],_,_=>trivial
 |e::l,hf,k=>by
  obtain⟨h1,⟨L,o,e1,e2,e3,e4⟩,h3⟩:=hf;obtain⟨k1,k2⟩:=k L o e3 e4 e2;exact⟨h1,⟨L,o,e1,k1,k2,e4⟩,nq h3 k⟩
theorem EW{o:Obj}(h:o.data = .fields vs)(f:Array jc->Array jc):(ya f o)={ o with data := .fields (f vs) }:=by
 obtain⟨c,d,dt,sl⟩:=o;cases(show dt=_ from h);rfl
theorem wY{h base:jX}{l:al Env}{cls a0 fl:jc}(x:jc)(hs:base.StaysIn h)(hf:h.FunFrames base l)(ht:h.TracedAtW base e cls a0 fl)(he:base.get? e=none) :
 ∃T oe vs oT ts,h.get? e=ja oe/\oe.data = .fields vs/\oe.cls=cls/\vs[0]? = ja a0/\vs[1]? = ja (.ref T)/\h.get? T=ja oT/\oT.data = .fields ts/\ts[3]? = ja fl/\3<ts.size /\
  base.StaysIn (h.update T (ya λy=>y.setIfInBounds 3 x))/\(h.update T (ya λy=>y.setIfInBounds 3 x)).FunFrames base l/\(h.update T (ya λy=>y.setIfInBounds 3 x)).TracedAtW base e cls a0 x /\
  (∀b o,h.get? b=ja o->(∀vs,o.data ≠ .fields vs)->(h.update T (ya λy=>y.setIfInBounds 3 x)).get? b=ja o):=by
 obtain⟨oe,vs,T,oT,ts,h1,⟨h2,h3⟩,h4,h5,h6,h7,h8,h9,h10⟩:=ht
 have hz:3<ts.size:=by
  rcases WY 3 ts.size with z|z
  . exact z
  . rw [oV z]at h10;cases h10
 have hm:=EW h9 (λy=>y.setIfInBounds 3 x)
 have hT:(h.update T (ya λy=>y.setIfInBounds 3 x)).get? T=ja { oT with data := .fields (ts.setIfInBounds 3 x) }:=by
  rw [<-hm];exact ux _ h8 (by rw [hm];rfl)
 have ho:∀b,b≠T->(h.update T (ya λy=>y.setIfInBounds 3 x)).get? b=h.get? b:=λb hb=>Heap.get?_update_ne _ _ _ _ hb
 have hn:∀b o,h.get? b=ja o->(∀vs,o.data ≠ .fields vs)->(h.update T (ya λy=>y.setIfInBounds 3 x)).get? b=ja o:=λb o q n=>by
  rw [ho b ?_]
  . exact q
  . rintro rfl
    rw [h8]at q;cases q;exact n _ h9
 refine⟨T,oe,vs,oT,ts,h1,h4,h2,h3,h5,h8,h9,h10,hz,λb o q => ?_,nq hf λb o q n z=>⟨z,hn b o q n⟩,?_,hn⟩
 . rw [ho b ?_]
   . exact hs b o q
   . rintro rfl
     rw [h6]at q;cases q
 . exact⟨oe,vs,T,_,ts.setIfInBounds 3 x,by rw [ho e (qF h7)];exact h1,⟨h2,h3⟩,h4,h5,h6,h7,hT,rfl,by rw [Array.getElem?_setIfInBounds_self_of_lt hz]⟩
theorem EX {M:Model} {A:qe} {E:jc->jg->Prop} {s:jg} {base:jX} {env:Env} {outer:al Env} {L e:jf} {Q:Unit->jg->Prop} (hA:A.frames=ja (env::outer)) (hL:env.frame=ja L)
 (hs:base.StaysIn s.heap) (he:base.get? e=none) (hf:s.heap.FunFrames base (env::outer)) (ht:s.heap.TracedAtW base e cls a0 fl)
 (k:∀h',base.FlyingW outer e cls a0 h'->s.heap.UpToSlots h'->Q () { s with heap:=h' }):jJ M A (leaving env (.ref e)) Q E s:=by
 obtain⟨T,oe,vs,oT,ts,h1,h2,h3,h4,h5,h6,h7,h8,hz,r1,r2,r3,r4⟩:=wY (x:=.none) hs hf ht he;have fin:∀h',base.StaysIn h'->h'.FunFrames base (env::outer)->h'.TracedW base e cls a0->s.heap.UpToSlots h'->Q () { s with heap:=h' }:=λh' x1 x2 x3 x4=>k h' ⟨x1,he,x2.2.2,x3⟩ x4
 unfold leaving noteFrame;rw [hL];dsimp only;refine jl (jl (uL h1 h2 h5 ?_));rw [if_pos (show((jY T) != ua)=je from rfl)];refine jl (uL h6 h7 h8 ?_)
 by_cases hb:(fl == rawInt (L:Int))=je
 . rw [if_pos hb]
   refine jB ?_;refine wpAny_setFlight_noneW hs hf ht λh' x1 x2 x3 x4=>fin h' x1 x2 x3 λb o q n=>⟨o.slots,x4 b o q n⟩
 . rw [if_neg hb]
   refine jl (wpAny_setField h6 h7 hz ?_);obtain⟨oe',vs',T',oT',ts',g1,⟨g2,g3⟩,g4,g5,g6,g7,g8,g9,g10⟩:=r3;refine wpAny_newEntryW (base:=base) (outer:=outer) hA r2 hL g1 r1 he g4 ?_ g3 λh' x => ?_
   . rcases WY 1 vs'.size with z|z
     . exact z
     . rw [oV z]at g5;cases g5
   . obtain⟨x1,x2,x3,x4⟩:=x
     rw [g2]at x3;refine fin h' x1 x2 x3 λb o q n => ?_
     obtain⟨sl,q2⟩:=x4 b o (r4 b o q n) n;exact⟨sl,q2⟩
def EY(X:Cx)(E:XK)(ev:jc)(s':jg):Prop:=∃(ea:jf) (cls a0 fl:jc) (B:jX) (H':Hp),ev = .ref ea/\s'.os=X.s₀.os/\AllBare s'.gens/\B.StaysIn s'.heap/\B.get? ea=none/\s'.heap.FunFrames B X.stack/\s'.heap.TracedAtW B ea cls a0 fl /\
 (∀b o,X.s₀.heap.get? b=ja o->X.H₀ b=none->b∉X.fs->B.get? b=ja o)/\bS X.prog X.w H' B/\(∀b o,X.s₀.heap.get? b=ja o->X.H₀ b=none->H' b=none)/\(∀b o,X.s₀.heap.get? b=ja o->b∈X.fs->∃sl,s'.heap.get? b=ja { o with slots:=sl })/\E cls none H'
structure dZ(X:Cx)(E:XK):Prop where
 st:X.stack=X.env::X.outer
 fr:X.env.frame=ja X.env.locals
 ex:X.ex=[]
 go:∀ev s',X.Ok->EY X E ev s'->X.xe ev s'
def nr(X:Cx)(E:XK)(C:jf)(ev:jc)(s':jg):Prop:=∃(ea:jf) (cls a0:jc) (B:jX) (H':Hp),ev = .ref ea/\s'.os=X.s₀.os/\AllBare s'.gens/\B.FlyingW X.stack ea cls a0 s'.heap/\(∃m,B.Ns C m)/\H' C=none /\
 (∀b o,X.s₀.heap.get? b=ja o->X.H₀ b=none->b∉X.fs->B.get? b=ja o)/\bS X.prog X.w H' B/\(∀b o,X.s₀.heap.get? b=ja o->X.H₀ b=none->H' b=none)/\(∀b o,X.s₀.heap.get? b=ja o->b∈X.fs->∃sl,s'.heap.get? b=ja { o with slots:=sl })/\E cls none H'
section
variable{X:Cx}{E:XK}{pins:al (jf×Obj)}{σ:St}{H₂:Hp}{s₂:jg}{scope:qH}{N':al Str}{C:jf}{fp:al jf}
theorem EZ(hp:dZ X E)(ok:X.Ok)(hC:X.s₀.heap.objs.size<=C){use:am (jc->Sem Unit)}{Q:jc->jg->Prop}{xe:jc->jg->Prop}(h:nr X E C e s) :
 notedBy (model X.prog X.w) X.A (YZ X scope N' C s₂ H₂ fp xe).env (λe s'=>compPost (model X.prog X.w) X.A X.xe use Q acc C (.error e) s') e s:=by
 obtain⟨ea,cls,a0,B,H',rfl,hos,hb,hfl,⟨m,hm⟩,hCn,hKB,hok,hfree,hup,hE⟩:=h;unfold notedBy;rw [EV (a:=(YZ X scope N' C s₂ H₂ fp xe).env) (b:=X.env) rfl];rw [hp.st]at hfl;refine W2 (outer:=X.outer) (by rw [ok.frames,hp.st]) hp.fr hfl λh1 ⟨x1,x2,x3,x4⟩ up => ?_
 refine⟨m,hm.keeps x1,λh' hs' cenv hce => ?_⟩;obtain⟨oC,es,ep,c1,c2,c3,c4⟩:=id hm;have cn:∀b,B.get? b=none->b≠C:=λb q z=>by rw [z,c1]at q;cases q
 have s':∀b,b≠C->h'.get? b=h1.get? b:=hs'.2;obtain⟨oe,vs,T,oT,ts,t1,⟨t2,t3⟩,t4,t5,t6,t7,t8,t9,t10⟩:=id x4
 have y1:(hideAll B [C]).StaysIn h':=λb o q=>by
  have qB:=uo _ q
  by_cases z:b=C
  . subst z
    have:(hideAll B [b]).get? b=none:=u7 _ jr;rw [this]at q;cases q
  . rw [s' b z];exact x1 b o qB
 have hid:∀b,B.get? b=none->(hideAll B [C]).get? b=none:=λb q=>by
  cases z:(hideAll B [C]).get? b with
  |none=>rfl
  |some o=>rw [uo _ z]at q;cases q
 have y3:h'.FunFrames (hideAll B [C]) X.stack:=by
  rw [hp.st];exact nq x3 λb o q n z=>⟨hid b z,by rw [s' b (cn b z)];exact q⟩
 have y4:h'.TracedAtW (hideAll B [C]) ea cls a0 (rawInt (X.env.locals:Int)):=⟨oe,vs,T,oT,ts,by rw [s' ea (cn ea x2)];exact t1,⟨t2,t3⟩,t4,t5,hid T t6,t7,by rw [s' T (cn T t6)];exact t8,t9,t10⟩
 obtain⟨T2,oe2,vs2,oT2,ts2,r1,r2,r3,r4,r5,r6,r7,r8,rz,z1,z2,z3,z4⟩:=wY (x:=(cenv.frame.elim .none λf=>rawInt (f:Int))) y1 y3 y4 (hid ea x2);unfold PySem.passOn;refine jl (uL r1 r2 r5 ?_);rw [if_neg (show ¬((jY T2) == ua)=je from jI)];refine jl ?_;unfold setFlight;refine jl (uL r1 r2 r5 ?_);rw [if_pos (show((jY T2) != ua)=je from rfl)]
 refine wpAny_setField r6 r7 rz ?_;refine wpAny_throw ?_;refine hp.go _ _ ok ⟨ea,cls,a0,_,hideAll B [C],H',rfl,hos,hb,z1,hid ea x2,z2,z3,λb o q n hn => ?_,bS.hide hok (λb hb=>by rw [OE.mp hb];exact hCn),hfree,λb o q hn => ?_,hE⟩
 . refine y0 _ (hKB b o q n hn) λz => ?_
   rw [OE.mp z]at q;exact absurd (jw q) (ym.mpr hC)
 . obtain⟨sl,q1⟩:=hup b o q hn
   obtain⟨_,o',q2,hnf⟩:=ok.funs.mem hn;have:o'=o:=jx (q2.symm.trans q);subst this;obtain⟨sl2,q3⟩:=up b _ q1 (show ∀vs,({ cls:=o'.cls,dict:=o'.dict,data:=o'.data,slots:=sl }:Obj).data ≠ .fields vs from hnf);refine⟨sl2,z4 b _ ?_ (show ∀vs,({ cls:=o'.cls,dict:=o'.dict,data:=o'.data,slots:=sl2 }:Obj).data ≠ .fields vs from hnf)⟩;rw [s' b ?_]
   . exact q3
   . rintro rfl
     exact absurd (jw q) (ym.mpr hC)
end
end L2
namespace DL
open PySem PySem.Spec L2
section
variable{cA:Kn}{G:Cn}{ow owB owC:al Nat}{E:XK}
noncomputable def Vy(γ:D->Env->am Env)(τ:Env->am Bool)(ε:Env->am D)(χ:Env->am String)(δ:Env):al D->am String
 | []=>none
 |x::xs=>match γ x δ with
  |none=>none
  |some δ1=>match τ δ1 with
   |none=>none
   |some jj=>Vy γ τ ε χ δ xs
   |some je=>match χ δ1 with
    |some c=>ja c
    |none=>match ε δ1 with
     |none=>none
     |some _=>Vy γ τ ε χ δ xs
def V3(ι:Env->am (al D))(γ:D->Env->am Env)(τ:Env->am Bool)(ε:Env->am D)(χ:Env->am String)(n:Nat)(js:al Nat)(δ:Env):am String:=match ι δ with
 |none=>none
 |some xs=>if xs.length<=jv then Vy γ τ ε χ (Y9 n δ js) xs else none
theorem E5 {n:Nat} {js:al Nat}
 (hjs:js.all (λj => !ow.contains j)=je) (hi:VI G ow wi ι) (hg:VG ⟨G.1,λ_=>none⟩ [] [] g γ) (ht:VT ⟨G.1,λ_=>none⟩ [] tt τ) (he:VE ⟨G.1,λ_=>none⟩ [] te .cl ε) (hx:eF ⟨G.1,λ_=>none⟩ [] E te χ):eF G ow E (Q5 wi g tt te n js) (V3 ι γ τ ε χ n js):=λH0 av A σ H δ R c e k Q=>by
 unfold V3 at e;cases hι:ι δ with
 |none=>rw [hι]at e;cases e
 |some xs=>
  rw [hι]at e;dsimp only at e
  by_cases hz:xs.length<=jv
  . rw [if_pos hz]at e
    refine hi H0 av A σ H δ R xs hι _ λJ H1 s1 W => ?_
    have E1:=R.mono s1
    refine⟨λi m ys H'=>m=xs.length-i/\i<=xs.length/\aH H1 H'/\ys.length<=i/\Vy γ τ ε χ (Y9 n δ js) (xs.drop i)=ja c,
     ⟨xs.length,by simp,yr _,aH.refl _,jz _,e⟩,?_⟩
    rintro i m ys H' ⟨rfl,hle,s',hy,hr⟩
    have E':=E1.mono s';have sc:aH (DL.ii A H1) H':=λb o z=>s' b o (mD z).1
    obtain⟨w1,w2,w3⟩:=W H' sc
    by_cases hlt:i<xs.length
    . refine .inr ⟨w1 i hlt,λv H2 y => ?_⟩
      have hxi:xs[i]? = ja xs[i]:=jQ hlt;obtain⟨s2,rep⟩:=w2 i _ v H2 hxi y;have rep':Rep G.1 (AV av A) H2 xs[i] v:=rep _ E'.avl λb z => .inl z
      have E2:=E'.mono s2;have EB:ER ⟨G.1,λ_=>none⟩ [] H2 (AV av A) (λ_=>none) (L2.eo n σ js) H2 (Y9 n δ js):=E2.blk n js hjs;rw [yt hlt]at hr;unfold Vy at hr;cases hγ:γ xs[i] (Y9 n δ js)with
      |none=>rw [hγ]at hr;cases hr
      |some δ1=>
       rw [hγ]at hr;dsimp only at hr;refine hg _ _ _ _ H2 _ EB _ v (rep'.av λb z => .inl (z.elim id λ⟨_,q⟩=>nomatch q)) δ1 hγ _ λA3 σ3 H3 s3 E3 => ?_
       cases hτ:τ δ1 with
       |none=>rw [hτ]at hr;cases hr
       |some b=>
        rw [hτ]at hr;refine ht _ _ A3 σ3 H3 δ1 E3 b hτ _ λH4 s4 => ?_
        have E4:=E3.mono s4;cases b with
        |false=>exact Va ⟨xs.length-(i+1),by omega,rfl,hlt,(s'.trans s2).trans (s3.trans s4),Nat.le_succ_of_le hy,hr⟩
        |true=>
         dsimp only at hr;cases hχ:χ δ1 with
         |some c'=>
          rw [hχ]at hr;cases hr;exact XZ (hx _ _ A3 σ3 H4 δ1 E4 c hχ (λH5 s5=>k H5 (s1.trans (s'.trans ((s2.trans (s3.trans s4)).trans s5)))) _)
         |none=>
          rw [hχ]at hr;dsimp only at hr;cases hε:ε δ1 with
          |none=>rw [hε]at hr;cases hr
          |some yd=>
           rw [hε]at hr;refine XZ (he _ _ A3 σ3 H4 δ1 E4 yd hε _ λvy H5 s5 r5 => ?_);exact⟨by omega,xs.length-(i+1),by omega,rfl,hlt,s'.trans (((s2.trans s3).trans s4).trans s5),by rw [jt,qo];omega,hr⟩
    . have ei:i=xs.length:=by omega
      subst ei;rw [u3]at hr;cases hr
  . rw [if_neg hz]at e;cases e
end
end DL
namespace L2
open PySem PySem.Spec PySem.W PyProof.Rows
def bJ(P:jS)(w:jV):dq:=λouter H s E ev s'=>∃(ea:jf) (cls a0:jc) (B:jX) (H':Hp),ev = .ref ea/\s'.os=s.os/\AllBare s'.gens/\yo B outer ea cls a0 s'.heap /\
 (∀b o,s.heap.get? b=ja o->H b=none->b∉bI outer->B.get? b=ja o)/\bS P w H' B/\(∀b o,s.heap.get? b=ja o->H b=none->H' b=none)/\(∀b o,s.heap.get? b=ja o->b∈bI outer->∃sl,s'.heap.get? b=ja { o with slots:=sl })/\E cls none H'
section
variable{P:jS}{w:jV}{K:jb}{mg:Str->am jc}{base:jX}{N:al Str}{qual:Str}{scope:qH}{f:jf}{cd:jc}{A:qe}{outer:al Env}{s:jg}{H:Hp}{E:XK}
theorem eO.two{ev:jc}{s':jg}:eO P w outer H s E ev s'->bJ P w outer H s E ev s':=λ⟨ea,cls,a0,B,H',h1,h2,h3,h4,h5,h6,_,h8⟩=>⟨ea,cls,a0,B,H',h1,h2,h3,h4,h5,h6,h8⟩
theorem E6:mO (ZJ (bJ P w) P w K mg base N qual scope f cd A outer s H E) E C:=by
 intro pins σ H1 s1 h' e us I hx hw;show jJ (model P w) _ (leaving _ (.ref e)) _ _ _;have hin:∀env∈((ZJ (bJ P w) P w K mg base N qual scope f cd A outer s H E).stack),∀b,env.frame=ja b->b∈bI (ZJ (bJ P w) P w K mg base N qual scope f cd A outer s H E).stack:=λenv he b hb=>uQ.mpr ⟨env,he,hb⟩
 have hfun:=vb I.stack hin;have hsub:=I.stkSub;refine Wu (base:=hideAll s1.heap (bI (ZJ (bJ P w) P w K mg base N qual scope f cd A outer s H E).stack)) (h:=s1.heap) (outer:=outer) I.ok.frames rfl (λb o q=>uo _ q) hfun hx λh2 t x1 x2 x3 x4 => ?_
 refine⟨e,.ref C,.ref t,_,H1,rfl,I.os,I.bare,x1,λb o q n hb => ?_,bS.hide I.hok I.stkFree,λb o q n=>I.base.free b o q n (λz=>nomatch z),λb o q hb => ?_,hw⟩
 . refine y0 _ (I.base.keep b o q n hb (λz=>nomatch z)) λz => ?_
   rcases jp.mp (hsub b z)with e'|z
   . exact absurd (jw q) (ym.mpr (by rw [e'];exact I.ok.above))
   . exact hb z
 . obtain⟨sl,q1⟩:=I.base.slot b o q (I.ok.frf b hb) hb (λz=>nomatch z)
   obtain⟨_,o',q2,hnf⟩:=I.ok.funs.mem hb;have:o'=o:=jx (q2.symm.trans q);subst this;obtain⟨sl2,q4⟩:=x4 b _ (hx.keeps b _ q1) (show ∀vs,({ cls:=o'.cls,dict:=o'.dict,data:=o'.data,slots:=sl }:Obj).data ≠ .fields vs from hnf);exact⟨sl2,q4⟩
theorem wZ{CX:dq}(hC:∀ev s',bJ P w outer H s E ev s'->CX outer H s E1 ev s'):Xc (bJ P w) (ZJ CX P w K mg base N qual scope f cd A outer s H E1) E:=by
 intro pins σ H1 s1 ev s' I ⟨ea,cls,a0,B,H2,e,hos,hb,hfl,hKB,hok,hfree,hup,hE⟩;subst e;show jJ (model P w) _ (leaving _ (.ref ea)) _ _ _;refine oo (outer:=outer) I.ok.frames rfl hfl λh2 y1 y2=>hC _ _ ?_
 refine⟨ea,cls,a0,B,H2,rfl,hos.trans I.os,hb,y1,λb o q n hn => ?_,hok,λb o q n => ?_,λb o q hn => ?_,hE⟩
 . refine hKB b o (I.base.keep b o q n hn (λz=>nomatch z)) (I.base.free b o q n (λz=>nomatch z)) λz => ?_
   rcases jp.mp (I.stkSub b z)with e'|z
   . exact absurd (jw q) (ym.mpr (by rw [e'];exact I.ok.above))
   . exact hn z
 . obtain⟨sl,q1⟩:=I.base.any q n (λz=>nomatch z)
   exact hfree b _ q1 (I.base.free b o q n (λz=>nomatch z))
 . obtain⟨sl,q1⟩:=I.base.slot b o q (I.ok.frf b hn) hn (λz=>nomatch z)
   obtain⟨_,o',q2,hnf⟩:=I.ok.funs.mem hn;have:o'=o:=jx (q2.symm.trans q);subst this;obtain⟨sl',q3⟩:=hup b _ q1 (jq _ hn);obtain⟨sl2,q4⟩:=y2 b _ q3 (show ∀vs,({ cls:=o'.cls,dict:=o'.dict,data:=o'.data,slots:=sl' }:Obj).data ≠ .fields vs from hnf);exact⟨sl2,q4⟩
theorem U0:Xc (bJ P w) (ZJ (bJ P w) P w K mg base N qual scope f cd A outer s H E) E:=wZ λ_ _ h=>h
theorem Xm:Xc (eO P w) (ZJ (bJ P w) P w K mg base N qual scope f cd A outer s H E) E:=λpins σ H s e s' I h=>U0 pins σ H s e s' I h.two
end
end L2
namespace DL
open PySem PySem.Spec L2
def YE(cA:Kn)(n:Nat)(m:al D->am D)(x:al D->am String):Sp:=λvs H Q E=>Dp cA n m vs H Q E \/
 ∃(a:jf) (r:al V) (av:jf->Prop) (ds:al D) (d:D) (c:String),vs = .ref a::r/\(∀b,av b->H b≠none)/\¬av a/\dL cA (λb=>av b\/b=a) H d a/\aD cA (λb=>av b\/b=a) H ds r/\(d::ds).length=n/\x (d::ds)=ja c /\
 ∀H',(∀b o,b≠a->H b=ja o->H' b=ja o)->E (.ref (cA.c c)) none H'
section
variable{cA:Kn}{G:Cn}{ow owB owC:al Nat}{E:XK}
theorem w5{H0 H:Hp}{ds dds:al D}{vs:al V}{x dx:jf}(hd:dds.all ZA=je)(R:ER G ow H0 av A σ H δ)(r1:bx G.1 av A H .cl ds vs)(hx:H x=none)(hdx:H dx=none)(hne:dx≠x) :
 aH H (aV (aV H dx (.own x)) x (.ins C dx []))/\(∀a,AV av A a->aV (aV H dx (.own x)) x (.ins C dx []) a≠none)/\¬AV av A x/\aD G.1 (λa=>AV av A a\/a=x) (aV (aV H dx (.own x)) x (.ins C dx [])) (ds++dds) (vs++dds.map bP):=by
 have s2:aH H (aV (aV H dx (.own x)) x (.ins C dx [])):=(YB hdx).trans (YB (by rw [Zn (qF hne)];exact hx));refine⟨s2,λa z => ?_,λz=>R.avl x z hx,aD.same s2 ((r1.cl.append (.of_vals hd)).av λb z => ?_)⟩
 . have:=R.avl a z
   cases q:H a with
   |none=>exact absurd q this
   |some o=>rw [s2 a o q];exact λz=>by cases z
 . rcases z with z|z
   . exact .inl z
   . exact .inr (by rw [z];exact hx)
theorem Qz{n:Nat}{xm:al D->am String}{E0:XK}{c:String}(dds:al D)(hd:dds.all ZA=je)(h:VA G ow t .cl α):VE G ow (J8 (G.1.c c) (YE G.1 n m xm) (dds.map bP) E0 t) .cl (ZN c n m dds α):=λH0 av A σ H δ R d e Q k=>by
 unfold ZN at e;cases he:α δ with
 |none=>rw [he]at e;cases e
 |some ds=>
  rw [he]at e;dsimp only at e
  by_cases hz:(D.obj c [] []::(ds++dds)).length=n
  . rw [if_pos hz]at e
    refine h H0 av A σ H δ R ds he _ λvs H1 s1 r1 x dx hx hdx hne => .inl ?_
    obtain⟨s2,f1,f2,f3⟩:=w5 (C:=G.1.c c) hd (R.mono s1) r1 hx hdx hne;refine⟨x,_,AV av A,_,.obj c [] [],d,rfl,f1,f2,⟨dx,[],ZF,rfl,.nil⟩,f3,hz,e,λH' hk ho=>⟨rfl,k _ H' ?_ ?_⟩⟩
    . exact s1.trans λb o e=>hk b o (λz=>by rw [z,hx]at e;cases e) (s2 b o e)
    . exact((ho.av λb z => .inl (.inl z)).rep f2).t
  . rw [if_neg hz]at e;cases e
noncomputable def Vd(c:String)(n:Nat)(x:al D->am String)(dds:al D)(α:Env->am (al D))(δ:Env):am String:=match α δ with
 |some ds=>if(D.obj c [] []::(ds++dds)).length=n then x (.obj c [] []::(ds++dds))else none
 |none=>none
theorem QA{n:Nat}{xm:al D->am String}{c:String}(dds:al D)(hd:dds.all ZA=je)(h:VA G ow t .cl α):eF G ow E (J8 (G.1.c c) (YE G.1 n m xm) (dds.map bP) E t) (Vd c n xm dds α):=λH0 av A σ H δ R c' e k Q=>by
 unfold Vd at e;cases he:α δ with
 |none=>rw [he]at e;cases e
 |some ds=>
  rw [he]at e;dsimp only at e
  by_cases hz:(D.obj c [] []::(ds++dds)).length=n
  . rw [if_pos hz]at e
    refine h H0 av A σ H δ R ds he _ λvs H1 s1 r1 x dx hx hdx hne => .inr ?_
    obtain⟨s2,f1,f2,f3⟩:=w5 (C:=G.1.c c) hd (R.mono s1) r1 hx hdx hne;exact⟨x,_,AV av A,_,.obj c [] [],c',rfl,f1,f2,⟨dx,[],ZF,rfl,.nil⟩,f3,hz,e,λH' hk=>k H' (s1.trans λb o e=>hk b o (λz=>by rw [z,hx]at e;cases e) (s2 b o e))⟩
  . rw [if_neg hz]at e;cases e
theorem w6{A:Nat->am jf}{σ:L2.St}{ds dds:al D}{d:D}{vs:al V}{i:Nat}(hd:dds.all ZA=je)(hi:ow.contains i=je)(R:ER G ow H0 av A σ H δ)(hv:Za i δ=ja d) :
 ∃a,A i=ja a/\σ[i]? = ja (ja (.ref a))/\∀H1,aH H H1->bx G.1 av A H1 .cl ds vs->(∀b,(AV av A b/\b≠a)->H1 b≠none)/\dL G.1 (λb=>(AV av A b/\b≠a)\/b=a) H1 d a/\aD G.1 (λb=>(AV av A b/\b≠a)\/b=a) H1 (ds++dds) (vs++dds.map bP)/\∀b,AV av A b->(AV av A b/\b≠a)\/b=a:=by
 have hi':i∈ow:=by simpa using hi
 cases hA:A i with
 |none=>exact absurd hA (R.dom' i hi')
 |some a=>
  obtain⟨v,g1,_,g3⟩:=R.var i _ (Xi hv);obtain⟨rfl,_⟩:=g3 a hA;refine⟨a,rfl,g1,λH1 s r => ?_⟩;have E1:=R.mono s;obtain⟨v2,_,_,g3'⟩:=E1.var i _ (Xi hv);obtain⟨_,ow'⟩:=g3' a hA
  have eqv:∀b,(AV av A b/\b≠a)\/b=a->AV av A b:=λb=>by
   rintro(z|z)
   . exact z.1
   . rw [z];exact .inr ⟨i,hA⟩
  exact⟨λb z=>E1.avl b z.1,ow'.av λb z => .inl (eqv b z),(r.cl.append (.of_vals hd)).av λb z => .inl (eqv b z),λb z=>if q:b=a then .inr q else .inl ⟨z,q⟩⟩
theorem E7{n:Nat}{xm:al D->am String}{E0:XK}(i:Nat)(hi:ow.contains i=je)(dds:al D)(hd:dds.all ZA=je)(h:VA G ow t .cl α) :
 VS G ow ow owB owC (XN (XB (YE G.1 n m xm) (dds.map bP) E0 (YG (Xu i) t))) (Z1 i n m dds α):=λH0 av A σ H δ R o e De k=>by
 unfold Z1 at e;cases hv:Za i δ with
 |none=>rw [hv]at e;cases e
 |some d=>
  rw [hv]at e;dsimp only at e;cases he:α δ with
  |none=>rw [he]at e;cases e
  |some ds=>
   rw [he]at e;dsimp only at e
   by_cases hz:(d::(ds++dds)).length=n
   . rw [if_pos hz]at e
     cases hm:m (d::(ds++dds))with
     |none=>rw [hm]at e;cases e
     |some d'=>
      rw [hm]at e;cases e;have hi':i∈ow:=by simpa using hi
      cases hA:A i with
      |none=>exact absurd hA (R.dom' i hi')
      |some a=>
       obtain⟨v,g1,_,g3⟩:=R.var i _ (Xi hv);obtain⟨rfl,_⟩:=g3 a hA;refine⟨_,g1,h H0 av A σ H δ R ds he _ λvs H1 s r => .inl ?_⟩;obtain⟨a',e1,_,hh⟩:=w6 (dds:=dds) (ds:=ds) (vs:=vs) hd hi R hv;obtain rfl:a=a':=jx (hA.symm.trans e1);obtain⟨f1,f2,f3,f4⟩:=hh H1 s r;exact⟨a,_,λb=>AV av A b/\b≠a,_,d,d',rfl,f1,λz=>z.2 rfl,f2,f3,hz,hm,λH' hk ho=>k A σ H' ((R.mono s).put hA (Xi hv) hk ho.live (ho.av λb z => .inl (f4 b z)))⟩
   . rw [if_neg hz]at e;cases e
def nt(i n:Nat)(x:al D->am String)(dds:al D)(α:Env->am (al D))(δ:Env):am String:=match Za i δ with
 |some d=>match α δ with
  |some ds=>if(d::(ds++dds)).length=n then x (d::(ds++dds))else none
  |none=>none
 |none=>none
theorem E8{n:Nat}{xm:al D->am String}(i:Nat)(hi:ow.contains i=je)(dds:al D)(hd:dds.all ZA=je)(h:VA G ow t .cl α) :
 VX G ow E (XN (XB (YE G.1 n m xm) (dds.map bP) E (YG (Xu i) t))) (nt i n xm dds α):=λH0 av A σ H δ R c e k De=>by
 unfold nt at e;cases hv:Za i δ with
 |none=>rw [hv]at e;cases e
 |some d=>
  rw [hv]at e;dsimp only at e;cases he:α δ with
  |none=>rw [he]at e;cases e
  |some ds=>
   rw [he]at e;dsimp only at e
   by_cases hz:(d::(ds++dds)).length=n
   . rw [if_pos hz]at e
     have hi':i∈ow:=by simpa using hi
     cases hA:A i with
     |none=>exact absurd hA (R.dom' i hi')
     |some a=>
      obtain⟨v,g1,_,g3⟩:=R.var i _ (Xi hv);obtain⟨rfl,_⟩:=g3 a hA;refine⟨_,g1,h H0 av A σ H δ R ds he _ λvs H1 s r => .inr ?_⟩;obtain⟨a',e1,_,hh⟩:=w6 (dds:=dds) (ds:=ds) (vs:=vs) hd hi R hv;obtain rfl:a=a':=jx (hA.symm.trans e1);obtain⟨f1,f2,f3,f4⟩:=hh H1 s r;exact⟨a,_,λb=>AV av A b/\b≠a,_,d,c,rfl,f1,λz=>z.2 rfl,f2,f3,hz,e,λH' hk=>k H' λb o q=>hk b o (λz=>by rw [z,R.fr i a hA]at q;cases q) (s b o (R.same b o q))⟩
   . rw [if_neg hz]at e;cases e
end
section
variable{P:jS}{w:jV}{K:jb}{mg:Str->am jc}{base:jX}{cA:Kn}
theorem xa{N:al Str}{x:jf}{r:al V}{av:jf->Prop}{ds:al D}{d:D}{H:Hp}(ha:∀a,av a->H a≠none)(nx:¬av x)(ho:dL cA (λa=>av a\/a=x) H d x)(l:aD cA (λa=>av a\/a=x) H ds r) :
 ER ⟨cA,λj=>if j=0 then ja (.inl x)else none⟩ [0] (λb=>if b=x then none else H b) av (λj=>if j=0 then ja x else none) (L2.start N (.ref x::r)) H ((d::ds).map ja++jd (N.length-(d::ds).length) none):=by
 have hAV:∀b,AV av (λj=>if j=0 then ja x else none) b ↔ av b\/b=x:=λb=>by
  constructor
  . rintro(z|⟨j,z⟩)
    . exact .inl z
    . by_cases e:j=0
      . simp [e]at z;exact .inr z.symm
      . simp [e]at z
  . rintro(z|z)
    . exact .inl z
    . exact .inr ⟨0,by simp [z]⟩
 refine⟨λb o e => ?_,λa z => ?_,λi a e => ?_,λi j a e1 e2 => ?_,λi a e => ?_,λi e => ?_,λi hi => ?_,?_,(λi a e=>by
  by_cases q:i=0
  . simp [q]at e;simp [q,e]
  . simp [q]at e),(λi v e=>by
  by_cases q:i=0
  . simp [q]at e
  . simp [q]at e),λi d'' e => ?_⟩
 . by_cases q:b=x
   . simp [q]at e
   . simpa [q]using e
 . have:a≠x:=λq=>nx (q▸z)
   simp [this];exact ha a z
 . by_cases q:i=0
   . simp [q]at e;simp [e]
   . simp [q]at e
 . by_cases q:i=0
   . by_cases q2:j=0
     . rw [q,q2]
     . simp [q2]at e2
   . simp [q]at e1
 . by_cases q:i=0
   . simp [q]at e;subst e;exact ho.live
   . simp [q]at e
 . by_cases q:i=0
   . simp [q]
   . simp [q]at e
 . have:i=0:=by simpa using hi
   simp [this]
 . unfold L2.start
   rw [jt,jt,jk,jk,jP,jP,jh,jh,l.length]
 . by_cases q:i=0
   . subst q
     have e':d=d'':=by simpa using e
     subst e'
     exact⟨.ref x,by simp [L2.start],λz=>by simp at z,λa z=>by
      simp at z;subst z;exact⟨rfl,ho.av λb z => .inl ((hAV b).mp z)⟩⟩
   . obtain⟨i,rfl⟩:∃i',i=i'+1:=⟨i-1,by omega⟩
     have e2:(ds.map ja++jd (N.length-(ds.length+1)) none)[i]? = ja (ja d''):=by simpa using e
     by_cases hi:i<ds.length
     . rw [qp (by simpa using hi),j9]at e2
       cases hd:ds[i]? with
       |none=>rw [hd]at e2;cases e2
       |some z=>
        rw [hd]at e2;cases e2;obtain⟨v,hv',rv⟩:=l.get hd;refine⟨v,?_,λ_=>rv.av λb z => .inl ((hAV b).mp z),λa z=>by simp at z⟩;unfold L2.start;have:i+1<(V.ref x::r).length:=by rw [jh,<-l.length];omega
        rw [qp (by simpa using this),j9];simp [hv']
     . rw [qj (by simpa using hi),yg]at e2
       split at e2<;>cases e2
theorem E9 {st:qv} {N ps:al Str} {k:Nat} {body:al qv} {scope:qH} {n:Nat} {m:al D->am D} {xm:al D->am String} (F:bu K x qual st f fd) (S:aG N ps (aA st)) (hS:aA st=scope) (hB:aN st=body)
 (hbody:∀(cdv:jc)(A:qe)(outer:al yq)(s:jg)(H:Hp)(E:XK)(a:jf),a4 k (A.deeper (qm qual scope s.heap.objs.size f cdv)) ->
   ∃t,cK (ZJ (bJ P w) P w K mg base N qual scope f cdv A outer s H E) body t/\VS ⟨cA,λj=>if j=0 then ja (.inl a)else none⟩ [0] [0] [] [] t φ/\VX ⟨cA,λj=>if j=0 then ja (.inl a)else none⟩ [0] E t χ) (hm:m=fA N.length φ) (hx:xm=X2 N.length χ) (hn:ps.length=n) :
 aO P w K mg base (bJ P w) (k+1) f fd ps (YE cA n m xm):=by
 subst hS hB hm hx hn;obtain⟨oc,od,dV,kV,doc,pm,an,cdv,ct,osl,rfl,lk,hcd⟩:=F.ex;refine J9 lk hcd S (λvs H Q E h => ?_) λA outer s H vs Q E hr h => ?_
 . rcases h with⟨x,r,av,ds,d,d',rfl,_,_,_,l,hl,_⟩|⟨x,r,av,ds,d,c,rfl,_,_,_,l,hl,_⟩
   . rw [<-hl,jh,jh,l.length]
   . rw [<-hl,jh,jh,l.length]
 . rcases h with⟨x,r,av,ds,d,d',rfl,ha,nx,ho,l,hl,hm,q⟩|⟨x,r,av,ds,d,c,rfl,ha,nx,ho,l,hl,hm,q⟩
   . obtain⟨t,ht,hv,_⟩:=hbody cdv A outer s H E x hr
     refine⟨t,ht,?_⟩;unfold fA at hm;cases hφ:φ ((d::ds).map ja++jd (N.length-(d::ds).length) none)with
     |none=>rw [hφ]at hm;cases hm
     |some o=>
      rw [hφ]at hm;cases o<;>first|(cases hm;done)|skip
      rename_i δ';have hm:Za 0 δ'=ja d':=hm;refine hv _ av _ _ H _ (xa ha nx ho l) _ hφ _ λA' σ' H' E' => ?_
      have hA':A' 0=ja x:=E'.pin 0 x (by simp);obtain⟨v,_,_,g3⟩:=E'.var 0 d' (Xi hm);obtain⟨_,ho'⟩:=g3 x hA';refine q H' (λb o hb e=>E'.same b o (by simpa [hb]using e)) (ho'.av λb z => ?_);rcases z with z|z
      . exact .inl (.inl z)
      . exact .inl (.inr ⟨0,by rw [hA',z]⟩)
   . obtain⟨t,ht,_,hX⟩:=hbody cdv A outer s H E x hr
     exact⟨t,ht,hX _ av _ _ H _ (xa ha nx ho l) c hm (λH' s'=>q H' λb o hb e=>s' b o (by simpa [hb]using e)) _⟩
end
end DL
namespace L2
open PySem PySem.Spec PySem.W PyProof.Rows
def XU(e:jf)(d:am jf)(h:jX):Prop:=∃o,h.get? e=ja o/\o.dict=d
def Z3{α:Type}(e:jf):Sem α->Prop
 | .pure _=>True
 | .unsupported _=>True
 | .rule _ k=>Z3 e (k ())
 | .at _ k=>Z3 e (k ())
 | .load _ _ k=>∀o,Z3 e (k o)
 | .update a _ f k=>(∀(h:jX)d,XU e d h->XU e d (h.update a f))/\Z3 e (k ())
 | .alloc _ k=>∀a,Z3 e (k a)
 | .stack k=>∀l,Z3 e (k l)
 | .ask k=>∀l,Z3 e (k l)
 |_=>False
theorem YI{α β:Type}{f:α->Sem β}:∀{m:Sem α},Z3 e m->(∀a,Z3 e (f a))->Z3 e (m >>= f):=by
 intro m;show Z3 e m->_->Z3 e (Sem.bind m f)
 induction m<;>intro h g<;>first|exact qi h|exact g _|exact qJ|skip
 all_goals first
  |(rename_i k ih;exact ih () h g)
  |(rename_i k ih;exact⟨h.1,ih () h.2 g⟩)
  |(rename_i k ih;exact λa=>ih a (h a) g)
theorem Fa{α:Type}{M:Model}{Γ:PySem.Ctx}{Q:α->Pos->jg->Prop}{E:jc->Pos->jg->Prop}:∀{t:Sem α}{p:Pos}{s:jg},Z3 e t->XU e d s.heap->Sem.wp M Γ t Q E p s ->
 Sem.wp M Γ t (λa p' s'=>Q a p' s'/\XU e d s'.heap) E p s:=by
 intro t
 induction t<;>intro p s hc hd h<;>first|exact qi hc|skip
 case pure a=>exact⟨h,hd⟩
 case unsupported w=>exact h
 case rule t k ih=>exact ih () hc hd h
 case «at» t k ih=>exact ih () hc hd h
 case load a pt k ih=>obtain⟨o,h1,h2⟩:=h;exact⟨o,h1,ih o (hc o) hd h2⟩
 case update a pt f k ih=>exact⟨h.1,ih () hc.2 (hc.1 _ _ hd) h.2⟩
 case alloc o k ih=>
  obtain⟨ob,e1,e2⟩:=hd;exact ih _ (hc _) ⟨ob,ji _ e1,e2⟩ h
 case stack k ih=>exact ih _ (hc _) hd h
 case ask k ih=>exact ih _ (hc _) hd h
theorem Jr{α:Type}{M:Model}{Q:α->jg->Prop}{E:jc->jg->Prop}{t:Sem α}{s:jg}(hc:Z3 e t)(hd:XU e d s.heap)(h:jJ M A t Q E s) :
 jJ M A t (λa s'=>Q a s'/\XU e d s'.heap) E s:=λΓ p hΓ=>Fa hc hd (h Γ p hΓ)
theorem xb{h:jX}{f:Obj->Obj}(hf:∀o:Obj,(f o).dict=o.dict)(hz:∀o:Obj,o.isFreed=jj->(f o).isFreed=jj)(x:XU e d h):XU e d (h.update a f):=by
 obtain⟨o,e1,e2⟩:=x
 by_cases q:a=e
 . subst q
   exact⟨f o,ux f e1 (hz o (OD.mp e1).2),(hf o).trans e2⟩
 . exact⟨o,(uf _ _ q).trans e1,e2⟩
section
variable{e:jf}{α β:Type}
theorem Y4{a:α}:Z3 e (pure a:Sem α):=qJ
theorem Vz{w:String}:Z3 e (unsupported w:Sem α):=qJ
theorem V4{c:Prop} [Decidable c]{a b:Sem α}(h1:Z3 e a)(h2:Z3 e b):Z3 e (if c then a else b):=by split<;>assumption
theorem nu:Z3 e (load a):=λ_=>qJ
theorem nv:Z3 e stack:=λ_=>qJ
theorem Fb{f:Array jc->Array jc}:Z3 e (update a (ya f)):=by
 refine⟨λh d x=>xb (λo => ?_) (λo hz => ?_) x,qJ⟩
 . unfold ya;split<;>rfl
 . unfold ya;split<;>first|rfl|exact hz
theorem Fc:Z3 e (fieldsOf v):=by
 unfold fieldsOf
 split
 . refine YI nu λo => ?_
   split<;>first|exact Vz|exact Y4
 . exact Vz
theorem iH{i:Nat}:Z3 e (field v i):=by
 unfold field;refine YI Fc λo => ?_
 split<;>first|exact Vz|exact Y4
theorem nw{i:Nat}:Z3 e (setField v i x):=by
 unfold setField
 split
 . unfold updateField
   refine YI nu λo => ?_
   split
   . exact V4 Fb Vz
   . exact Vz
 . exact Vz
theorem ny:Z3 e (setFlight v f):=by
 unfold setFlight;exact YI iH λt=>V4 nw Y4
theorem xc:∀{l:al Env},Z3 e (readyFrames l)
 | []=>Y4
 |env::outer=>by
  unfold readyFrames
  split
  . refine YI nu λo=>V4 Y4 (YI ?_ λim=>YI ?_ λbk=>YI ?_ λ_=>xc)
    . unfold behindIsImport
      exact V4 Y4 (V4 Y4 (YI iH λ_=>Y4))
    . unfold keptBack
      split
      . exact V4 Y4 (YI (by unfold underTheClaimsCaller;exact YI nv λ_=>Y4) λ_=>Y4)
      . exact Y4
    . exact⟨λh d x=>xb (λo=>rfl) (λo hz=>by cases o with|mk a b c d=>cases c<;>first|rfl|exact hz) x,qJ⟩
  . exact Vz
theorem Fd:Z3 e (Oy env):=by
 unfold Oy;refine YI (by unfold frameEnvs;exact YI nv λ_=>Y4) λl=>YI ?_ λo => ?_
 . unfold frameObject
   split
   . exact Y4
   . exact YI xc λ_=>Y4
 . split<;>first|exact Vz|exact Y4
theorem Fe{b:Bool}:Z3 e (entryPlaceOf f b):=by
 unfold entryPlaceOf;refine YI nv λl => ?_
 split<;>exact Y4
theorem Ff:Z3 e (newFields "traceback" vs):=by
 unfold newFields newObj;dsimp only
 have h:Z3 e (newObjAsIs (.type "traceback") (.fields vs.toArray)):=by
  unfold newObjAsIs;exact YI (λ_=>qJ) λa=>Y4
 exact V4 (YI Vz λ_=>h) h
theorem xf:Z3 e (noteFrame v env):=by
 unfold noteFrame
 split
 . refine YI iH λhd => ?_
   have rest:∀hd:jc,Z3 e (do setField v 1 (<-ot hd (<-Oy env) .none (rawInt ‹jf›) .none (<-entryPlaceOf ‹jf› (hd != .none)))):=λhd=>
    YI Fd λ_=>YI Fe λ_=>YI (by unfold ot;exact Ff) λ_=>nw
   refine V4 ?_ (rest hd);refine YI iH λx=>V4 Y4 (YI nw λ_=>rest hd)
 . exact Vz
theorem xg:Z3 e (leaving env v):=by
 unfold leaving;exact YI xf λ_=>ny
end
def U1(K:jb)(C:jf):Bool:=match K.lookup C with
 |some ⟨.type "type",_,.cls cd,sl⟩=>(match cd.mro,sl.toList with
  | .ref C'::bm,[_,_,_,_,ja (.builtin n),_]=>C' == C&&n == "ValueError.__new__" && !cd.hasDel&&tailIn K eD bm
  |_,_=>jj)
 |_=>jj
theorem nz{K:jb}{hp:jX}(KX:K.In hp)(q0:U1 K C=je) :
 ∃bm N nm q bs hdct sn sub ab col dd k0 k1 k2 k3 k5,hp.get? C=ja (excClassObj nm q C N bs bm hdct sn sub ab col dd k0 k1 k2 k3 k5 "ValueError.__new__")/\OwnTail hp eD bm:=by
 unfold U1 at q0
 split at q0
 . rename_i dict0 cls0 slots0 look0
   split at q0
   . rename_i C1 rest0 j0 j1 j2 j3 nid1 j5 mro0 sl0
     simp only [jF,beq_iff_eq,ul]at q0;have e1:C1=C:=q0.1.1.1;have e2:nid1 = "ValueError.__new__" := q0.1.1.2;have e3:=q0.1.2;have e4:=q0.2;subst e1 e2;cases cls0 with
     |mk f1 f2 f3 f4 f5 f6 f7 f8 f9 f10 f11=>
      dsimp only at mro0 e3;subst mro0 e3
      have es:slots0 = #[j0,j1,j2,j3,ja (.builtin "ValueError.__new__"),j5]:=by
       cases slots0 with
       |mk l=>exact congrArg OM sl0
      subst es;exact⟨rest0,f4,f1,f5,f2,f6,f7,f8,f9,f10,dict0,j0,j1,j2,j3,j5,KX _ _ look0,tail_of_in KX e4⟩
   . cases q0
 . cases q0
section
variable{prog:jS}{w:jV}{A:qe}{E:jc->jg->Prop}{s:jg}{K:jb}{C fI:jf}{rest:al jc}
abbrev Y5(C:jf)(dd:am jf)(a0:jc):Obj:={ cls := .ref C,dict:=dd,data := .fields #[a0,.none,.none,.none,.bool jj,.none] }
abbrev V5(vs:al jc):Obj:={ cls := .type "tuple",data := .seq vs.toArray }
theorem Fh {Q:jc->jg->Prop} (KX:K.In s.heap) (hq:U1 K C=je) (hi:findIn K (.ref C) "__init__" = ja (ja (.ref fI))) (hf:typeIn K (.ref fI)=ja (.type "function")) (hz:rest.length<=8)
 (h:jJ (model prog w) (A.under (.builtin "type.__call__" ⟨.ref C::rest,[]⟩)) (call (.ref fI) (.ref (s.heap.objs.size+1)::rest)) (λr s'=>r = .none/\Q (.ref (s.heap.objs.size+1)) s') E
   { s with heap:=(s.heap.push (V5 rest)).push (Y5 C none (.ref s.heap.objs.size)) }) :
 jJ (model prog w) A (call (.ref C) rest) Q E s:=by
 obtain⟨hp,g,d,t,os⟩:=s;obtain⟨bm,N,nm,q,bs,hdct,sn,sub,ab,col,dd,k0,k1,k2,k3,k5,hC,T⟩:=nz KX hq;have F:=yp;have hrest:rest.length<=jv:=jK hz (by decide);have f1:=tc_lookup;have f2:=tc_bind (.ref C);have hT:(⟨hp,g,d,t,os⟩:jg).TypeIs (.ref C) "type" := ⟨_,hC,rfl⟩
 refine yL (W3 ?_);show jJ _ _ (callAny (.ref C) _) _ _ _
 repeat (any_goals (first|assumption|with_reducible refine yT hC ?_|wp_step))
 refine⟨rfl,?_⟩;refine codeAny_call_builtin_at (uP _ (by decide +kernel)) entry_typeCall (wpAny_check_type_call_sub hC ?_)
 repeat (first|with_reducible refine yT hC ?_|with_reducible refine wpAny_madeBy_exc hC ?_|wp_step)
 refine codeAny_call_builtin_code (uP _ F.quiet) (wpAny_check_new_subT F T hC ?_);refine codeAny_exc_new_subT F T hC ?_ hrest;show jJ _ _ _ _ _ _;have kp:∀b o,hp.get? b=ja o->((hp.push (V5 rest)).push (Y5 C none (.ref hp.objs.size))).get? b=ja o:=λb o e=>ji _ (ji _ e)
 have hC1:=kp _ _ hC
 have hget:((hp.push (V5 rest)).push (Y5 C none (.ref hp.objs.size))).get? (hp.objs.size+1)=ja (Y5 C none (.ref hp.objs.size)):=by
  have:=jD (hp.push (V5 rest)) (o:=Y5 C none (.ref hp.objs.size)) rfl
  rwa [qU]at this
 have hcC:(jY C::bm).contains (.ref C)=true:=by simp
 unfold isInstance
 repeat (first|with_reducible refine yT hget ?_|wp_step)
 show jJ _ _ (isSubtype (.ref C) (.ref C)) _ _ _;refine Wo hC1 ?_;rw [hcC]
 repeat (first|with_reducible refine yT hget ?_|wp_step)
 show jJ _ _ (Ww (.ref C) _) _ _ _;have KX1:K.In ((hp.push (V5 rest)).push (Y5 C none (.ref hp.objs.size))):=λa o e=>kp _ _ (KX _ _ e)
 refine(uB KX1 hi).here ?_;refine yA (jl ((vK KX1 _ hf).here ?_));refine jl (j7 h (λr s' hr => ?_) λ_ _ x=>x);obtain⟨rfl,hQ⟩:=hr
 wp_walk
 exact hQ
end
section
variable{prog:jS}{w:jV}{A:qe}{E:jc->jg->Prop}{s:jg}{K:jb}{C e:jf}{dd:am jf}{a0 u v:jc}{name:Str}
theorem Fi {Q:jc->jg->Prop} (KX:K.In s.heap) (hq:U1 K C=je) (he:s.heap.get? e=ja (Y5 C dd (.ref t0)))
 (h:∀h',h'.get? e=ja (Y5 C dd (.ref s.heap.objs.size))->(∀b o,b≠e->s.heap.get? b=ja o->h'.get? b=ja o)->h'.objs.size=s.heap.objs.size+1->Q .none { s with heap:=h' }) :
 jJ (model prog w) A (call (.builtin "ValueError.__init__") [.ref e,u]) Q E s:=by
 obtain⟨hp,g,d,t,os⟩:=s;obtain⟨bm,N,nm,q,bs,hdct,sn,sub,ab,col,dd',k0,k1,k2,k3,k5,hC,T⟩:=nz KX hq;have F:=yp;refine yL (yk F.init.plain F.initEntry (wpAny_check_init_subT F T hC he rfl ?_));have h1:=ji (V5 [u]) he
 wp_walk
 refine h _ ?_ (λb o hb e1 => ?_) (by rw [Heap.size_update,qU])
 . rw [ux _ h1 rfl]
   rfl
 . rw [uf _ _ (qF hb)]
   exact ji _ e1
theorem Fj(self:jc):refuseLoop self "__setattr__" eD=pure ():=by kernel_rfl
def QB:al jc->Bool
 | .ref _::r=>QB r
 |l=>l == eD
theorem Fk(self:jc):∀{l:al jc},QB l=je->refuseLoop self "__setattr__" l=pure ():=by
 intro l
 induction l with
 |nil=>intro x;cases x
 |cons a r ih=>
  intro x;cases a with
  |ref c=>rw [refuseLoop_ref];exact ih x
  |type n=>rw [beq_iff_eq.mp (show((uv n::r) == eD)=je from x)];exact Fj self
  |_=>cases beq_iff_eq.mp (show((_::r) == eD)=je from x)
theorem Fl:∀{l:al jc},QB l=je->l.contains (.type "object")=true:=by
 intro l
 induction l with
 |nil=>intro x;cases x
 |cons a r ih=>
  intro x;cases a with
  |ref c=>rw [OH,ih x,WR]
  |type n=>rw [beq_iff_eq.mp (show((uv n::r) == eD)=je from x)];decide +kernel
  |_=>cases beq_iff_eq.mp (show((_::r) == eD)=je from x)
theorem Fm {Q:Unit->jg->Prop} (KX:K.In s.heap) (hv:((clsIn K C).any λcd=>QB cd.mro)=je) (he:s.heap.get? e=ja (Y5 C none a0)) (hs:findIn K (.ref C) "__setattr__" = ja (ja (.builtin "object.__setattr__"))) (hn:findIn K (.ref C) name=ja none) (hh:qr K C=je)
 (h:∀h',h'.get? e=ja (Y5 C (ja s.heap.objs.size) a0)->h'.Ns1 s.heap.objs.size (λy=>if y=name then ja v else none)->(∀b o,b≠e->s.heap.get? b=ja o->h'.get? b=ja o)->Q () { s with heap:=h',toks:=s.toks+2 }) :
 jJ (model prog w) A (setAttr (.ref e) name v) Q E s:=by
 have J:InstAt s.heap e (Y5 C none a0) C none:=⟨he,rfl,rfl,qJ⟩
 refine vo KX J hs ?_;have SF:=PySem.F.store_object;obtain⟨cd,hc,hd'⟩:=OK hh;obtain⟨cd2,hc2,ho⟩:=OK hv;obtain rfl:cd2=cd:=jx (hc2.symm.trans hc);have ne:cd2.mro.isEmpty=false:=by cases q:cd2.mro with|nil=>rw [q]at ho;cases ho|cons _ _=>rfl
 have sub:Looks (model prog w) s.heap (isInstance (.ref e) (.type "object")) true:=J.type.andThen (oB KX (by unfold mroIn;rw [hc,Option.bind_some,if_neg (by rw [ne];decide),Fl ho]));refine yk SF.slot.plain SF.entry (@check_slot (model prog w) _ _ { s with toks:=s.toks+1 } "object.__setattr__" "object" "__setattr__" (.ref e) [.str name s.toks,v] [] _ SF.kind SF.split sub (SF.args (.ref e) (.str name s.toks) v) ?_)
 have hm:Looks (model prog w) s.heap (mroOf (.ref C)) cd2.mro:=(looks_clsIn KX hc).andThen .now;rw [osa_eq,refuse_eq];refine jl (jl (J.type.here (s:={ s with toks:=s.toks+1 }) (jl (hm.here (s:={ s with toks:=s.toks+1 }) ?_))));rw [Fk _ ho];refine jB (jl (J.type.here (s:={ s with toks:=s.toks+1 }) (jl ((uB KX hn).here (s:={ s with toks:=s.toks+1 }) (jl (jB ?_))))))
 dsimp only;refine jl (jB (jl (jl (o9 he (jl (O5 (s:={ s with toks:=s.toks+1 }) (oW KX hc) ?_))))));rw [hd',if_neg (by decide)];dsimp only;rw [if_neg (show ¬((!je || !typeHasDict (.ref C))=je)from jI)];refine jl (wpAny_alloc ?_);have hlt:e<s.heap.objs.size:=jw he
 have he1:=ji emptyDict he;refine jl (wpAny_update (o:=Y5 C none a0) he1 ?_);refine jB ?_;have he2:=ux (λo:Obj=>{ o with dict:=ja s.heap.objs.size }) he1 rfl;have hk:∀b o,b≠e->(s.heap.push emptyDict).get? b=ja o->((s.heap.push emptyDict).update e λo:Obj=>{ o with dict:=ja s.heap.objs.size }).get? b=ja o:=λb o hb x=>(uf _ _ (qF hb)).trans x
 have hd0:(s.heap.push emptyDict).get? s.heap.objs.size=ja emptyDict:=jD s.heap rfl;have hd1:=hk _ _ (yG hlt) hd0;have n1:((s.heap.push emptyDict).update e λo:Obj=>{ o with dict:=ja s.heap.objs.size }).Ns1 s.heap.objs.size (λ_=>none):=vh ⟨emptyDict,#[],_,hd1,rfl,(λe he=>absurd he (by simp)),λ_=>rfl⟩;refine jl (jB (jl ?_))
 refine wpAny_nsSet1 (s:={ s with heap:=((s.heap.push emptyDict).update e λo:Obj=>{ o with dict:=ja s.heap.objs.size }),toks:=s.toks+1 }) n1 λh' hn2 hs2 => ?_
 have wi:OJ (λ_:Str=>(none:am jc)) []:=λy hy=>absurd rfl hy
 obtain⟨oD,esD,epD,hoD,hdD,hcD⟩:=hn2.count (oq name v wi);refine jl (WS hoD (by rw [hdD];exact WT (jK hcD (show 1<=jv+1 by decide))) ?_);exact jB (h _ ((hs2.2 _ (jU hlt)).trans he2) hn2 λb o hb x=>(hs2.2 b (jU (jw x))).trans (hk b o hb (ji _ x)))
theorem Fn{ox od:Obj}{Q:Fin->jg->Prop}(KX:K.In s.heap)(J:InstAt s.heap x ox C (ja od))(hf:findObj K C (ja od) name=ja (.value v))(h:Q (.done (.ret v)) s) :
 jJ (model prog w) A (Builtin.«object.__getattribute__» ⟨[.ref x,.str name tk],[]⟩) Q E s:=by
 obtain⟨hp,g,d,t,os⟩:=s;have L0:=J.type (M:=model prog w);have L1:=looks_find (M:=model prog w) KX J hf;unfold Builtin.«object.__getattribute__»;refine jl (jB ?_);refine jl (jB (jl (L0.at (jl (L1.at ?_)))));exact jB h
theorem Fo {ox od:Obj} {expr:Bool} {Q:jc->jg->Prop} (KX:K.In s.heap) (J:InstAt s.heap x ox C (ja od)) (hga:findIn K (.ref C) "__getattribute__" = ja (ja (.builtin "BaseException.__getattribute__"))) (hgn:findIn K (.ref C) "__getattr__" = ja none)
 (hsub:mroIn K C (.type "BaseException")=ja je) (hf:findObj K C (ja od) name=ja (.value v)) (hh:handedIn v=je) (h:Q v { s with toks:=s.toks+1 }):jJ (model prog w) A (getAttr (.ref x) name expr) Q E s:=by
 have FX:=PySem.F.attr_ValueError;refine jl (wpAny_mkText (yA (jl (J.type _ _ _ _ (λ_ _ e=>e) (jl (uB KX hga _ _ _ _ (λ_ _ e=>e) ?_))))));dsimp only;rw [show(onTheHeap (jY C)&&yI "BaseException.__getattribute__" == yI "object.__getattribute__")=jj from by rw [show(yI "BaseException.__getattribute__" == yI "object.__getattribute__")=jj from by decide +kernel,uR],if_neg (by decide)]
 refine jl ((uB KX hgn) _ _ _ _ (λ_ _ e=>e) (jl (vC (yA ?_))));unfold callGetattribute;rw [show(expr&&onTheHeap (yI "BaseException.__getattribute__"))=jj from uR _,if_neg (by decide)];unfold boundAndCalled;rw [FX.ga.bind];refine jl (jB ?_);show jJ _ _ (call (.builtin "BaseException.__getattribute__") [.ref x,.str name s.toks]) _ _ _
 refine yL ?_;refine yk FX.ga.plain PySem.F.entry_bexc_ga ?_;refine @check_slot (model prog w) _ _ { s with toks:=s.toks+1 } "BaseException.__getattribute__" "BaseException" "__getattribute__" (.ref x) [.str name s.toks] [] _ (by decide +kernel) (by decide +kernel) (J.type.andThen (oB KX hsub)) (PySem.F.args_bexc_ga (.ref x) (.str name s.toks)) ?_;refine Fn (s:={ s with toks:=s.toks+1 }) KX J hf ?_
 show jJ _ _ (handedOut v) _ _ _;rw [handedOut_of hh];exact jB h
end
def ci(e C:jf)(d:am jf)(h:jX):Prop:=∃t0:jf,h.get? e=ja (Y5 C d (.ref t0))
theorem ci.ok{P:jS}{w:jV}{H:Hp}{h:jX}{e C:jf}{d:am jf}(x:ci e C d h):aZ P w H h e (.ext (ci e C d)):=
 ⟨x,let⟨_,q⟩:=x;⟨_,q⟩,λh1 h2 ⟨t0,q⟩ k=>⟨t0,k _ q⟩⟩
structure e9(K:jb)(C fI:jf)(f:Str):Prop where
 new:U1 K C=je
 ini:findIn K (.ref C) "__init__" = ja (ja (.ref fI))
 fn:isFn K (.ref fI)=je
 kp:keepIn K (.ref C)=je
 tl:((clsIn K C).any λcd=>QB cd.mro)=je
 sa:findIn K (.ref C) "__setattr__" = ja (ja (.builtin "object.__setattr__"))
 no:findIn K (.ref C) f=ja none
 hd:hasDictIn K C=je
structure gL(K:jb)(G:jf):Prop where
 sp:specialIn K (.ref G) "__getattribute__" = ja (ja (.builtin "type.__getattribute__"))
 rd:readsIn K G (.type "type")=je
 fc:findCls K (.ref G) (.type "type") "__init__" = ja (.val (.builtin "ValueError.__init__"))
theorem Fp{H:Hp}{o:HO}(h:H a=ja o):aV H a o=H:=by
 funext b
 unfold aV
 split
 . rename_i q;rw [q,h]
 . rfl
theorem Fq{h:jX}{b:jf}{o w:Obj}(hb:b≠h.objs.size)(x:(h.push o).get? b=ja w):h.get? b=ja w:=by
 obtain⟨x1,x2⟩:=OD.mp x;refine Heap.get?_some_iff.mpr ⟨?_,x2⟩;have x3:(h.objs.push o)[b]? = ja w:=x1;rw [Array.getElem?_push,if_neg hb]at x3;exact x3
def nA(C:jf):al V->Hp->VK->Prop:=λxs H Q=>∃e d u,xs=[.ref e,u]/\H e=ja (.ext (ci e C d))/\Q .non H
section
variable{X:Cx}{C fI:jf}{f:Str}
theorem Fs(T:e9 X.K C fI f):bg X (.builtin "ValueError.__init__") (nA C):=by
 intro pins s σ H xs us Q I rs h;obtain⟨e,d,u,rfl,he,q⟩:=h;obtain⟨ue,uu,rfl,rx,rc⟩:=UI rs;cases(show ue=jY e from rx);obtain⟨t0,hx⟩:=(I.hok e _ he).1;refine Fi I.kIn T.new hx λh' h1 h2 h3=>⟨.non,H,?_,rfl,q⟩
 have J:=I.write (h':=h') (t':=s.toks) (x:=e) (e:=e) (o:=.ext (ci e C d)) (by rw [he];exact qJ) (.inl rfl) (λb o hb z=>h2 b o hb z) ⟨_,h1⟩ (ci.ok ⟨_,h1⟩);rw [Fp he]at J;exact J
theorem Ft {g:Str} {p apos pos:Pos} {e:qA} {es:al qA} {pl:Sem Bool} (T:e9 X.K C fI f) (B:gL X.K G) (hg:Gl X g) (hm:X.mg g=ja (.ref G)) (ha:PA X (e::es) t) (hdb:autoParam ((g == ("__debug__" : Str))=false) ad)
 (hst:autoParam (starEach (e::es) X.env=(jj,eval e X.env)::starEach es X.env) ah) (hpl:autoParam ((backTo pos (starEach es X.env)).any (·.1)=false) ah)
 (ht:autoParam (eval (.Call (.Attribute (.Name g p) "__init__" apos) (e::es) [] pos) X.env=(do
   let ov <-eval (.Name g p) X.env
   standAt apos.atName
   let(f,first) <-holding [ov] (getMethod ov "__init__" pl)
   callWith pos f first (backTo pos (starEach (e::es) X.env)) (backToKw pos (keywordEach [] X.env)))) ah) :
 PE X (.Call (.Attribute (.Name g p) "__init__" apos) (e::es) [] pos) (fi (nA C) t):=by
 intro pins s σ H Q I h;refine oA (pl:=pl) (X8 I hg hm ?_ hdb) ht;refine method_cls I.kIn B.sp (cls_value I.kIn B.rd B.fc rfl ?_);exact Ot (aW (ha pos pins _ σ H _ (I.tok _) h) λus s1 ⟨vs,H1,I1,r1,q1⟩=>Fs T pins s1 σ H1 vs us Q I1 r1 q1) hst hpl
def xh(C:jf)(ta tv:TE)(f:Str):TS:=λD σ H=>tv σ H λy H1=>ta σ H1 λx H2=>∃e,x = .ref e/\H2 e=ja (.ext (ci e C none))/\∀d,H2 d=none->D.nx σ (aV (aV H2 d (.xd [(f,y)])) e (.ext (ci e C (ja d))))
theorem Fu{pos pos':Pos}(T:e9 X.K C fI f)(ha:PE X o ta)(hv:PE X value tv)(hs:autoParam (swapsWith value (ja (.Attribute o f pos')) pos.line X.env=pure false) ah):PS X (.Assign [.Attribute o f pos'] value pos) (xh C ta tv f):=by
 intro pins s σ H D I h;refine oj (aW (hv pins s σ H _ I h) λu s1 ⟨y,H1,I1,ry,q⟩=>aW (ha pins s1 σ H1 _ I1 q) λov s2 z=>?_) hs;obtain⟨x,H2,I2,rx,e,ex,ea,q2⟩:=z;subst ex;cases(show ov=jY e from rx);obtain⟨t0,hx⟩:=(I2.hok e _ ea).1;have hf:H2 s2.heap.objs.size=none:=I2.hok.fresh (jz _);refine Fm I2.kIn T.tl hx T.sa T.no T.hd λh' h1 h2 h3=>⟨σ,_,?_,q2 _ hf⟩
 obtain⟨oD,esD,epD,hoD,cD⟩:=id h2;have hne:e≠s2.heap.objs.size:=jU (jw hx);have hz:(s2.heap.push oD).get? s2.heap.objs.size=ja oD:=jD s2.heap (OD.mp hoD).2
 have I3:=I2.laid (a:=s2.heap.objs.size) (o:=.xd [(f,y)]) (h':=s2.heap.push oD) (t':=s2.toks) (λb w z=>ji _ z) (jz _)
  ⟨_,⟨oD,esD,epD,hz,cD⟩,λg=>by
    show c9 (jG g [(f,y)]) (if g=f then ja u else none)
    by_cases hgf:g=f
    . have hb:(g == f)=true:=beq_iff_eq.mpr hgf
      simp only [jG,hb,if_pos hgf];exact ry
    . have hb:(g == f)=false:=beq_eq_false_iff_ne.mpr hgf
      simp only [jG,hb,if_neg hgf];exact qJ⟩
 refine I3.write (h':=h') (t':=s2.toks+2) (x:=e) (e:=e) (o:=.ext (ci e C (ja s2.heap.objs.size))) (by rw [Zn hne,ea];exact qJ) (.inl rfl) (λb w hb z => ?_) ⟨_,h1⟩ (ci.ok ⟨_,h1⟩)
 by_cases hbd:b=s2.heap.objs.size
 . subst hbd
   have z':(s2.heap.push oD).get? s2.heap.objs.size=ja w:=z;rw [hz]at z';cases z';exact hoD
 . refine h3 b w hb ?_
   have z':(s2.heap.push oD).get? b=ja w:=z;exact Fq hbd z'
end
def fm(H:Hp)(a:jf):Hp:=λb=>if b=a then none else H b
theorem QC{H:Hp}{a b:jf}(h:b≠a):fm H a b=H b:=by unfold fm;rw [if_neg h]
theorem nB:fm H a a=none:=by unfold fm;rw [if_pos rfl]
theorem Fv {A:qe} {E:jc->jg->Prop} {K:jb} {x:Sem jc} {Q:Flow->jg->Prop} (hq:U1 K C=je) (hh:A.handled=none)
 (h:jJ (model prog w) A x (λv s1=>∃e d t0,v = .ref e/\K.In s1.heap/\s1.heap.get? e=ja (Y5 C d (.ref t0))/\E (.ref e) s1) E s):jJ (model prog w) A (raiseStmt env (ja x) none) Q E s:=by
 unfold raiseStmt;refine jl (j7 h (λv s1 h1 => ?_) λ_ _ x=>x);obtain⟨e,d,t0,rfl,KX,he,hE⟩:=h1;obtain⟨hp,g,dr,tk,os⟩:=s1;obtain⟨bm,N,nm,q,bs,hdct,sn,sub,ab,col,dd',k0,k1,k2,k3,k5,hC,T⟩:=nz KX hq;have hcB:(jY C::bm).contains (.type "BaseException")=true:=by rw [OH,T.hasType yp.hasBase,WR]
 have he':hp.get? e=ja { cls := .ref C,dict:=d,data := .fields #[.ref t0,.none,.none,.none,.bool jj,.none] }:=he
 repeat (first|with_reducible refine yT he' ?_|with_reducible refine yT hC ?_|(with_reducible refine Wo hC ?_;rw [hcB])|wp_step)
 exact wpAny_raiseNew_none hh hE
def xi(X:Cx)(E:XK)(C:jf):Prop:=∀(pins:al (jf×Obj))(σ:St)(H:Hp)(s:jg)(ea d:jf),Inv X pins σ H s->H ea=ja (.ext (ci ea C (ja d)))->E (.ref C) (ja d) (fm H ea)->X.xe (.ref ea) s
def nC(E:XK)(C:jf)(sp:Sp)(t:TA):TS:=λ_ σ H=>t σ H λvs H1=>vs.length<=8/\∀ea,H1 ea=none ->
 sp (.ref ea::vs) (aV H1 ea (.ext (ci ea C none))) (λv H2=>v = .non/\∃d,H2 ea=ja (.ext (ci ea C (ja d)))/\E (.ref C) (ja d) (fm H2 ea)) E0
section
variable{X:Cx}{E:XK}{C fI:jf}{f x:Str}{fd:qI}{ps:al Str}{sp:Sp}{k:Nat}{p cpos pos:Pos}{e:qA}{es:al qA}{t:TA}
theorem nE (T:e9 X.K C fI f) (F:aO X.prog X.w X.K X.mg X.base bF k fI fd ps sp) (hr:a4 (k+1) X.A) (hg:Gl X x) (hm:X.mg x=ja (.ref C)) (hb:Binds X.K fd ps []) (hR:xi X E C) (ha:PA X (e::es) t) (hc:autoParam (X.calm=true) ah)
 (he:autoParam (starEach (e::es) X.env=(jj,eval e X.env)::starEach es X.env) ah) (hpl:autoParam ((backTo cpos (starEach es X.env)).any (·.1)=false) ah) (hdb:autoParam ((x == ("__debug__" : Str))=false) ad) :
 PS X (.Raise (ja (.Call (.Name x p) (e::es) [] cpos)) none pos) (nC E C sp t):=by
 intro pins s σ H D I h;rw [arm_exec_Raise];simp only [evalOpt,WP];refine jl (uJ (Fv (C:=C) T.new (I.ok.hd hc) ?_));refine jl (j7 (Q:=λv s1=>∃e d t0,v = .ref e/\X.K.In s1.heap/\s1.heap.get? e=ja (Y5 C d (.ref t0))/\X.xe (.ref e) s1) ?_ (λv s3 h3=>jl (uJ (jB h3))) λ_ _ x=>x);refine yc (X8 I hg hm ?_ hdb)
 refine yW (h₀:=X.base) I.ok.mod.kin T.kp (aW (ha cpos pins s σ H _ I h) λus s1 ⟨vs,H1,I1,r,hz,q⟩=>⟨I1.kIn,?_⟩) he hpl;refine Fh I1.kIn T.new T.ini (beq_iff_eq.mp T.fn) (show us.length<=8 by rw [<-r.length];exact hz) ?_
 have hget:((s1.heap.push (V5 us)).push (Y5 C none (.ref s1.heap.objs.size))).get? (s1.heap.objs.size+1)=ja (Y5 C none (.ref s1.heap.objs.size)):=by
  have:=jD (s1.heap.push (V5 us)) (o:=Y5 C none (.ref s1.heap.objs.size)) rfl
  rwa [qU]at this
 have I2:=I1.laid (a:=s1.heap.objs.size+1) (o:=.ext (ci (s1.heap.objs.size+1) C none)) (h':=(s1.heap.push (V5 us)).push (Y5 C none (.ref s1.heap.objs.size))) (t':=s1.toks) (λb u z=>ji _ (ji _ z)) (uV _) (ci.ok ⟨_,hget⟩);have hq:=q (s1.heap.objs.size+1) (I1.hok.fresh (uV _));have r2:aR (V.ref (s1.heap.objs.size+1)::vs) (jY (s1.heap.objs.size+1)::us) := .cons rfl r
 have hl:(jY (s1.heap.objs.size+1)::us++[]).length=ps.length:=by
  have e:=r2.length;rw [F.len _ _ _ _ hq]at e;rw [qh];exact e.symm
 have hbb:=hb _ (jY (s1.heap.objs.size+1)::us) I2.kIn hl;rw [qh]at hbb;refine yL (yM (F.run _ X.stack _ _ ⟨jY (s1.heap.objs.size+1)::us,[]⟩ (jY (s1.heap.objs.size+1)::us) _ _ E0 (hr.make C us []) (I2.env0.make C us []) hbb r2 hq) λr s' hq' => ?_);cases r with
 |error e=>exact(show False from hq').elim
 |ok fl=>
  cases fl with
  |ret u=>
   obtain⟨v,H',I3,rv,ev,d,hd,q3⟩:=I2.after hq';subst ev;obtain⟨t0,hx⟩:=(I3.hok _ _ hd).1;exact⟨rv,_,_,_,rfl,I3.kIn,hx,hR pins σ H' s' _ d I3 hd q3⟩
  |next=>exact qi hq'
  |brk=>exact qi hq'
  |cont=>exact qi hq'
end
def cW(P:jS)(w:jV):dq:=λouter H s E ev s'=>∃(ea:jf) (cls a0:jc) (B:jX) (H':Hp) (dO:am jf),ev = .ref ea/\s'.os=s.os/\AllBare s'.gens/\yo B outer ea cls a0 s'.heap /\
 (∀b o,s.heap.get? b=ja o->H b=none->b∉bI outer->B.get? b=ja o)/\bS P w H' B/\aH H H'/\(∀b o,s.heap.get? b=ja o->H b=none->H' b=none)/\(∀b o,s.heap.get? b=ja o->b∈bI outer->∃sl,s'.heap.get? b=ja { o with slots:=sl })/\XU ea dO s'.heap/\E cls dO H'
section
variable{P:jS}{w:jV}{K:jb}{mg:Str->am jc}{base:jX}{N:al Str}{qual:Str}{scope:qH}{f:jf}{cd:jc}{A:qe}{outer:al Env}{s:jg}{H:Hp}{E:XK}
theorem bS.off{H:Hp}{h:jX}{a:jf}{φ:jX->Prop}(x:bS P w H h)(ha:H a=ja (.ext φ)):bS P w (fm H a) h:=λb o e=>by
 have hb:b≠a:=λz=>by rw [z,nB]at e;cases e
 rw [QC hb]at e;refine(x b o e).stay (λ_ _ _ q=>q) (λc q => ?_) (λc xs q => ?_) λc ob y q => ?_
 . rw [QC (λz=>by rw [z,ha]at q;cases q)];exact q
 . rw [QC (λz=>by rw [z,ha]at q;cases q)];exact q
 . rw [QC (λz=>by rw [z,ha]at q;cases q)];exact q
theorem nF:xi (ZJ (cW P w) P w K mg base N qual scope f cd A outer s H E) (λc d H'=>aH H H'/\E c d H') C:=by
 intro pins σ H1 s1 e d I hx ⟨hsm,hw⟩;show jJ (model P w) _ (leaving _ (.ref e)) _ _ _;have hin:∀env∈((ZJ (cW P w) P w K mg base N qual scope f cd A outer s H E).stack),∀b,env.frame=ja b->b∈e::bI (ZJ (cW P w) P w K mg base N qual scope f cd A outer s H E).stack:=λenv he b hb=>jq _ (uQ.mpr ⟨env,he,hb⟩)
 have hfr:=I.ok.frames;have hfun:=vb I.stack hin;have hfree:=I.stkFree;have hsub:=I.stkSub;obtain⟨t0,hxe⟩:=(I.hok e _ hx).1;have hen:(hideAll s1.heap (e::bI (ZJ (cW P w) P w K mg base N qual scope f cd A outer s H E).stack)).get? e=none:=u7 _ jr;refine j7 (Jr (d:=ja d) xg ⟨_,hxe,rfl⟩ (wpAny_leaving_firstW (Q:=λ_ s'=>∃h',s'={ s1 with heap:=h' }/\Heap.LeftW (hideAll s1.heap (e::bI (ZJ (cW P w) P w K mg base N qual scope f cd A outer s H E).stack)) _ e (.ref C) (.ref t0) s1.heap h') (a0:=.ref t0) hfr hfun rfl hxe (λb o q=>uo _ q) hen rfl rfl rfl λh' hL=>⟨h',rfl,hL⟩)) (λ_ s' ⟨⟨h',es,hL⟩,hD⟩ => ?_) λ_ _ z=>z
 subst es;obtain⟨k1,⟨_,_,k2⟩,k3,k4⟩:=hL
 have hH:∀b o,s.heap.get? b=ja o->H b=none->b≠e:=λb o q n z=>by
  have:=I.base.free b o q n (λz=>nomatch z);rw [z,hx]at this;cases this
 refine⟨e,.ref C,.ref t0,_,fm H1 e,ja d,rfl,I.os,I.bare,⟨k1,hen,k2,k3⟩,λb o q n hb => ?_,bS.hide (I.hok.off hx) λb hb => ?_,hsm,λb o q n => ?_,λb o q hb => ?_,hD,hw⟩
 . have q1:=I.base.keep b o q n hb (λz=>nomatch z)
   refine y0 _ q1 λz => ?_
   rcases jp.mp z with e'|z
   . exact hH b o q n e'
   . rcases jp.mp (hsub b z)with e'|z
     . have:=I.ok.above
       exact absurd (jw q) (ym.mpr (by rw [e'];exact this))
     . exact hb z
 . rcases jp.mp hb with e'|z
   . rw [e',nB]
   . by_cases q:b=e
     . rw [q,nB]
     . rw [QC q];exact hfree b z
 . rw [QC (hH b o q n)]
   exact I.base.free b o q n (λz=>nomatch z)
 . obtain⟨sl,q1⟩:=I.base.slot b o q (I.ok.frf b hb) hb (λz=>nomatch z)
   obtain⟨_,o',q2,hnf⟩:=I.ok.funs.mem hb;have:o'=o:=jx (q2.symm.trans q);subst this;obtain⟨sl2,q4⟩:=k4 b _ q1 (show ∀vs,({ cls:=o'.cls,dict:=o'.dict,data:=o'.data,slots:=sl }:Obj).data ≠ .fields vs from hnf);exact⟨sl2,q4⟩
theorem Fw:Xc (cW P w) (ZJ (cW P w) P w K mg base N qual scope f cd A outer s H E) (λc d H'=>aH H H'/\E c d H'):=by
 intro pins σ H1 s1 ev s' I ⟨ea,cls,a0,B,H2,dO,e,hos,hb,hfl,hKB,hok,hsame,hfree,hup,hD,hS,hE⟩;subst e;show jJ (model P w) _ (leaving _ (.ref ea)) _ _ _;refine j7 (Jr xg hD (oo (Q:=λ_ s2=>∃h2,s2={ s' with heap:=h2 }/\yo B outer ea cls a0 h2/\s'.heap.UpToSlots h2) (outer:=outer) I.ok.frames rfl hfl λh2 y1 y2=>⟨h2,rfl,y1,y2⟩)) (λ_ s2 ⟨⟨h2,es,y1,y2⟩,hD2⟩ => ?_) λ_ _ z=>z
 subst es;refine⟨ea,cls,a0,B,H2,dO,rfl,hos.trans I.os,hb,y1,λb o q n hn => ?_,hok,hS,λb o q n => ?_,λb o q hn => ?_,hD2,hE⟩
 . refine hKB b o (I.base.keep b o q n hn (λz=>nomatch z)) (I.base.free b o q n (λz=>nomatch z)) λz => ?_
   rcases jp.mp (I.stkSub b z)with e'|z
   . exact absurd (jw q) (ym.mpr (by rw [e'];exact I.ok.above))
   . exact hn z
 . obtain⟨sl,q1⟩:=I.base.any q n (λz=>nomatch z)
   exact hfree b _ q1 (I.base.free b o q n (λz=>nomatch z))
 . obtain⟨sl,q1⟩:=I.base.slot b o q (I.ok.frf b hn) hn (λz=>nomatch z)
   obtain⟨_,o',q2,hnf⟩:=I.ok.funs.mem hn;have:o'=o:=jx (q2.symm.trans q);subst this;obtain⟨sl',q3⟩:=hup b _ q1 (jq _ hn);obtain⟨sl2,q4⟩:=y2 b _ q3 (show ∀vs,({ cls:=o'.cls,dict:=o'.dict,data:=o'.data,slots:=sl' }:Obj).data ≠ .fields vs from hnf);exact⟨sl2,q4⟩
end
theorem Fx{l:al Env}(f:yo B l e (.ref C) a0 h)(d:XU e dO h):Vs e C dO h:=by
 obtain⟨oe,vs,h3,hc,h4,_⟩:=f.first;obtain⟨o,h1,h2⟩:=d;obtain rfl:o=oe:=jx (h1.symm.trans h3);exact⟨o,h1,hc,h2,by obtain⟨a,b,c,d⟩:=o;dsimp only at h4;subst h4;rfl⟩
section
variable{X:Cx}{pins:al (jf×Obj)}{σ:St}{H H':Hp}{s s':jg}{B hp:jX}{ea:jf}
theorem Fy {φ:jX->Prop} (I:Inv X pins σ H s) (hos:s'.os=s.os) (hbare:AllBare s'.gens) (hst:B.StaysIn s'.heap) (hea:B.get? ea=none) (hKB:∀b o,s.heap.get? b=ja o->H b=none->b∉bI X.stack->B.get? b=ja o)
 (hok:bS X.prog X.w H' B) (hsame:aH H H') (hfree:∀b o,s.heap.get? b=ja o->H b=none->H' b=none) (hup:∀b o,s.heap.get? b=ja o->b∈bI X.stack->∃sl,s'.heap.get? b=ja { o with slots:=sl })
 (hφ:∀g1 g2:jX,φ g1->(∀o,g1.get? ea=ja o->g2.get? ea=ja o)->φ g2) (hxe:∃ob,s'.heap.get? ea=ja ob) (hx:φ s'.heap) (hnf:ea∉bI X.stack):Inv X pins σ (aV H' ea (.ext φ)) s'/\H' ea=none:=by
 have hn:H' ea=none:=by
  cases q:H' ea with
  |none=>rfl
  |some o=>
   obtain⟨u,e⟩:=(hok ea o q).there;rw [hea]at e;cases e
 have ne':∀b o,H' b=ja o->b≠ea:=λb o q z=>by rw [z,hn]at q;cases q
 have hup':∀b o,H' b=ja o->aV H' ea (.ext φ) b=ja o:=λb o q=>(Zn (ne' b o q)).trans q
 refine⟨I.call' (ch:=[]) hos ⟨λb o q n hb _=>hst b o (hKB b o q n hb),λb o q n hb _=>hup b o q hb,λb o q n _ => ?_,λb o q _ => ?_,λb xs q=>hup' b _ (hsame b _ q),λb ob u q=>hup' b _ (hsame b _ q),λb ps q=>⟨#[],by rw [hup' b _ (hsame b _ q)];simp⟩⟩ ?_ hbare (λb z=>nomatch z),hn⟩
 . by_cases hb:b∈bI X.stack
   . have hbe:b≠ea:=λz=>hnf (by rw [<-z];exact hb)
     rw [Zn hbe];exact hfree b o q n
   . have:=hKB b o q n hb
     have hbe:b≠ea:=λz=>by rw [z,hea]at this;cases this
     rw [Zn hbe];exact hfree b o q n
 . by_cases hb:b∈bI X.stack
   . obtain⟨sl,e⟩:=hup b o q hb
     exact⟨_,e⟩
   . cases n:H b with
     |none=>exact⟨o,hst b o (hKB b o q n hb)⟩
     |some u=>
      obtain⟨v,e⟩:=(hok b u (hsame b u n)).there;exact⟨v,hst b v e⟩
 . intro a o q
   by_cases ha:a=ea
   . subst ha
     rw [ZF]at q;cases q;exact⟨hx,hxe,hφ⟩
   . rw [Zn ha]at q
     exact(hok a o q).stay (λb u _ e=>hst b u e) (λb e=>hup' b _ e) λb xs e=>hup' b _ e
end
def xj(X:Cx)(E:XK)(e:qA)(t:TE):Prop:=∀(pins:al (jf×Obj))(s:jg)(σ:St)(H:Hp)(Q:VK)(xe:jc->jg->Prop),Inv X pins σ H s->t σ H Q ->
 (∀H2 s2 ev s',Inv X pins σ H2 s2->cW X.prog X.w X.stack H2 s2 E ev s'->xe ev s')->jJ (model X.prog X.w) X.A (eval e X.env) (EP X pins σ Q) xe s
def xk(X:Cx)(E:XK)(st:al qv)(t:TS):Prop:=∀(pins:al (jf×Obj))(s:jg)(σ:St)(H:Hp)(D:Ends)(xe:jc->jg->Prop),Inv X pins σ H s->t D σ H ->
 (∀H2 s2 ev s',Inv X pins σ H2 s2->cW X.prog X.w X.stack H2 s2 E ev s'->xe ev s')->jJ (model X.prog X.w) X.A (execs st X.env) (SP X pins D) xe s
section
variable{X:Cx}{E:XK}
theorem Fz {k:Nat} {x:Str} {e:qA} {es:al qA}
 (F:aO X.prog X.w X.K X.mg X.base (cW X.prog X.w) k f fd ps sp) (hr:a4 k X.A) (hg:Gl X x) (hm:X.mg x=ja (.ref f)) (hk:jM X.K (.ref f)=je) (hb:Binds X.K fd ps ds) (hd:aR dvs ds) (h0:∀e s,¬X.xe e s) (ha:PA X (e::es) t)
 (hdb:autoParam ((x == ("__debug__" : Str))=false) ad) (he:autoParam (starEach (e::es) X.env=(jj,eval e X.env)::starEach es X.env) ah) (hpl:autoParam ((backTo pos (starEach es X.env)).any (·.1)=false) ah) :
 xj X E (.Call (.Name x p) (e::es) [] pos) (XB sp dvs E t):=by
 intro pins s σ H Q xe I h hx;refine yc (X8 I hg hm ?_ hdb);refine yW (h₀:=X.base) I.ok.mod.kin hk (j7 (ha pos pins s σ H _ I h) (λus s1 ⟨vs,H1,I1,r,q⟩=>⟨I1.kIn,?_⟩) λe s z=>(h0 e s z).elim) he hpl;have r2:aR (vs++dvs) (us++ds):=r.append hd;have hl:(us++ds).length=ps.length:=by rw [<-r2.length];exact F.len _ _ _ _ q
 refine yL (yM (F.run X.A X.stack s1 H1 ⟨us,[]⟩ (us++ds) (vs++dvs) Q E hr I1.env0 (hb s1 us I1.kIn hl) r2 q) λr' s' hq => ?_);cases r' with
 |error ev=>exact hx H1 s1 ev s' I1 hq
 |ok fl=>
  cases fl with
  |ret u=>exact I1.after hq
  |next=>exact qi hq
  |brk=>exact qi hq
  |cont=>exact qi hq
theorem FA{pos:Pos}(he:xj X E e te)(hs:autoParam (swapsWith e none pos.line X.env=pure false) ah):xk X E [.Expr e pos] (XN te):=by
 intro pins s σ H D xe I h hx;refine Oo (aW (Q:=SP X pins D) (wpAny_Expr_any (aW (he pins s σ H _ xe I h hx) λv s1 ⟨x,H1,I1,r1,q1⟩=>⟨σ,H1,I1,q1⟩) I.quiet hs) λf s1 q => ?_);cases f with
 |next=>exact uT q
 |ret v=>exact q
 |brk=>exact q
 |cont=>exact q
end
section
variable{P:jS}{w:jV}{K:jb}{mg:Str->am jc}{base:jX}{N:al Str}{qual:Str}{scope:qH}{f:jf}{cd:jc}{A:qe}{outer:al Env}{s:jg}{H:Hp}{E:XK}
theorem bJ.d{ev:jc}{s':jg}:bJ P w outer H s (λc _ H'=>∀dO,aH H H'/\E c dO H') ev s'->cW P w outer H s E ev s':=λ⟨ea,cls,a0,B,H',h1,h2,h3,h4,h5,h6,h7,h8,hE⟩=>by
 obtain⟨o,ho,_⟩:=h4.there;exact⟨ea,cls,a0,B,H',o.dict,h1,h2,h3,h4,h5,h6,(hE none).1,h7,h8,⟨o,ho,rfl⟩,(hE _).2⟩
theorem FC:Xc (bJ P w) (ZJ (cW P w) P w K mg base N qual scope f cd A outer s H E) (λc _ H'=>∀dO,aH H H'/\E c dO H'):=wZ λ_ _ h=>h.d
end
def xl(K:jb):al V->Hp->VK->Prop:=λxs H Q=>∃e C φ c cv b,xs=[.ref e,c]/\br K C/\H e=ja (.ext φ)/\(∀h,φ h->Vb e (.ref C) h)/\(∀v,RelV c v->v=cv)/\kitOne K (.ref C) cv=ja b/\Q (.bl b) H
theorem QD{X:Cx}{K:jb}(hK:autoParam (X.K=K) ah):bg X (.builtin "isinstance") (xl K):=by
 subst hK;intro pins s σ H xs us Q I rs h;obtain⟨e,C,φ,c,cv,b,rfl,T,he,hφ,hc,hk,q⟩:=h;obtain⟨u,w',rfl,rx,rc⟩:=UI rs;have ec:=hc _ rc;subst ec;cases(show u=jY e from rx);exact qC (wf T) I.kIn (hφ _ (I.hok e _ he).1) hk (λz=>nomatch z) λtk=>⟨.bl b,H,I.tok tk,rfl,q⟩
def xn(K:jb):al V->Hp->VK->Prop:=λxs H Q=>∃e C φ tp vs cvs b,xs=[.ref e,.ref tp]/\br K C/\H e=ja (.ext φ)/\(∀h,φ h->Vb e (.ref C) h)/\cm K H tp vs/\(∀us,aR vs us->us=cvs)/\kitAny K (.ref C) cvs=ja b/\Q (.bl b) H
theorem nG{X:Cx}{K:jb}(hK:autoParam (X.K=K) ah):bg X (.builtin "isinstance") (xn K):=by
 subst hK;intro pins s σ H xs us Q I rs h;obtain⟨e,C,φ,tp,vs,cvs,b,rfl,T,he,hφ,hq,hc,hk,q⟩:=h;obtain⟨u,w',rfl,rx,rc⟩:=UI rs;cases(show u=jY e from rx);cases(show w'=jY tp from rc);obtain⟨its,rv,⟨o,e1,hcl,n,hd⟩,_⟩:=I.tuple hq;cases hc its rv;obtain⟨cl,dd,da,sl⟩:=o;cases hcl;cases hd;exact PySem.W.kia_tup (wf T) I.kIn (hφ _ (I.hok e _ he).1) e1 hk (λz=>nomatch z) λtk=>⟨.bl b,H,I.tok tk,rfl,q⟩
def xo(K:jb)(ta:TE)(f:Str):TE:=λσ H Q=>ta σ H λx H1=>∃ea C d fs v φ,br K C/\hasDictIn K C=je/\findIn K (.ref C) f=ja none/\x = .ref ea/\H1 ea=ja (.ext φ)/\(∀h,φ h->Vs ea C (ja d) h)/\H1 d=ja (.xd fs)/\fs.lookup f=ja v/\Q v H1
theorem FD{X:Cx}{K:jb}(he:PE X e ta)(hK:autoParam (X.K=K) ah)(hb:autoParam (attributeBase e f X.env (eval e X.env)=eval e X.env) ah):PE X (.Attribute e f pos) (xo K ta f):=by
 subst hK;intro pins s σ H Q I h;refine sx hb (aW (he pins s σ H _ I h) λu s1 z=>?_);obtain⟨x,H1,I1,rx,ea,C,d,fs,v,φ,T,hh,hn,ex,ea',hφ,ed,l,q⟩:=z;subst ex;cases(show u=jY ea from rx);obtain⟨o,h1,h2,h3,h4⟩:=hφ _ (I1.hok ea _ ea').1;obtain⟨mA,ns,r⟩:=(show aZ X.prog X.w H1 s1.heap d (.xd fs)from I1.hok d _ ed)
 obtain⟨od,ho,hl⟩:=ss ns;obtain⟨u',hu,ru⟩:=c9.some_of (v:=v) (o:=mA f) (by rw [<-l];exact r f);have J:vT s1.heap ea o C (ja od):=⟨h1,h2,h4,by rw [h3];exact ho⟩
 exact Fo I1.kIn J T.ga T.gt T.mb (oX hh hn rfl (by rw [hl,hu])) (sw ru) ⟨v,H1,I1.tok _,ru,q⟩
structure fC(X:Cx)(pins:List (jf×Obj))(σ:St)(H':Hp)(C ea:jf)(dO:Option jf)(a0:jc)(B:jX)(s:jg):Prop where
 fl:yo B (X.env::X.outer) ea (.ref C) a0 s.heap
 dd:XU ea dO s.heap
 inv:∀h,yo B (X.env::X.outer) ea (.ref C) a0 h->XU ea dO h->s.heap.UpToSlots h->Inv X pins σ (aV H' ea (.ext (Vs ea C dO))) { s with heap:=h }
def iI(X:Cx)(hs:al ExceptHandler)(th:jf->jf->am jf->TS):Prop:=∀(pins:al (jf×Obj))(s:jg)(σ:St)(H':Hp)(D:Ends)(C ea:jf)(dO:am jf)(a0:jc)(B:jX),br X.K C->fC X pins σ H' C ea dO a0 B s->th C ea dO D σ (aV H' ea (.ext (Vs ea C dO))) ->
 jJ (model X.prog X.w) X.A (handleBy (.ref ea) X.env hs) (SP X pins D) X.xe s
section
variable{X:Cx}{G:jf}{g n:Str}{i:Nat}{body suite:al qv}{b₀:qv}{gp hpos pos:Pos}{tb:XK->TS}{ts:TS}{th:jf->jf->am jf->TS}{rest:al ExceptHandler}
theorem FE:iI X [] (λ_ _ _ _ _ _=>False):=λ_ _ _ _ _ _ _ _ _ _ _ _ h=>h.elim
def xp(K:jb)(G:jf)(i:Nat)(ts:TS)(th:jf->jf->am jf->TS):jf->jf->am jf->TS:=λC ea dO D σ H=>
 (exmOne K (.ref C) (.ref G)=ja je/\ts (wg i D) (σ.set i (ja (.ref ea))) H)\/(exmOne K (.ref C) (.ref G)=ja jj/\th C ea dO D σ H)
theorem nH (hN:X.N.Nodup) (hi:X.N[i]? = ja n) (hk:X.env.scope.names.lookup n=ja .local) (hg:Gl X g) (hm:X.mg g=ja (.ref G)) (hs:∀ea,cK (X.suite ea) (b₀::suite) ts) (hr:iI X rest th) (hdb:autoParam ((g == ("__debug__" : Str))=false) ad) :
 iI X (.ExceptHandler (ja (.Name g gp)) (ja n) (b₀::suite) hpos::rest) (xp X.K G i ts th):=by
 intro pins s σ H' D C ea dO a0 B T L h;have I5:=L.inv s.heap L.fl L.dd (.refl _);refine wpAny_handleBy_cons (codeAny_handlers_test (X8 (I5.suite ea) hg hm ?_ hdb)) (by intro q;cases q);rcases h with⟨hx,hts⟩|⟨hx,hth⟩
 . refine(exm_one (M:=model X.prog X.w) (K:=X.K) I5.kIn (UR (L.fl.there)) hx).here ?_
   show codeAny (model X.prog X.w) (X.A.mark (ja (.ref ea))) _ _ _;refine codeAny_handlers_suite_as (j7 (Jr ny L.dd (lands_againW (Q:=λ_ s2=>∃h2,s2={ s with heap:=h2 }/\yo B (X.env::X.outer) ea (.ref C) a0 h2/\s.heap.UpToSlots h2) L.fl λh6 hf6 u6=>⟨h6,rfl,hf6,u6⟩)) (λ_ s6 ⟨⟨h6,es6,hf6,u6⟩,hD6⟩ => ?_) λ_ _ z=>z);subst es6;refine li (L.inv h6 hf6 hD6 u6) hN hi (.inl hk) (v:=.ref ea) (show RelV (.ref ea) (.ref ea)from rfl) (λs7 I7 => ?_) (.inr hk)
   refine j7 (hs ea pins s7 _ _ (wg i D) (I7.suite ea) hts) (λfl s8 q8 => ?_) λ_ _ z=>z.elim
   cases fl with
   |next=>
    obtain⟨σ',H8,I8,q⟩:=q8;exact ir (I8.unsuite I5.ok) hN hi hk λs9 I9=>⟨_,H8,I9,q⟩
   |brk=>
    obtain⟨σ',H8,I8,q⟩:=q8;exact ir (I8.unsuite I5.ok) hN hi hk λs9 I9=>⟨_,H8,I9,q⟩
   |cont=>
    obtain⟨σ',H8,I8,q⟩:=q8;exact ir (I8.unsuite I5.ok) hN hi hk λs9 I9=>⟨_,H8,I9,q⟩
   |ret u=>
    obtain⟨v,σ',H8,I8,r,q⟩:=q8;exact ir (I8.unsuite I5.ok) hN hi hk λs9 I9=>⟨v,_,H8,I9,r,q⟩
 . refine(exm_one (M:=model X.prog X.w) (K:=X.K) I5.kIn (UR (L.fl.there)) hx).here ?_
   exact hr pins s σ H' D C ea dO a0 B T L hth
def xr(K:jb)(tb:XK->TS)(th:jf->jf->am jf->TS):TS:=λD σ H=>∃E:XK,tb E D σ H/\∀cls dO H',E cls dO H'->∃C,cls = .ref C/\br K C/\∀ea,H' ea=none->th C ea dO D σ (aV H' ea (.ext (Vs ea C dO)))
theorem FF{h₀:ExceptHandler}(hstk:X.stack=X.env::X.outer/\X.env.frame=ja X.env.locals)(hb:∀E,xk X E body (tb E))(hh:iI X (h₀::rest) th):PS X (.Try body (h₀::rest) [] [] pos) (xr X.K tb th):=by
 intro pins s σ H D I ⟨E,h⟩;refine wpAny_Try_except ?_;refine aW (hb E pins s σ H D _ I h.1 ?_) λfl s1 q => ?_
 . intro H2 s2 ev s' I2 ⟨ea,cls,a0,B,H',dO,e,hos,hbare,hfl,hKB,hok,hsame,hfree,hup,hD,hE⟩
   subst e;obtain⟨C,rfl,T,hts⟩:=h.2 cls dO H' hE;have hfr:X.A.frames=ja (X.env::X.outer):=by rw [<-hstk.1];exact I.ok.frames
   have hfl':yo B (X.env::X.outer) ea (.ref C) a0 s'.heap:=hstk.1▸hfl;have hea:B.get? ea=none:=hfl.2.1
   have hnf:ea∉bI X.stack:=λz=>by
    obtain⟨_,o,h1,h2⟩:=hfl.2.2.1.mem z;obtain⟨oe,vs,h3,_,h4,_⟩:=hfl.first;rw [h1]at h3;cases h3;exact h2 vs h4
   have frnf:∀b o,s2.heap.get? b=ja o->b∈bI X.stack->∀vs,o.data ≠ .fields vs:=λb o q z=>by
    obtain⟨_,o',h1,h2⟩:=I2.stack.mem z;have:o'=o:=jx (h1.symm.trans q);exact this▸h2
   have at_:∀{hp:jX},yo B (X.env::X.outer) ea (.ref C) a0 hp->XU ea dO hp->s'.heap.UpToSlots hp->Inv X pins σ (aV H' ea (.ext (Vs ea C dO))) { s' with heap:=hp }/\H' ea=none:=λ{hp} f fd u=>by
    refine Fy (φ:=Vs ea C dO) (s':={ s' with heap:=hp }) I2 hos hbare f.1 hea hKB hok hsame hfree (λb o q z => ?_) (λg1 g2 ⟨o,q1,q2⟩ k=>⟨o,k o q1,q2⟩) (let⟨o,q,_⟩:=f.there;⟨o,q⟩) (Fx f fd) hnf;obtain⟨sl,q1⟩:=hup b o q z;obtain⟨sl2,q2⟩:=u b _ q1 (show ∀vs,({ o with slots:=sl }:Obj).data ≠ .fields vs from frnf b o q z);exact⟨sl2,q2⟩
   refine j7 (Jr xf hD (W2 (Q:=λ_ s2=>∃h2,s2={ s' with heap:=h2 }/\Heap.HeldW B (X.env::X.outer) ea (.ref C) a0 X.env.locals h2/\s'.heap.UpToSlots h2) hfr hstk.2 hfl' λh4 hh4 u4=>⟨h4,rfl,hh4,u4⟩)) (λ_ s4 ⟨⟨h4,es4,hh4,u4⟩,hD4⟩ => ?_) λ_ _ z=>z
   subst es4;refine j7 (Jr ny hD4 (wpAny_landsW (Q:=λ_ s2=>∃h2,s2={ s' with heap:=h2 }/\yo B (X.env::X.outer) ea (.ref C) a0 h2/\h4.UpToSlots h2) hh4 λh5 hf5 u5=>⟨h5,rfl,hf5,u5⟩)) (λ_ s5 ⟨⟨h5,es5,hf5,u5⟩,hD5⟩ => ?_) λ_ _ z=>z
   subst es5;exact hh pins _ σ H' D C ea dO a0 B T ⟨hf5,hD5,λh f fd u=>(at_ f fd ((u4.trans u5).trans u)).1⟩ (hts ea (at_ hf5 hD5 (u4.trans u5)).2)
 . cases fl with
   |next=>exact uT q
   |ret v=>exact q
   |brk=>exact q
   |cont=>exact q
end
end L2
namespace DL
open PySem PySem.Spec L2
theorem cN.at{cA:Kn}{av:jf->Prop}{H:Hp}{c:String}{r:am Int}{a:jf}(h:cN cA av H c r a):∃φ,H a=ja (.ext φ)/\∀h,φ h->Vb a (.ref (cA.c c)) h:=by
 cases r with
 |none=>exact h
 |some i=>
  obtain⟨d,φ,_,h1,h2,_⟩:=h;exact⟨φ,h1,λh z=>let⟨o,q1,q2,_⟩:=h2 h z;⟨o,q1,q2⟩⟩
def QE(C:jf)(f:Str):Sp:=λvs H Q _=>∃ea,∃n:Nat,vs=[.ref ea,.int n]/\n<10 ^ 10/\H ea=ja (.ext (ci ea C none))/\∀d,H d=none->Q .non (aV (aV H d (.xd [(f,.int n)])) ea (.ext (ci ea C (ja d))))
theorem FG {K:jb} {st:qv} {N ps:al Str} {k:Nat} {body:al qv} {scope:qH} {a b:al Nat}
 (F:bu K x qual st fI fd) (Sc:aG N ps (aA st)) (hS:aA st=scope) (hB:aN st=body) (hn:ps.length=2) (hN:N.length=2) (hl:a.length+b.length<=1000)
 (hbody:∀(cdv:jc)(A:qe)(outer:al yq)(s:jg)(H:Hp)(E:XK),a4 k (A.deeper (qm qual scope s.heap.objs.size fI cdv)) ->
   cK (ZJ bF P w K mg base N qual scope fI cdv A outer s H E).nox body (VQ (XN (fi (nA C) (YG (Xu 0) (YG (mU [tC (S a),wo (Xu 1),tC (S b)]) cF)))) (xh C (Xu 0) (Xu 1) f))) :
 aO P w K mg base bF (k+1) fI fd ps (QE C f):=by
 subst hS hB;refine bu.ok F Sc (λvs H Q E h => ?_) λcdv A outer s H vs Q E hr h=>⟨_,hbody cdv A outer s H E hr,?_⟩
 . obtain⟨ea,n,rfl,_⟩:=h
   exact hn.symm
 . obtain⟨ea,n,rfl,hn1,he,q⟩:=h
   have e0:L2.start N [.ref ea,.int n]=[ja (.ref ea),ja (.int n)]:=by unfold L2.start;rw [hN];rfl
   rw [e0];have hs:jv=16777216:=jo
   have hf:(Uo n).length<=10:=by
    unfold Uo;rw [jk];exact(Nat.length_toDigits_le_iff (b:=10) (k:=10) (by decide) (by decide)).mpr hn1
   refine⟨.ref ea,rfl,⟨a,rfl,by simp;omega,⟨.int n,rfl,.inr ⟨n,rfl,hn1,⟨Uo n,rfl,by simp;omega,⟨b,rfl,by simp;omega,?_⟩⟩⟩⟩⟩⟩;refine⟨ea,none,_,rfl,he,?_⟩;exact⟨.int n,rfl,.ref ea,rfl,ea,rfl,he,λd hd=>q d hd⟩
section
variable{cA:Kn}{G:Cn}{ow ow1 owB owC:al Nat}
def Uy(K:jb)(cA:Kn)(v:V)(tab:al (String×Bool)):Prop:=∀c b,tab.lookup c=ja b->br K (cA.c c)/\∃cv,(∀u,RelV v u->u=cv)/\ju K (.ref (cA.c c)) cv=ja b
noncomputable def xt(tab:al (String×Bool)):D->am D
 | .exc c _=>(tab.lookup c).map .bl
 |_=>none
def Uz(tab:al (String×Bool))(a:Env->am D)(δ:Env):am D:=match a δ with
 |some d=>xt tab d
 |none=>none
theorem FH{tab:al (String×Bool)}{x d:D}(h:xt tab x=ja d):∃c r b,x = .exc c r/\tab.lookup c=ja b/\d = .bl b:=by
 cases x<;>first|(cases h;done)|skip
 rename_i c r;cases e:tab.lookup c with
 |none=>have h:(tab.lookup c).map D.bl=ja d:=h;rw [e]at h;cases h
 |some b=>have h:(tab.lookup c).map D.bl=ja d:=h;rw [e]at h;cases h;exact⟨c,r,b,rfl,e,rfl⟩
theorem xu{H:Hp}{c:String}{r:am Int}{v:V}(h:Rep cA av H (.exc c r) v):∃a φ,v = .ref a/\H a=ja (.ext φ)/\∀h,φ h->Vb a (.ref (cA.c c)) h:=by
 unfold Rep at h;obtain⟨a,e,_,x⟩:=h;obtain⟨φ,h1,h2⟩:=x.at;exact⟨a,φ,e,h1,h2⟩
theorem QF{tab:al (String×Bool)}(I:Uy G.1.K G.1 v tab)(ha:VE G ow ta q a):VE G ow (fi (xl G.1.K) (YG ta (YG (tC v) cF))) .cl (Uz tab a):=λH0 av A σ H δ R d e Q k=>by
 unfold Uz at e;cases he:a δ with
 |none=>rw [he]at e;cases e
 |some x=>
  rw [he]at e;obtain⟨c,r,b,rfl,hl,rfl⟩:=FH e;obtain⟨T,cv,hc,hk⟩:=I c b hl;refine ha H0 av A σ H δ R _ he _ λu H1 s1 r1 => ?_
  obtain⟨ea,φ,rfl,h1,h2⟩:=xu r1.any;exact⟨ea,_,φ,v,cv,b,rfl,T,h1,h2,hc,hk,k _ H1 s1 rfl⟩
def Js(aX:al (al (String×Bool)))(a:Env->am D)(δ:Env):am D:=match a δ with
 |some (.exc c _)=>(Qt c aX).map λbs => .bl (bs.any id)
 |_=>none
theorem nI{v:V}{vs:al V}{tab:al (String×Bool)}{aX:al (al (String×Bool))}(I:Uy G.1.K G.1 v tab)(Is:cX G.1.K G.1 vs aX)(hv:(v::vs).length<=1000)(ha:VE G ow ta q a) :
 VE G ow (fi (xn G.1.K) (YG ta (YG (lG (mX (v::vs))) cF))) .cl (Js (tab::aX) a):=λH0 av A σ H δ R d e Q k=>by
 unfold Js at e
 split at e
 . rename_i c r he
   cases hb:Qt c (tab::aX)with
   |none=>rw [hb]at e;cases e
   |some bs=>
    rw [hb]at e;cases e;have hE:cX G.1.K G.1 (v::vs) (tab::aX) := .cons (λc b h=>(I c b h).2) Is;obtain⟨cvs,h3,h4⟩:=wG hE hb
    have T:br G.1.K (G.1.c c):=by
     unfold Qt at hb
     split at hb
     . rename_i b _ e1 _;exact(I c b e1).1
     . cases hb
    refine ha H0 av A σ H δ R _ he _ λu H1 s1 r1=>wF _ ⟨jK hv (by decide),λp hp => ?_⟩
    obtain⟨ea,φ,rfl,h1,h2⟩:=xu r1.any;have sm:=YB (o:=.tup (v::vs)) hp;exact⟨ea,_,φ,p,_,cvs,_,rfl,T,sm _ _ h1,h2,cm.of ZF,h3,h4,k _ _ (s1.trans sm) rfl⟩
 . cases e
noncomputable def nJ(cl:al String)(a:Env->am D)(δ:Env):am D:=match a δ with
 |some (.exc c (ja i))=>if cl.contains c=je then ja (.int i)else none
 |_=>none
theorem FI {cl:al String} (hT:∀c∈cl,br G.1.K (G.1.c c)/\qr G.1.K (G.1.c c)=je/\jm G.1.K (.ref (G.1.c c)) (jE "row")=ja none) (ha:VE G ow ta q a):VE G ow (xo G.1.K ta (jE "row")) .cl (nJ cl a):=λH0 av A σ H δ R d e Q k=>by
 unfold nJ at e
 split at e
 . rename_i c i he
   by_cases hz:cl.contains c=je
   . rw [if_pos hz]at e
     cases e;obtain⟨T,hh,hn⟩:=hT c (by simpa using hz);refine ha H0 av A σ H δ R _ he _ λu H1 s1 r1 => ?_
     have r2:=r1.any;unfold Rep at r2;obtain⟨ea,rfl,_,dd,φ,_,h1,h2,h3⟩:=r2;exact⟨ea,_,dd,_,.int i,φ,T,hh,hn,rfl,h1,h2,h3,by simp [jG],k _ H1 s1 rfl⟩
   . rw [if_neg hz]at e;cases e
 . cases e
end
abbrev XC:=String×am Int
def Xo(cA:Kn)(c:XC)(E:XK)(H':Hp):Prop:=match c.2 with
 |none=>∀dO,E (.ref (cA.c c.1)) dO H'
 |some n=>∀d,H' d=none->E (.ref (cA.c c.1)) (ja d) (aV H' d (.xd [(jE "row",.int n)]))
def Ep(E:XK):XK:=λc _ H'=>∀dO,E c dO H'
def gx(χ:Env->am String)(δ:Env):am XC:=(χ δ).map λc=>(c,none)
def cZ(G:Cn)(ow:al Nat)(E:XK)(ts:TS)(χ:Env->am XC):Prop:=
 ∀H0 av A σ H δ,ER G ow H0 av A σ H δ->∀c,χ δ=ja c->(∀H',aH H0 H'->Xo G.1 c E H')->∀De:Ends,ts De σ H
def Jt(G:Cn)(ow:al Nat)(E:XK)(te:TE)(χ:Env->am XC):Prop:=
 ∀H0 av A σ H δ,ER G ow H0 av A σ H δ->∀c,χ δ=ja c->(∀H',aH H H'->Xo G.1 c E H')->∀Q:VK,te σ H Q
def dz(G:Cn)(ow:al Nat)(E:XK)(ts:TS)(χ:Env->am XC):Prop:=
 ∀H0 av A σ H δ,ER G ow H0 av A σ H δ->∀c,χ δ=ja c->(∀H',aH H H'->Xo G.1 c E H')->∀De:Ends,ts De σ H
section
variable{cA:Kn}{G:Cn}{ow ow1 owB owC owN:al Nat}{E:XK}
def nK(τ:Env->am Bool)(χ ψ:Env->am XC)(δ:Env):am XC:=match τ δ with
 |some je=>χ δ
 |some jj=>ψ δ
 |none=>none
theorem FJ{χ ψ:Env->am XC}(hc:VT G ow c τ)(h1:cZ G ow E t χ)(h2:cZ G ow E u ψ):cZ G ow E (Qg c t u) (nK τ χ ψ):=λH0 av A σ H δ R c' e k De=>by
 unfold nK at e;cases he:τ δ with
 |none=>rw [he]at e;cases e
 |some b=>
  rw [he]at e;refine hc H0 av A σ H δ R b he _ λH' s => ?_
  cases b with
  |true=>exact XZ (h1 H0 av A σ H' δ (R.mono s) c' e k De)
  |false=>exact Va (h2 H0 av A σ H' δ (R.mono s) c' e k De)
def nL(χ:Env->am XC)(φ:Env->am aT)(ψ:Env->am XC)(δ:Env):am XC:=match χ δ with
 |some c=>ja c
 |none=>match φ δ with
  |some (.nx δ1)=>ψ δ1
  |_=>none
theorem FK{χ ψ:Env->am XC}(h1:cZ G ow E t χ)(hv:VS G ow ow1 owB owC t φ)(h2:cZ G ow1 E u ψ):cZ G ow E (VQ t u) (nL χ φ ψ):=λH0 av A σ H δ R c e k De=>by
 unfold nL at e;cases hx:χ δ with
 |some c'=>
  rw [hx]at e;cases e;exact h1 H0 av A σ H δ R c hx k _
 |none=>
  rw [hx]at e;dsimp only at e;cases hp:φ δ with
  |none=>rw [hp]at e;cases e
  |some o=>
   rw [hp]at e;cases o with
   |nx δ1=>exact hv H0 av A σ H δ R _ hp _ λA' σ' H' R'=>h2 H0 av A' σ' H' δ1 R' c e k De
   |rt d=>cases e
   |bk δ1=>cases e
   |ct δ1=>cases e
theorem dz.vx{ts:TS}{χ:Env->am XC}(h:dz G ow E ts χ):cZ G ow E ts χ:=λH0 av A σ H δ R c e k De=>h H0 av A σ H δ R c e (λH' s=>k H' (R.same.trans s)) De
theorem FM{χ:Env->am XC}(h:Jt G ow E te χ):dz G ow E (XN te) χ:=λH0 av A σ H δ R c e k De=>h H0 av A σ H δ R c e k _
theorem FN{χ:Env->am XC}(h:Jt G ow E te χ):dz G ow E (Uj te g) χ:=λH0 av A σ H δ R c e k De=>h H0 av A σ H δ R c e k _
theorem FO{χ:Env->am XC}(h:Jt G ow E te χ):dz G ow E (QW te) χ:=λH0 av A σ H δ R c e k De=>h H0 av A σ H δ R c e k _
theorem FP(h:eF G ow (Ep E) te χ):Jt G ow E te (gx χ):=λH0 av A σ H δ R c e k Q=>by
 unfold gx at e;obtain⟨c',hc,rfl⟩:=ud.mp e;exact h H0 av A σ H δ R c' hc (λH' s=>k H' s) Q
noncomputable def QG(c:String)(α:Env->am (al D))(δ:Env):am XC:=match α δ with
 |some [.int n]=>if 0<=n/\n<10 ^ 10 then ja (c,ja n)else none
 |_=>none
theorem FQ{H:Hp}{a d:jf}(h:H a=none)(hd:d≠a):fm (aV (aV (aV H a o1) d o) a o2) a=aV H d o:=by
 funext b
 unfold fm aV
 by_cases h1:b=a
 . subst h1
   rw [if_pos rfl,if_neg (qF hd)];exact h.symm
 . simp [h1]
theorem FR{C:jf}(c:String)(hC:C=G.1.c c)(h:VA G ow t q α):cZ G ow E (nC E C (QE C (jE "row")) t) (QG c α):=λH0 av A σ H δ R c' e k De=>by
 unfold QG at e
 split at e
 . rename_i n he
   by_cases hz:0<=n/\n<10 ^ 10
   . rw [if_pos hz]at e
     cases e;subst hC;refine h H0 av A σ H δ R _ he _ λvs H1 s1 r1 => ?_
     obtain⟨v,r,rfl,rv,rr⟩:=r1.any;obtain rfl:r=[]:=rr;obtain rfl:v = .int n:=rv;refine⟨show 1<=8 by decide,λea hea=>⟨ea,n.toNat,by rw [yX hz.1],by omega,ZF,λd hd=>⟨rfl,d,ZF,?_⟩⟩⟩;have hde:d≠ea:=λz=>by rw [z,ZF]at hd;cases hd
     rw [Zn hde]at hd;rw [FQ hea hde,yX hz.1];exact k H1 (R.same.trans s1) d hd
   . rw [if_neg hz]at e;cases e
 . cases e
noncomputable def Xe(γ:D->Env->am Env)(φ:Env->am aT)(χ:Env->am XC):al D->Env->am XC
 | [],_=>none
 |x::r,δ=>match γ x δ with
  |none=>none
  |some δ1=>match χ δ1 with
   |some c=>ja c
   |none=>match φ δ1 with
    |some (.nx δ2)=>Xe γ φ χ r δ2
    |some (.ct δ2)=>Xe γ φ χ r δ2
    |_=>none
def Ju(ι:Env->am (al D))(γ:D->Env->am Env)(φ:Env->am aT)(χ:Env->am XC)(δ:Env):am XC:=match ι δ with
 |some xs=>Xe γ φ χ xs δ
 |none=>none
theorem FS{χ:Env->am XC}(hi:VI G ow wi ι)(hg:VG G ow ow g γ)(hb:VS G ow ow ow ow tb φ)(hX:cZ G ow E tb χ):cZ G ow E (J6 wi g tb) (Ju ι γ φ χ):=λH0 av A σ H δ R c e k De=>by
 unfold Ju at e;cases he:ι δ with
 |none=>rw [he]at e;cases e
 |some xs=>
  rw [he]at e;have e:Xe γ φ χ xs δ=ja c:=e;refine hi H0 av A σ H δ R xs he _ λJ H1 s1 W => ?_
  have E1:=R.mono s1;refine⟨λi m σ' H'=>m=xs.length-i/\i<=xs.length/\∃A' δ',ER G ow (DL.ii A H1) av A' σ' H' δ'/\Xe γ φ χ (xs.drop i) δ'=ja c,⟨xs.length,by simp,yr _,A,δ,E1.cut,e⟩,?_⟩
  rintro i m σ' H' ⟨rfl,hle,A',δ',E',e'⟩
  obtain⟨w1,w2,w3⟩:=W H' E'.same
  by_cases hlt:i<xs.length
  . refine .inr ⟨w1 i hlt,λσ2 H2=>∃A2 δ2,ER G ow (DL.ii A H1) av A2 σ2 H2 δ2/\Xe γ φ χ (xs.drop (i+1)) δ2=ja c,λσ2 H2 ⟨A2,δ2,E2,e2⟩=>⟨xs.length-(i+1),by omega,rfl,hlt,A2,δ2,E2,e2⟩,λv H2 y => ?_⟩
    have hx:xs[i]? = ja xs[i]:=jQ hlt;obtain⟨s2,rep⟩:=w2 i _ v H2 hx y;have E2:=E'.mono s2
    have rep':Rep G.1 (AV av A') H2 xs[i] v:=rep _ E'.avl λb z=>by
     rcases z with z|⟨j,z⟩
     . exact .inl (.inl z)
     . exact .inr (E'.fr j b z)
    rw [yt hlt]at e';unfold Xe at e';cases hγ:γ xs[i] δ' with
    |none=>rw [hγ]at e';cases e'
    |some δ1=>
     rw [hγ]at e';dsimp only at e';refine hg _ av A' σ' H2 δ' E2 _ v rep' δ1 hγ _ λA3 σ3 H3 s3 E3 => ?_
     cases hχ:χ δ1 with
     |some c'=>
      rw [hχ]at e';cases e';exact hX _ av A3 σ3 H3 δ1 E3 c hχ (λH' s=>k H' (E1.sub0.trans s)) _
     |none=>
      rw [hχ]at e';dsimp only at e';cases hφ:φ δ1 with
      |none=>rw [hφ]at e';cases e'
      |some o1=>
       rw [hφ]at e';refine hb _ av A3 σ3 H3 δ1 E3 o1 hφ _ ?_;cases o1 with
       |nx δ2=>exact λA4 σ4 H4 E4=>⟨A4,δ2,E4,e'⟩
       |ct δ2=>exact λA4 σ4 H4 E4=>⟨A4,δ2,E4,e'⟩
       |bk δ2=>cases e'
       |rt d=>cases e'
  . have ei:i=xs.length:=by omega
    subst ei;rw [u3]at e';cases e'
end
def UA(cA:Kn)(n:Nat)(m:al D->am D)(x:al D->am XC):Sp:=λvs H Q E=>cp cA n m vs H Q E \/
 ∃(av:jf->Prop) (ds:al D) (c:XC),(∀a,av a->H a≠none)/\aD cA av H ds vs/\ds.length=n/\x ds=ja c/\∀H',aH H H'->Xo cA c E H'
def nM(N:Nat)(χ:Env->am XC)(ds:al D):am XC:=χ (ds.map ja++jd (N-ds.length) none)
theorem Xo.frame{cA:Kn}{c:XC}{E:XK}{H H':Hp}(s:aH H H')(h:Xo cA c E H'):Xo cA c (λc d H'=>aH H H'/\E c d H') H':=by
 obtain⟨c,r⟩:=c;cases r with
 |none=>exact λdO=>⟨s,h dO⟩
 |some n=>exact λd hd=>⟨s.trans (YB hd),h d hd⟩
section
variable{cA:Kn}{G:Cn}{ow ow1 owB owC owN:al Nat}{E:XK}
def Ve(n:Nat)(x:al D->am XC)(dds:al D)(α:Env->am (al D))(δ:Env):am XC:=match α δ with
 |some ds=>if(ds++dds).length=n then x (ds++dds)else none
 |none=>none
theorem xv{n:Nat}{x:al D->am XC}(dds:al D)(hd:dds.all ZA=je)(h:VA G ow t q α):Jt G ow E (XB (UA G.1 n m x) (dds.map bP) E t) (Ve n x dds α):=λH0 av A σ H δ R c e k Q=>by
 unfold Ve at e;cases he:α δ with
 |none=>rw [he]at e;cases e
 |some ds=>
  rw [he]at e;dsimp only at e
  by_cases hz:(ds++dds).length=n
  . rw [if_pos hz]at e
    refine h H0 av A σ H δ R ds he _ λvs H1 s1 r1 => .inr ⟨av,ds++dds,c,(R.mono s1).avH,r1.any.append (.of_vals hd),hz,e,λH' s=>k H' (s1.trans s)⟩
  . rw [if_neg hz]at e;cases e
def fX:XC->Env->am aT:=λ_ _=>none
noncomputable def Jv(cl no:al String)(i:Nat)(ψ:Env->am aT)(η:XC->Env->am aT):XC->Env->am aT:=λc δ=>
 if cl.contains c.1=je then(match ψ (δ.set i (ja (.exc c.1 c.2)))with
  |some (.nx δ')=>ja (.nx (δ'.set i none))
  |some (.rt d)=>ja (.rt d)
  |_=>none)else if no.contains c.1=je then η c δ else none
def iJ(G:Cn)(ow owB owC:al Nat)(th:jf->jf->am jf->TS)(η:XC->Env->am aT):Prop:=
 ∀H0 av A σ H δ,ER G ow H0 av A σ H δ->∀(c:XC)ea dO o,η c δ=ja o->¬AV av A ea->H ea=ja (.ext (Vs ea (G.1.c c.1) dO))->(∀n,c.2=ja n->∃d,dO=ja d/\¬AV av A d/\H d=ja (.xd [(jE "row",.int n)]))->∀De:Ends,tQ G ow owB owC H0 av De o->th (G.1.c c.1) ea dO De σ H
theorem FT:iJ G ow owB owC (λ_ _ _ _ _ _=>False) fX:=λ_ _ _ _ _ _ _ _ _ _ _ h=>nomatch h
theorem FU {av:jf->Prop} {H:Hp} {c:XC} {dO:am jf} (na:¬av ea) (he:H ea=ja (.ext (Vs ea (cA.c c.1) dO))) (hn:∀n,c.2=ja n->∃d,dO=ja d/\¬av d/\H d=ja (.xd [(jE "row",.int n)])):Rep cA av H (.exc c.1 c.2) (.ref ea):=by
 obtain⟨c,r⟩:=c;unfold Rep;refine⟨ea,rfl,na,?_⟩;cases r with
 |none=>exact⟨_,he,λh ⟨o,h1,h2,_⟩=>⟨o,h1,h2⟩⟩
 |some n=>
  obtain⟨d,rfl,nd,hd⟩:=hn n rfl;exact⟨d,_,nd,he,λ_ z=>z,hd⟩
theorem nN {K:jb} {i:Nat} {th:jf->jf->am jf->TS} {η:XC->Env->am aT} {cl no:al String} (hi:ow.contains i=jj) (hni:G.2 i=none) (hT:∀c∈cl,qD K (.ref (G.1.c c)) (.ref Gd)=ja je) (hF:∀c∈no,qD K (.ref (G.1.c c)) (.ref Gd)=ja jj)
 (hv:VS G ow ow owB owC ts ψ) (hr:iJ G ow owB owC th η):iJ G ow owB owC (xp K Gd i ts th) (Jv cl no i ψ η):=λH0 av A σ H δ R c ea dO o e na he hn De k=>by
 unfold Jv at e
 by_cases hz:cl.contains c.1=je
 . rw [if_pos hz]at e
   have hw:∀j,j∈ow ↔ j∈ow/\j≠i:=λj=>⟨λq=>⟨q,λz=>by rw [z]at q;simp at hi;exact hi q⟩,λq=>q.1⟩
   have rp:=FU (cA:=G.1) na he hn
   split at e
   . rename_i δ' ho
     cases e;exact .inl ⟨hT c.1 (by simpa using hz),hv H0 av _ _ H _ (R.set rp hw hni) _ ho _ λA' σ' H' R'=>k A' _ H' (R'.none hi hni)⟩
   . rename_i d ho
     cases e;exact .inl ⟨hT c.1 (by simpa using hz),hv H0 av _ _ H _ (R.set rp hw hni) _ ho _ k⟩
   . cases e
 . rw [if_neg hz]at e
   by_cases hz2:no.contains c.1=je
   . rw [if_pos hz2]at e
     exact .inr ⟨hF c.1 (by simpa using hz2),hr H0 av A σ H δ R c ea dO o e na he hn De k⟩
   . rw [if_neg hz2]at e;cases e
def QH(φb:Env->am aT)(χb:Env->am XC)(cl:al String)(η:XC->Env->am aT)(δ:Env):am aT:=match χb δ with
 |some c=>if cl.contains c.1=je then η c δ else none
 |none=>φb δ
theorem FV {K:jb} {tb:XK->TS} {th:jf->jf->am jf->TS} {χb:Env->am XC} {η:XC->Env->am aT} {cl:al String} (hT:∀c∈cl,br K (G.1.c c))
 (hb:∀E,VS G ow ow owB owC (tb E) φb) (hx:∀E,dz G ow E (tb E) χb) (hh:iJ G ow owB owC th η):VS G ow ow owB owC (xr K tb th) (QH φb χb cl η):=λH0 av A σ H δ R o e De k=>by
 unfold QH at e;cases hc:χb δ with
 |none=>
  rw [hc]at e;exact⟨λ_ _ _=>False,hb _ H0 av A σ H δ R o e De k,λ_ _ _ z=>z.elim⟩
 |some c=>
  rw [hc]at e;dsimp only at e
  by_cases hz:cl.contains c.1=je
  . rw [if_pos hz]at e
    refine⟨λcls dO H'=>cls = .ref (G.1.c c.1)/\∃H1,aH H H1/\(c.2=none/\H'=H1\/∃n d,c.2=ja n/\dO=ja d/\H1 d=none/\H'=aV H1 d (.xd [(jE "row",.int n)])),hx _ H0 av A σ H δ R c hc (λH' s => ?_) De,λcls dO H' ⟨e1,H1,s1,w⟩=>⟨G.1.c c.1,e1,hT c.1 (by simpa using hz),λea hea => ?_⟩⟩
    . obtain⟨c,r⟩:=c
      cases r with
      |none=>exact λdO=>⟨rfl,H',s,.inl ⟨rfl,rfl⟩⟩
      |some n=>exact λd hd=>⟨rfl,H',s,.inr ⟨n,d,rfl,rfl,hd,rfl⟩⟩
    . have R1:=R.mono s1
      rcases w with⟨w1,rfl⟩|⟨n,d,w1,rfl,w3,rfl⟩
      . exact hh H0 av A σ _ δ (R1.mono (YB hea)) c ea dO o e (λz=>R1.avl ea z hea) ZF (λn z=>by rw [w1]at z;cases z) De k
      . have hde:d≠ea:=λz=>by rw [z,ZF]at hea;cases hea
        have R2:=R1.mono (YB (o:=.xd [(jE "row",.int n)]) w3);refine hh H0 av A σ _ δ (R2.mono (YB hea)) c ea (ja d) o e (λz=>R2.avl ea z hea) ZF (λn' z => ?_) De k;rw [w1]at z;cases z;exact⟨d,rfl,λz=>R1.avl d z w3,by rw [Zn hde,ZF]⟩
  . rw [if_neg hz]at e;cases e
end
section
variable{P:jS}{w:jV}{K:jb}{mg:Str->am jc}{base:jX}{cA:Kn}
theorem FW {st:qv} {N ps:al Str} {k:Nat} {χ:Env->am XC} {body:al qv} {scope:qH} {n:Nat} {m:al D->am D} {xm:al D->am XC} (F:bu K x qual st f fd) (S:aG N ps (aA st)) (hS:aA st=scope) (hB:aN st=body)
 (hbody:∀(cdv:jc)(A:qe)(outer:al yq)(s:jg)(H:Hp)(E:XK),a4 k (A.deeper (qm qual scope s.heap.objs.size f cdv)) ->
   ∃t,cK (ZJ (cW P w) P w K mg base N qual scope f cdv A outer s H E) body t/\∃owN,VS ⟨cA,λ_=>none⟩ [] owN [] [] t φ/\cZ ⟨cA,λ_=>none⟩ [] (λc d H'=>aH H H'/\E c d H') t χ) (hm:m=run N.length φ) (hx:xm=nM N.length χ) (hn:ps.length=n) :
 aO P w K mg base (cW P w) (k+1) f fd ps (UA cA n m xm):=by
 subst hS hB hm hx hn;obtain⟨oc,od,dV,kV,doc,pm,an,cdv,ct,osl,rfl,lk,hcd⟩:=F.ex;refine J9 lk hcd S (λvs H Q E h => ?_) λA outer s H vs Q E hr h => ?_
 . rcases h with⟨av,ds,d,_,r,hl,_⟩|⟨av,ds,c,_,r,hl,_⟩
   . rw [<-r.length,hl]
   . rw [<-r.length,hl]
 . obtain⟨t,ht,owN,hv,hX⟩:=hbody cdv A outer s H E hr
   refine⟨t,ht,?_⟩;rcases h with⟨av,ds,d,ha,r,hl,hm,q⟩|⟨av,ds,c,ha,r,hl,hm,q⟩
   . unfold run at hm
     cases hφ:φ (ds.map ja++jd (N.length-ds.length) none)with
     |none=>rw [hφ]at hm;cases hm
     |some o=>
      rw [hφ]at hm;refine hv H av _ _ H _ (VZ ha r) o hφ _ ?_;cases o with
      |nx δ'=>cases hm;exact λA' σ' H' E'=>q .non H' E'.same rfl
      |rt d'=>cases hm;exact λv H' s' r'=>q v H' s' r'
      |bk δ'=>cases hm
      |ct δ'=>cases hm
   . exact hX H av _ _ H _ (VZ ha r) c hm (λH' s'=>Xo.frame s' (q H' s')) _
end
end DL
namespace L2
open PySem PySem.Spec PySem.W PyProof.Rows
def iK(CX:dq)(P:jS)(w:jV)(K:jb)(mg:Str->am jc)(base:jX)(N:al Str)(qual:Str)(scope:qH)(f:jf)(cd:jc)(cl:al (Str×jf))(A:qe)(outer:al Env)(s:jg)(H:Hp)(E:XK):Cx:=
 { ni P w K mg base N qual scope f cd cl A outer s H with xe:=λe s'=>jJ (model P w) (A.deeper (yQ qual scope s.heap.objs.size f cd cl)) (leaving (yQ qual scope s.heap.objs.size f cd cl) e) (λ_ s''=>CX outer H s E e s'') (λe' s''=>CX outer H s E e' s'') s' }
section
variable{P:jS}{w:jV}{K:jb}{mg:Str->am jc}{base:jX}{N:al Str}{qual:Str}{scope:qH}{f:jf}{cd:jc}{cl:al (Str×jf)}{A:qe}{outer:al Env}{s:jg}{H:Hp}{E:XK}
theorem FY{CX:dq}(hC:∀ev s',bJ P w outer H s E ev s'->CX outer H s E1 ev s'):Xc (bJ P w) (iK CX P w K mg base N qual scope f cd cl A outer s H E1) E:=by
 intro pins σ H1 s1 ev s' I ⟨ea,cls,a0,B,H2,e,hos,hb,hfl,hKB,hok,hfree,hup,hE⟩;subst e;show jJ (model P w) _ (leaving _ (.ref ea)) _ _ _;refine oo (outer:=outer) I.ok.frames rfl hfl λh2 y1 y2=>hC _ _ ?_
 refine⟨ea,cls,a0,B,H2,rfl,hos.trans I.os,hb,y1,λb o q n hn => ?_,hok,λb o q n => ?_,λb o q hn => ?_,hE⟩
 . refine hKB b o (I.base.keep b o q n hn (λz=>nomatch z)) (I.base.free b o q n (λz=>nomatch z)) λz => ?_
   rcases jp.mp (I.stkSub b z)with e'|z
   . exact absurd (jw q) (ym.mpr (by rw [e'];exact I.ok.above))
   . exact hn z
 . obtain⟨sl,q1⟩:=I.base.any q n (λz=>nomatch z)
   exact hfree b _ q1 (I.base.free b o q n (λz=>nomatch z))
 . obtain⟨sl,q1⟩:=I.base.slot b o q (I.ok.frf b hn) hn (λz=>nomatch z)
   obtain⟨_,o',q2,hnf⟩:=I.ok.funs.mem hn;have:o'=o:=jx (q2.symm.trans q);subst this;obtain⟨sl',q3⟩:=hup b _ q1 (jq _ hn);obtain⟨sl2,q4⟩:=y2 b _ q3 (show ∀vs,({ cls:=o'.cls,dict:=o'.dict,data:=o'.data,slots:=sl' }:Obj).data ≠ .fields vs from hnf);exact⟨sl2,q4⟩
theorem Jw:Xc (bJ P w) (iK (bJ P w) P w K mg base N qual scope f cd cl A outer s H E) E:=FY λ_ _ h=>h
end
section
variable{X:Cx}{pins:al (jf×Obj)}{σ:St}{H:Hp}{s s':jg}{cs:al jf}
theorem xw{E:XK}(I:Inv X pins σ H s)(hc:eH H cs)(h:bJ X.prog X.w X.stack (cP H cs) s (λc d H'=>(∀b∈cs,H' b=none)->E c d (eG H H' cs)) ev s'):bJ X.prog X.w X.stack H s E ev s':=by
 obtain⟨ea,cls,a0,B,H',e,hos,hb,hfl,hKB,hok,hfree,hup,hE⟩:=h
 have old:∀c∈cs,∃o,H c=ja (fv o)/\s.heap.get? c=ja o:=λc h=>by
  obtain⟨o,e⟩:=hc c h;exact⟨o,e,(I.hok c _ e).1⟩
 have gone:∀c∈cs,H' c=none:=λc h=>by
  obtain⟨o,_,e⟩:=old c h;exact hfree c o e (Qw h)
 have out:∀{b:jf}{w':HO},H' b=ja w'->b∉cs:=λe z=>by rw [gone _ z]at e;cases e
 refine⟨ea,cls,a0,B,eG H H' cs,e,hos,hb,hfl,λb o q n hn=>hKB b o q (UX n) hn,λb o e => ?_,λb o q n => ?_,hup,hE gone⟩
 . by_cases hb:b∈cs
   . rw [iF hb]at e
     obtain⟨o',e',g⟩:=old b hb;rw [e']at e;cases e;have g':=hKB b o' g (Qw hb) (I.stkOut hc hb);exact⟨g',o',g'⟩
   . rw [Xw hb]at e
     exact(hok b o e).stay (λ_ _ _ z=>z) (λb' z=>by rw [Xw (out z)];exact z) (λb' xs z=>by rw [Xw (out z)];exact z) (λb' ob q z=>by rw [Xw (out z)];exact z)
 . have hb:b∉cs:=λz=>by obtain⟨o',e',_⟩:=old b z;rw [n]at e';cases e'
   rw [Xw hb];exact hfree b o q (UX n)
end
end L2
namespace L2
open PySem PySem.Spec PyProof.Rows
structure eI(P:jS)(w:jV)(K:jb)(mg:Str->Option jc)(k:Nat)(m:Lm)(sp:List V->Sp):Prop where
 sc:bC m.N m.ps m.fr m.scope
 len:∀vc vs H Q E,sp vc vs H Q E->vs.length=m.ps.length
 bd:∀(cl:List (Str×jf))(pm ct cd:jc)(us:List jc),us.length=m.ps.length->bindArgs (vR "<lambda>" m.qual m.params m.body m.scope cl pm cd ct) ⟨us,[]⟩=pure (m.ps.zip us)
 run:∀(base:jX)(f c:jf)(cl:List (Str×jf))(vc:List V)(A:qe)(outer:List Env)(s:jg)(H:Hp)(vs:List V)(Q:VK)(E:XK),a4 k (A.deeper (yQ m.qual m.scope s.heap.objs.size f (.ref c) cl))->sp vc vs H Q E ->
  ∃t,PE (iK (bJ P w) P w K mg base m.N m.qual m.scope f (.ref c) cl A outer s H E) m.body t/\t (start m.N (vs++vc)) H Q
theorem eI.mono{P:jS}{w:jV}{K:jb}{mg:Str->am jc}{j k:Nat}{m:Lm}{sp:al V->Sp}(F:eI P w K mg j m sp)(h:j<=k):eI P w K mg k m sp:=
 ⟨F.sc,F.len,F.bd,λbase f c cl vc A outer s H vs Q E hr=>F.run base f c cl vc A outer s H vs Q E (hr.mono h)⟩
section
variable{X:Cx}{pins:al (jf×Obj)}{σ:St}{H:Hp}{s s':jg}
theorem FZ {k:Nat} {m:Lm} {sp:al V->Sp} {cl:al (Str×jf)} {Q:VK} {E:XK} (F:eI X.prog X.w X.K X.mg k m sp) (hr:a4 (k+1) X.A) (hx:Xc (bJ X.prog X.w) X E) (I:Inv X pins σ H s) (L:bw H p m cl vc) (r:aR vs us)
 (h:sp vc vs (cP H (cells cl)) (λv H'=>(∀c∈cells cl,H' c=none)->Q v (eG H H' (cells cl))) (λc d H'=>(∀b∈cells cl,H' b=none)->E c d (eG H H' (cells cl)))):jJ (model X.prog X.w) X.A (call (.ref p) us) (EP X pins σ Q) X.xe s:=by
 have hc:=L.stl;have hl:=F.len _ _ _ _ _ h;obtain⟨pm,c,ct,hp⟩:=L.fn;obtain⟨_,oc,hcod⟩:=(I.hok p _ hp).2;have e0:=I.env0D hc
 have hcell:∀x c',cl.lookup x=ja c'->∀o,H c'=ja (L2.fv o)->(V2 s.heap (cP H (cells cl)) (bI X.stack)).get? c'=ja o:=λx c' e o ho=>by
  have hm:c'∈cells cl:=qf.mpr ⟨(x,c'),j4 e,rfl⟩;exact nj (I.hok c' _ ho).1 (Qw hm) (I.stkOut hc hm)
 have C:gI (V2 s.heap (cP H (cells cl)) (bI X.stack)) cl m.fr vc:=by
  refine⟨L.inj,λx c' e => ?_,λi x e => ?_,L.len⟩
  . obtain⟨o,v,e1,e2⟩:=L.cell (x,c') (j4 e)
    exact⟨v,o,hcell x c' e o e1,e2⟩
  . obtain⟨c',u,v,o,e1,e2,e3,e4,e5⟩:=L.get i x e
    exact⟨c',u,v,e1,e2,e3,o,hcell x c' e1 o e4,e5⟩
 have lim:s.heap.NoLimit:=I.nolimit;have hcd:s.heap.CodeRec (.ref c) m.qual:=(I.hok c _ hcod).2;have hus:us.length=m.ps.length:=by rw [<-r.length];exact hl
 refine yL (yM (R:=CR (bJ X.prog X.w) X.stack X.prog X.w H s Q E) ?_ λr s' hq => ?_)
 . refine PySem.W.kla_callFunE hr.depth (I.hok p _ hp).1 rfl F.sc.co F.sc.gen rfl hcd ?_
   rw [F.bd cl pm ct (.ref c) us hus];refine jB (wpAny_newFunctionEnv (λx hx=>(F.sc.all x hx).1) (λx hx=>F.sc.par x.1 (uF hx).1) (λh₁ hns hsb=>⟨lim.fresh _ hsb,?_⟩) F.sc.kind);have hk:∀b o,s.heap.get? b=ja o->h₁.get? b=ja o:=λb o e=>hsb.extBut b o (jU (jw e)) (ji _ e)
   show codeAny _ _ (.expr m.body (yQ m.qual m.scope s.heap.objs.size p (.ref c) cl)) _ _;obtain⟨t,ht,hq⟩:=F.run (V2 s.heap (cP H (cells cl)) (bI X.stack)) p c cl vc X.A X.stack s (cP H (cells cl)) vs _ _ (hr.deeper _) h;have J:=Eu (qual:=m.qual) (f:=p) (cd:=.ref c) (tk:=s.toks+(m.ps.zip us).length) F.sc C hr.hd e0 hl r hns hk;refine PySem.W.kla_codeExpr (j7 (ht [] _ _ _ _ (J.wish _) hq) (λu s' ⟨v,H',J',rv,q⟩ => ?_) λe s' z => ?_)
   . exact Ew I hc ⟨v,H',J'.unwish.os,J'.unwish.bare,J'.unwish.base,J'.unwish.hok,rv,q⟩
   . exact j7 z (λ_ _ z=>xw I hc z) λ_ _ z=>xw I hc z
 . cases r with
   |error e=>exact hx pins σ H s e s' I hq
   |ok fl=>
    cases fl with
    |ret u=>exact I.after hq
    |next=>exact qi hq
    |brk=>exact qi hq
    |cont=>exact qi hq
def nO(i:Nat)(ms:al (Lm×(al V->Sp)))(E:XK)(t:TA):TE:=λσ H Q=>∃p fo fd u,σ[i]? = ja (ja (.ref p))/\H p=ja (.frz fo u)/\fo.data = .func fd /\
 t σ H λvs H1=>∃m∈ms,∃cl vc,bw H1 p m.1 cl vc/\m.2 vc vs (cP H1 (cells cl)) (λv H'=>(∀c∈cells cl,H' c=none)->Q v (eG H1 H' (cells cl))) (λc d H'=>(∀b∈cells cl,H' b=none)->E c d (eG H1 H' (cells cl)))
theorem F0 {i k:Nat} {x:Str} {ms:al (Lm×(al V->Sp))} {e:qA} {es:al qA} (F:∀m∈ms,eI X.prog X.w X.K X.mg k m.1 m.2) (hr:a4 (k+1) X.A) (hx:Xc (bJ X.prog X.w) X E)
 (hN:X.N[i]? = ja x) (hv:fZ X.env.scope x) (ha:PA X (e::es) t)
 (hd:autoParam ((x == ("__debug__" : Str))=false) ad) (hcd:autoParam ((x == ("__classdict__" : Str))=false) ad)
 (he:autoParam (starEach (e::es) X.env=(jj,eval e X.env)::starEach es X.env) ah) (hpl:autoParam ((backTo pos (starEach es X.env)).any (·.1)=false) ah) :
 PE X (.Call (.Name x pn) (e::es) [] pos) (nO i ms E t):=by
 intro pins s σ H Q I h;obtain⟨p,fo,fd,u0,h0,hp,hdat,h⟩:=h
 have fa:∀{fo:Obj}{u:HO}{fd:qI}{σ:St}{H:Hp}{s:jg},Inv X pins σ H s->H p=ja (.frz fo u)->fo.data = .func fd->Wf p s.heap:=λ{fo u fd σ H s} J e hdat=>by
  obtain⟨a,b,c,d⟩:=fo;dsimp only at hdat;subst hdat;exact⟨a,b,_,d,(J.hok p _ e).1⟩
 refine yc (aW (lj hN hv hd hcd pins s σ H (λv H'=>v = .ref p/\H'=H) I ⟨_,h0,rfl,rfl⟩) λu s1 z=>?_);obtain⟨v,H1,I1,rv,e1,e2⟩:=z;subst e1 e2;cases rv;refine ve (fa I1 hp hdat) (aW (ha pos pins s1 σ _ _ I1 h) λus s2 z=>?_) he hpl;obtain⟨vs,H2,I2,r,q⟩:=z;obtain⟨m,hm,cl,vc,L,q⟩:=q;obtain⟨pm,c,ct,hp2⟩:=id L.fn;exact⟨fa I2 hp2 rfl,FZ (F m hm) hr hx I2 L r q⟩
end
end L2
namespace DL
open PySem PySem.Spec L2 PyProof.Rows
section
variable{cA:Kn}{G:Cn}{ow owN owB owC:al Nat}{av:jf->Prop}{H0 H H1 H':Hp}{A:Nat->am jf}{σ:L2.St}{δ:Env}{cs:al jf}
def U2(cA:Kn)(n:Nat)(m:al D->am D)(x:al D->am String)(vc:al V):Sp:=λvs H Q E=>wQ cA n m vc vs H Q E0 \/
 ∃av ds cs c,(∀a,av a->H a≠none)/\aD cA av H ds vs/\ds.length=n/\aD cA av H cs vc/\x (ds++cs)=ja c/\∀H',aH H H'->E (.ref (cA.c c)) none H'
theorem Jx {K:jb} {k n:Nat} {m:Lm} {f:al D->am D} {x:al D->am String} (S:bC m.N m.ps m.fr m.scope)
 (bd:∀(cl:al (Str×jf))(pm ct cd:jc)(us:al jc),us.length=m.ps.length->bindArgs (vR "<lambda>" m.qual m.params m.body m.scope cl pm cd ct) ⟨us,[]⟩=pure (m.ps.zip us))
 (hbody:∀(base:jX)(f c:jf)(cl:al (Str×jf))(A:qe)(outer:al yq)(s:jg)(H:Hp)(E:XK),a4 k (A.deeper (yQ m.qual m.scope s.heap.objs.size f (.ref c) cl)) ->
   ∃t,PE (iK (bJ P w) P w K mg base m.N m.qual m.scope f (.ref c) cl A outer s H E) m.body t/\(∃q,VE ⟨cA,λ_=>none⟩ [] t q ε)/\eF ⟨cA,λ_=>none⟩ [] E t χ) (hf:f=Qy m.N.length ε) (hx:x=X2 m.N.length χ) (hn:m.ps.length=n) :
 eI P w K mg k m (U2 cA n f x):=by
 subst hf hx hn;refine⟨S,λvc vs H Q E h => ?_,bd,λbase f c cl vc A outer s H vs Q E hr h => ?_⟩
 . rcases h with⟨av,ds,cs,d,_,r,hl,_⟩|⟨av,ds,cs,d,_,r,hl,_⟩
   . rw [<-r.length,hl]
   . rw [<-r.length,hl]
 . obtain⟨t,ht,⟨ql,hv⟩,hX⟩:=hbody base f c cl A outer s H E hr
   rcases h with⟨av,ds,cs,d,ha,r,hl,rc,hm,q⟩|⟨av,ds,cs,d,ha,r,hl,rc,hm,q⟩
   . exact⟨t,ht,hv H av _ _ H _ (VZ (N:=m.N) ha (r.append rc)) d hm _ λv H' s' r'=>q v H' s' (cC.none_of r')⟩
   . exact⟨t,ht,hX H av _ _ H _ (VZ (N:=m.N) ha (r.append rc)) d hm q _⟩
theorem xy{i k0:Nat}(E:ER G ow H0 av A σ H δ)(hi:δ[i]? = ja (ja (.clo k0 xs))):∃p cl vs,σ[i]? = ja (ja (.ref p))/\bw H p (G.1.lm k0) cl vs/\(∀q∈cl,¬AV av A q.2)/\aD G.1 (AV av A) H xs vs:=by
 obtain⟨v,hv,k1,k2⟩:=E.var i _ hi
 have hA:A i=none:=by
  cases hA:A i with
  |none=>rfl
  |some a=>exact(k2 a hA).2.elim
 have rv:=k1 hA;unfold Rep at rv;obtain⟨p,cl,vs,e1,n1,n2,L,rl⟩:=rv;subst e1;exact⟨p,cl,vs,hv,L,n2,rl⟩
theorem xz{p k0:Nat}{cl:al (Str×jf)}{av':jf->Prop}(E1:ER G ow H0 av A σ H1 δ)(hc:eH H1 (cells cl))(n2:∀q∈cl,¬AV av A q.2)(rl:aD G.1 (AV av A) H1 xs vs)(z2:YQ ds=je)(z3:YQ xs=je)(hw:∀a,av' a->AV av A a)(rd:aD G.1 av' H1 ds us) :
 (∀a,av' a->cP H1 (cells cl) a≠none)/\aD G.1 av' (cP H1 (cells cl)) ds us/\aD G.1 av' (cP H1 (cells cl)) xs vs:=by
 refine⟨λa za zb => ?_,aD.drp hc z2 rd,aD.drp hc z3 (rl.av λb z => .inl (hw b z))⟩
 have hb:a∉cells cl:=λhb=>by
  obtain⟨q,hq,rfl⟩:=qf.mp hb;exact n2 q hq (hw _ za)
 rw [Qx hb]at zb;exact E1.avl a (hw a za) zb
theorem nP(s1:aH H H1)(sm:aH (cP H1 cs) H')(hn:∀c∈cs,H' c=none):aH H (eG H1 H' cs)/\aH H' (eG H1 H' cs):=by
 refine⟨λb o eb => ?_,λb o eb => ?_⟩
 . by_cases hb:b∈cs
   . rw [iF hb];exact s1 b o eb
   . rw [Xw hb]
     exact sm b o (by rw [Qx hb];exact s1 b o eb)
 . rw [Xw λhb=>by rw [hn b hb]at eb;cases eb]
   exact eb
abbrev c7:=al (Nat×Nat×(al D->am D)×(al D->am String))
noncomputable def Jy(i:Nat)(tab:c7)(α:Env->am (al D))(δ:Env):am D:=match δ[i]?,α δ with
 |some (ja (.clo k xs)),ja ds=>match tab.find? (·.1 == k)with
  |some (_,n,m,_)=>if ds.length=n/\YQ ds=je/\YQ xs=je then m (ds++xs)else none
  |none=>none
 |_,_=>none
noncomputable def QI(i:Nat)(tab:c7)(α:Env->am (al D))(δ:Env):am String:=match δ[i]?,α δ with
 |some (ja (.clo k xs)),ja ds=>match tab.find? (·.1 == k)with
  |some (_,n,_,x)=>if ds.length=n/\YQ ds=je/\YQ xs=je then x (ds++xs)else none
  |none=>none
 |_,_=>none
abbrev Jz(cA:Kn)(tab:c7):al (Lm×(al V->Sp)):=tab.map λy=>(cA.lm y.1,U2 cA y.2.1 y.2.2.1 y.2.2.2)
theorem nQ{i:Nat}{tab:c7}{q:Ql}(h:VA G ow t q α):VE G ow (nO i (Jz G.1 tab) E1 t) q.cq (Jy i tab α):=λH0 av A σ H δ E d e Q k=>by
 unfold Jy at e
 split at e
 . rename_i j xs ds hi ha
   split at e
   . rename_i k0 n m x hf
     split at e
     . rename_i hz
       obtain⟨z1,z2,z3⟩:=hz;have hk:k0=j:=by simpa using Wl hf
       subst hk;obtain⟨p,cl,vs,hv,L,n2,rl⟩:=xy E hi;obtain⟨pm,c,ct,hp⟩:=id L.fn;refine⟨p,_,_,_,hv,hp,rfl,h H0 av A σ H δ E ds ha _ λus H1 s1 r1 => ?_⟩;have L1:bw H1 p (G.1.lm k0) cl vs:=L.ext (s1 p) λq _=>s1 q.2
       refine⟨_,qf.mpr ⟨_,oy hf,rfl⟩,cl,vs,L1,.inl ?_⟩
       have go:∀av':jf->Prop,(∀a,av' a->AV av A a)->aD G.1 av' H1 ds us->(∀v H',aH H H'->Rep G.1 av' H' d v->Q v H')->wQ G.1 n m vs us (cP H1 (cells cl)) (λv H'=>(∀c∈cells cl,H' c=none)->Q v (eG H1 H' (cells cl))) E0:=λav' hw rd kk=>by
        obtain⟨g1,g2,g3⟩:=xz (p:=p) (k0:=k0) (E.mono s1) L1.stl n2 (rl.same s1) z2 z3 hw rd;exact⟨av',ds,xs,d,g1,g2,z1,g3,e,λv H' sm r hn=>kk v _ (nP s1 sm hn).1 (r.same (nP s1 sm hn).2)⟩
       cases q with
       |cl=>exact go (AV av A) (λa z=>z) r1.cl λv H' sm r=>k v H' sm r.t
       |tp=>exact go av (λa z => .inl z) r1.any λv H' sm r=>k v H' sm r.t
       |dt=>exact go av (λa z => .inl z) r1.any λv H' sm r=>k v H' sm r.t
     . cases e
   . cases e
 . cases e
theorem F1{i:Nat}{tab:c7}(h:VA G ow t q α):eF G ow E1 (nO i (Jz G.1 tab) E1 t) (QI i tab α):=λH0 av A σ H δ E c e k Q=>by
 unfold QI at e
 split at e
 . rename_i j xs ds hi ha
   split at e
   . rename_i k0 n m x hf
     split at e
     . rename_i hz
       obtain⟨z1,z2,z3⟩:=hz;have hk:k0=j:=by simpa using Wl hf
       subst hk;obtain⟨p,cl,vs,hv,L,n2,rl⟩:=xy E hi;obtain⟨pm,c',ct,hp⟩:=id L.fn;refine⟨p,_,_,_,hv,hp,rfl,h H0 av A σ H δ E ds ha _ λus H1 s1 r1 => ?_⟩;have L1:bw H1 p (G.1.lm k0) cl vs:=L.ext (s1 p) λq _=>s1 q.2
       obtain⟨g1,g2,g3⟩:=xz (p:=p) (k0:=k0) (E.mono s1) L1.stl n2 (rl.same s1) z2 z3 (λa z => .inl z) r1.any;exact⟨_,qf.mpr ⟨_,oy hf,rfl⟩,cl,vs,L1,.inr ⟨av,ds,xs,c,g1,g2,z1,g3,e,λH' sm hn=>k _ (nP s1 sm hn).1⟩⟩
     . cases e
   . cases e
 . cases e
end
end DL
namespace L2
open PySem PySem.Spec PySem.W PyProof.Rows
section
variable{P:jS}{w:jV}{K:jb}{mg:Str->am jc}{base:jX}{N:al Str}{qual:Str}{scope:qH}{f:jf}{cd:jc}{A:qe}{outer:al Env}{s:jg}{H:Hp}{E:XK}
theorem F2:dZ (ZJ (cW P w) P w K mg base N qual scope f cd A outer s H E) (λc _ H'=>∀dO,aH H H'/\E c dO H'):=by
 refine⟨rfl,rfl,rfl,?_⟩;intro ev s' ok ⟨ea,cls,a0,fl,B,H2,e,hos,hb,x1,x2,x3,x4,hKB,hok,hfree,hup,hE⟩;subst e;show jJ (model P w) _ (leaving _ (.ref ea)) _ _ _;refine EX (outer:=outer) ok.frames rfl x1 x2 x3 x4 λh2 y1 y2 => ?_
 obtain⟨o1,ho1,_⟩:=y1.there;refine⟨ea,cls,a0,B,H2,o1.dict,rfl,hos,hb,y1,hKB,hok,(hE none).1,hfree,λb o q hn => ?_,⟨o1,ho1,rfl⟩,(hE _).2⟩;obtain⟨sl',q3⟩:=hup b o q hn;obtain⟨_,o',q2,hnf⟩:=ok.funs.mem hn;have:o'=o:=jx (q2.symm.trans q);subst this;obtain⟨sl2,q4⟩:=y2 b _ q3 (show ∀vs,({ cls:=o'.cls,dict:=o'.dict,data:=o'.data,slots:=sl' }:Obj).data ≠ .fields vs from hnf)
 exact⟨sl2,q4⟩
end
section
variable{X:Cx}{E:XK}{pins:al (jf×Obj)}{σ:St}{H₂:Hp}{s₂:jg}{scope:qH}{N':al Str}{C:jf}{fp:al jf}
theorem F3(hp:dZ X E)(I2:Inv X pins σ H₂ s₂)(f2:∀b∈fp,XA X pins H₂ b)(hC:s₂.heap.objs.size<=C):Xc (bJ X.prog X.w) (YZ X scope N' C s₂ H₂ fp (nr X E C)) E:=by
 intro pins' σ' H s ev s' I ⟨ea,cls,a0,B,H',e,hos,hb,hfl,hKB,hok,hfree,hup,hE⟩
 have hz:∀b o,X.s₀.heap.get? b=ja o->b∉fp:=λb o q z=>by
  obtain⟨_,_,_,h3,_⟩:=f2 b z;rcases h3 with h3|h3
  . rw [hp.ex]at h3;cases h3
  . exact absurd (jw q) (ym.mpr h3)
 have hn0:∀b,b∉X.ex:=λb z=>by rw [hp.ex]at z;cases z
 have hnl:∀b o,X.s₀.heap.get? b=ja o->b∉X.fs->b∉bI X.stack:=λb o q n z=>by
  rcases jp.mp (I2.stkSub b z)with e'|z
  . exact absurd (jw q) (ym.mpr (by rw [e'];exact I2.ok.above))
  . exact n z
 have hin:∀b,b∈X.fs->b∈bI X.stack:=λb z=>by
  rw [hp.st];show b∈(X.env::X.outer).filterMap (·.frame);rw [yy,hp.fr];exact jq _ z
 have hCs:∀b∈bI X.stack,b≠C:=λb z e=>by
  obtain⟨_,o,q,_⟩:=I.ok.funs.mem z;exact absurd (jw q) (ym.mpr (e▸hC))
 obtain⟨m,hm,_⟩:=id I.loc;obtain⟨oC,es,ep,c1,c2,c3,c4⟩:=id hm;have cB:B.get? C=ja oC:=hKB C oC c1 I.free λz=>hCs C z rfl
 refine⟨ea,cls,a0,B,H',e,hos.trans (I.os.trans I2.os),hb,hfl,⟨m,oC,es,ep,cB,c2,c3,c4⟩,hfree C oC c1 I.free,λb o q n hn => ?_,hok,λb o q n => ?_,λb o q hn => ?_,hE⟩
 . have k2:=I2.base.keep b o q n hn (hn0 b)
   have n2:=I2.base.free b o q n (hn0 b);have k3:=I.base.keep b o k2 n2 (hnl b o q hn) (hz b o q);exact hKB b o k3 (I.base.free b o k2 n2 (hz b o q)) (hnl b o q hn)
 . obtain⟨sl,k2⟩:=I2.base.any q n (hn0 b)
   have n2:=I2.base.free b o q n (hn0 b);obtain⟨sl3,k3⟩:=I.base.any k2 n2 (hz b o q);exact hfree b _ k3 (I.base.free b _ k2 n2 (hz b o q))
 . have n0:=I2.ok.frf b hn
   obtain⟨sl,k2⟩:=I2.base.slot b o q n0 hn (hn0 b);have n2:=I2.base.free b o q n0 (hn0 b);obtain⟨sl3,k3⟩:=I.base.slot b _ k2 n2 (hin b hn) (hz b o q);obtain⟨sl4,k4⟩:=hup b _ k3 (hin b hn);exact⟨sl4,k4⟩
end
section
variable{X:Cx}{tg iter elt:qA}{ifs:al qA}{scope:qH}{pos:Pos}{wi:TI}{g:TG}{tt:TT}{te:TE}{tn cn:al Str}{js:al Nat}{E:XK}
theorem F4 (hp:dZ X E) (hc:X.calm=je) (S:aQ X scope tn cn js) (hi:PI X tg iter wi)
 (hg:∀C s₂ H₂ fp xe,PG (YZ X scope (tn++cn) C s₂ H₂ fp xe) tg g) (ht:∀C s₂ H₂ fp xe,gf (YZ X scope (tn++cn) C s₂ H₂ fp xe) ifs tt) (he:∀C s₂ H₂ fp xe,Xc (bJ X.prog X.w) (YZ X scope (tn++cn) C s₂ H₂ fp xe) E->PE (YZ X scope (tn++cn) C s₂ H₂ fp xe) elt te)
 (hs:autoParam (∀x,foldedSetIterable iter X.env x=pure x) af) :
 PE X (.ListComp elt [⟨tg,iter,ifs,0⟩] scope pos) (Q5 wi g tt te tn.length js):=by
 intro pins s σ H Q I h;rw [eval_ListComp];refine Ol (use:=none) (cl:=Xh X.env.cells scope.names []) rfl hs (lS (S.clos I.ok)) S.kind S.names (aW (hi pins s σ H _ I h) λv s1 h1=>aW h1 λitv s2 h2 => ?_);obtain⟨it,fp,tnx,J,H2,e,I2,T,st2,f2,W,⟨m0,w0⟩,turn⟩:=h2;subst e;refine m9 (RR:=λacc C=>compPost (model X.prog X.w) X.A X.xe none (EP X pins σ Q) acc C) (W:=W) (m0:=m0) (xx:=nr X E) hc S (λC=>hg C _ _ _ _) (λC=>ht C _ _ _ _) (λC hC=>he C _ _ _ _ (F3 hp I2 f2 hC)) I2 T st2 f2 w0 (λC D e s hC z=>EZ hp I2.ok (jK I2.sz hC) z) λi m ys H w => ?_
 rcases turn i m ys H w with⟨stop,qn⟩|r
 . refine .inl ⟨stop,λC D s its n σ' hC hD hDC hv hz I' => ?_⟩
   obtain⟨m',hn,_⟩:=id I'.loc;refine⟨m',hn,λh' hs' => ?_⟩;have pd:=I'.pin (D,{ cls := .type "list",data := .seq its.toArray n }) (jO _ jr);exact⟨.ref D,_,m7 S I2 hC hD hDC f2 I' hv hz hs',rfl,qn D pd.2.1⟩
 . exact .inr r
end
end L2
namespace DL
open PySem PySem.Spec L2
section
variable{cA:Kn}{G:Cn}{ow owN owB owC:al Nat}{E:XK}
def iL(G:Cn)(ow:al Nat)(E:XK)(t:TA)(χ:Env->am String):Prop:=
 ∀H0 av A σ H δ,ER G ow H0 av A σ H δ->∀c,χ δ=ja c->(∀H',aH H H'->E (.ref (G.1.c c)) none H')->∀Q:al V->Hp->Prop,t σ H Q
def U3(a:Env->am D)(χ:Env->am String)(δ:Env):am String:=match a δ with
 |some _=>χ δ
 |none=>none
theorem F5(h:eF G ow E te χ):iL G ow E (YG te t) χ:=λH0 av A σ H δ R c e k Q=>h H0 av A σ H δ R c e k _
theorem F7(ha:VE G ow te q a)(h:iL G ow E t χ):iL G ow E (YG te t) (U3 a χ):=λH0 av A σ H δ R c e k Q=>by
 unfold U3 at e;cases hd:a δ with
 |none=>rw [hd]at e;cases e
 |some d=>
  rw [hd]at e;exact ha H0 av A σ H δ R d hd _ λv H1 s1 _=>h H0 av A σ H1 δ (R.mono s1) c e (λH' s=>k H' (s1.trans s)) _
theorem F8(h:iL G ow E t χ):eF G ow E (J8 C sp dvs E1 t) χ:=λH0 av A σ H δ R c e k Q=>h H0 av A σ H δ R c e k _
open Classical in
end
section
variable{cA:Kn}{G:Cn}{ow:al Nat}{E:XK}
def U4(χ ψ:Env->am String)(δ:Env):am String:=match χ δ with
 |some c=>ja c
 |none=>ψ δ
theorem F9(h1:eF G ow E te χ)(h2:eF G ow E te ψ):eF G ow E te (U4 χ ψ):=λH0 av A σ H δ R c e k Q=>by
 unfold U4 at e;cases hx:χ δ with
 |some c'=>
  rw [hx]at e;cases e;exact h1 H0 av A σ H δ R c hx k Q
 |none=>
  rw [hx]at e;exact h2 H0 av A σ H δ R c e k Q
theorem xA{n:Nat}{x:al D->am XC}{q:Ql}{E0:XK}(dds:al D)(hd:dds.all ZA=je)(h:VA G ow t q α):VE G ow (XB (UA G.1 n m x) (dds.map bP) E0 t) q.cq (Zi n m dds α):=λH0 av A σ H δ R d e Q k=>by
 unfold Zi at e;cases he:α δ with
 |none=>rw [he]at e;cases e
 |some ds=>
  rw [he]at e;dsimp only at e
  by_cases hz:(ds++dds).length=n
  . rw [if_pos hz]at e
    refine h H0 av A σ H δ R ds he _ λvs H1 s1 r1 => .inl ?_
    have E1:=R.mono s1;cases q with
    |cl=>exact⟨AV av A,ds++dds,d,E1.avl,r1.cl.append (.of_vals hd),hz,e,λv H' s r=>k v H' (s1.trans s) r.t⟩
    |tp=>exact⟨av,ds++dds,d,E1.avH,r1.any.append (.of_vals hd),hz,e,λv H' s r=>k v H' (s1.trans s) r.t⟩
    |dt=>exact⟨av,ds++dds,d,E1.avH,r1.any.append (.of_vals hd),hz,e,λv H' s r=>k v H' (s1.trans s) r.t⟩
  . rw [if_neg hz]at e;cases e
end
end DL
namespace L2
open PySem PySem.Spec PySem.W PyProof.Rows
section
variable{X:Cx}
def d6:V->al V->Hp->VK->Prop:=λx vs H Q=>∃l xs y,∃j:Int,x = .ref l/\vs=[.int j,y]/\H l=ja (.lst xs)/\0<=j/\j<=xs.length/\xs.length<jv/\Q .non (aV H l (.lst (xs.take j.toNat++y::xs.drop j.toNat)))
theorem Ga:lQ X "list.insert" d6:=by
 intro pins s σ H x vs v us Q I rx rv h;obtain⟨l,xs,y,j,rfl,rfl,hH,hj,hk,hz,q⟩:=h;cases rx;obtain⟨uk,u,rfl,rk,ru⟩:=rv.two;obtain⟨tk,rfl⟩:=rk;obtain⟨z,its,n,r,hl,e⟩:=I.lstM hH
 have hfit:¬(!uy j)=true:=by
  have hs:jv=16777216:=jo;rw [hs]at hz;unfold uy;simp;omega
 have M:=PySem.AutoSeq1.list_insert_list_int_val_1 l its.toArray n j tk u hfit (by rw [jN,<-hl];exact z);refine um F.slot_list_insert ⟨_,e,rfl⟩ F.entry_list_insert (F.args_list_insert_3 _ _ _) M ⟨e,?_⟩;refine⟨.non,_,I.lset (its':=its.take j.toNat++u::its.drop j.toNat) hH e ?_ ((r.take j.toNat).append (.cons ru (r.drop j.toNat))) ?_,rfl,q⟩
 . have h1:¬(j<0):=by omega
   have h2:min j.toNat its.toArray.size=j.toNat:=by rw [jN];omega
   simp only [if_neg h1,h2];apply Array.ext';simp;exact qx (by rw [qw];exact jz _)
 . rw [jt,jh,jT,qw]
   omega
end
end L2
namespace DL
open PySem PySem.Spec L2
section
variable{cA:Kn}{G:Cn}{ow owB owC:al Nat}
def QJ(i:Nat)(κ ε:Env->am D)(δ:Env):am aT:=match Za i δ,κ δ,ε δ with
 |some (.lst xs),ja (.int k),ja d=>if 0<=k/\k<=xs.length/\xs.length<jv then ja (.nx (δ.set i (ja (.lst (xs.take k.toNat++d::xs.drop k.toNat)))))else none
 |_,_,_=>none
theorem xC{K:jb}(i:Nat)(hi:ow.contains i=je)(hk:VE G ow tk .cl κ)(h:VE G ow te .cl ε):VS G ow ow owB owC (XN (gq K "list" d6 (Xu i) (YG tk (YG te cF)))) (QJ i κ ε):=λH0 av A σ H δ E o e De k=>by
 unfold QJ at e
 split at e
 . rename_i xs j d hv hj hd
   by_cases hz:0<=j/\j<=xs.length/\xs.length<jv
   . rw [if_pos hz]at e
     cases e;have hi':i∈ow:=by simpa using hi
     cases hA:A i with
     |none=>exact absurd hA (E.dom' i hi')
     |some a=>
      obtain⟨v,h1,_,h3⟩:=E.var i _ (Xi hv);obtain⟨rfl,vs,q1,q2⟩:=h3 a hA;refine⟨_,h1,.inl ⟨rfl,vs,bv.of q1⟩,hk H0 av A σ H δ E _ hj _ λvj H1 s1 r1=>h H0 av A σ H1 δ (E.mono s1) d hd _ λv H' s2 r => ?_⟩;have s:=s1.trans s2;have E':=E.mono s;have q1':=s _ _ q1;obtain rfl:vj = .int j:=r1.any;have ll:=q2.length;refine⟨a,vs,v,j,rfl,rfl,q1',hz.1,by omega,by omega,k A σ _ (E'.put hA (Xi hv) (λb o hb e=>by rw [Zn hb];exact e) (by rw [ZF];exact λz=>by cases z) ⟨_,ZF,?_⟩)⟩
      have ex:∀b o,¬AV av A b->H' b=ja o->aV H' a (.lst (vs.take j.toNat++v::vs.drop j.toNat)) b=ja o:=λb o n e=>by
       rw [Zn λz=>n (.inr ⟨i,by rw [z];exact hA⟩)];exact e
      exact(((q2.same s).take _).append (.cons (bf.r r) ((q2.same s).drop _))).ext ex
   . rw [if_neg hz]at e;cases e
 . cases e
end
inductive fD{α:Type}(p:α->Prop):List α->Prop where
 |nil:fD p []
 |cons {a:α} {l:List α}:p a->fD p l->fD p (a::l)
inductive fE{α β:Type}(p:α->β->Prop):List α->List β->Prop where
 |nil:fE p [] []
 |cons {a:α} {b:β} {l:List α} {r:List β}:p a b->fE p l r->fE p (a::l) (b::r)
theorem JA{K:jb}{cA:Kn}{cv:jc}{ns:al String}{as:al jf}{bs:al Bool}(hc:ns.map cA.c=as)(hE:fD (br K) as)(hk:fE (λa b=>ju K (.ref a) cv=ja b) as bs)(hv:∀u,RelV v u->u=cv):Uy K cA v (ns.zip bs):=by
 subst hc
 induction ns generalizing bs with
 |nil=>intro c b h;simp at h
 |cons n ns ih=>
  intro c b h;cases hk with
  |cons k1 kr=>
   cases hE with
   |cons e1 er=>
    rw [yF,jC]at h;cases hq:c == n with
    |true=>
     rw [hq]at h;cases h;rw [eq_of_beq hq];exact⟨e1,cv,hv,k1⟩
    |false=>
     rw [hq]at h;exact ih er kr c b h
abbrev RO:=Except String aT
abbrev RD:=Except String D
def dE(r:Env->am RO)(δ:Env):am aT:=match r δ with
 |some (.ok o)=>ja o
 |_=>none
def dM(r:Env->am RO)(δ:Env):am String:=match r δ with
 |some (.error c)=>ja c
 |_=>none
def bQ(r:al D->am RD)(ds:al D):am D:=match r ds with
 |some (.ok o)=>ja o
 |_=>none
def bO(r:al D->am RD)(ds:al D):am String:=match r ds with
 |some (.error c)=>ja c
 |_=>none
structure VR(G:Cn)(ow owN owB owC:List Nat)(E:XK)(t:TS)(r:Env->Option RO):Prop where
 v:VS G ow owN owB owC t (dE r)
 x:VX G ow E t (dM r)
section
variable{cA:Kn}{G:Cn}{ow ow1 owN owB owC:al Nat}{E:XK}{t u:TS}
theorem VS.imp{φ ψ:Env->am aT}(h:VS G ow owN owB owC t φ)(k:∀δ o,ψ δ=ja o->φ δ=ja o):VS G ow owN owB owC t ψ:=λH0 av A σ H δ R o e=>h H0 av A σ H δ R o (k δ o e)
theorem VX.imp{φ ψ:Env->am String}(h:VX G ow E t φ)(k:∀δ o,ψ δ=ja o->φ δ=ja o):VX G ow E t ψ:=λH0 av A σ H δ R o e=>h H0 av A σ H δ R o (k δ o e)
def c8(φ:Env->am aT)(δ:Env):am RO:=(φ δ).map .ok
theorem V6(h:VS G ow owN owB owC t φ):VR G ow owN owB owC E t (c8 φ) where
 v:=h.imp λδ o e=>by
  unfold dE c8 at e;cases q:φ δ with
  |none=>rw [q]at e;cases e
  |some o'=>rw [q]at e;exact e
 x:=λH0 av A σ H δ R o e=>by
  unfold dM c8 at e;cases q:φ δ with
  |none=>rw [q]at e;cases e
  |some o'=>rw [q]at e;cases e
def ZL(r s:Env->am RO)(δ:Env):am RO:=match r δ with
 |some (.ok (.nx δ1))=>s δ1
 |o=>o
theorem YL{r s:Env->am RO}(h1:VR G ow ow1 owB owC E t r)(h2:VR G ow1 owN owB owC E u s):VR G ow owN owB owC E (VQ t u) (ZL r s) where
 v:=(Zj h1.v h2.v).imp λδ o e=>by
  unfold dE ZL at e;unfold Zf dE;cases q:r δ with
  |none=>rw [q]at e;cases e
  |some o'=>
   rw [q]at e;cases o' with
   |error c=>cases e
   |ok o'=>cases o'<;>exact e
 x:=(DB h1.x h1.v h2.x).imp λδ o e=>by
  unfold dM ZL at e;unfold mR dM dE;cases q:r δ with
  |none=>rw [q]at e;cases e
  |some o'=>
   rw [q]at e;cases o' with
   |error c=>exact e
   |ok o'=>cases o'<;>exact e
def fF(τ:Env->am Bool)(r s:Env->am RO)(δ:Env):am RO:=match τ δ with
 |some je=>r δ
 |some jj=>s δ
 |none=>none
theorem xD{r s:Env->am RO}(hc:VT G ow c τ)(h1:VR G ow owN owB owC E t r)(h2:VR G ow owN owB owC E u s):VR G ow owN owB owC E (Qg c t u) (fF τ r s) where
 v:=(Yo hc h1.v h2.v).imp λδ o e=>by
  unfold dE fF at e;unfold bp dE;cases q:τ δ with
  |none=>rw [q]at e;cases e
  |some b=>rw [q]at e;cases b<;>exact e
 x:=(DA hc h1.x h2.x).imp λδ o e=>by
  unfold dM fF at e;unfold mQ dM;cases q:τ δ with
  |none=>rw [q]at e;cases e
  |some b=>rw [q]at e;cases b<;>exact e
def QK(c:String)(α:Env->am (al D))(δ:Env):am RO:=(Qs c α δ).map .error
theorem xE{C:jf}(c:String)(hC:C=G.1.c c)(h:VA G ow ta q α):VR G ow owN owB owC E (mP E C ta) (QK c α) where
 v:=λH0 av A σ H δ R o e=>by
  unfold dE QK at e;cases q:Qs c α δ with
  |none=>rw [q]at e;cases e
  |some o'=>rw [q]at e;cases e
 x:=(Dz c hC h).imp λδ o e=>by
  unfold dM QK at e;cases q:Qs c α δ with
  |none=>rw [q]at e;cases e
  |some o'=>rw [q]at e;exact e
def Z7(c:Env->am D)(δ:Env):am RO:=match c δ with
 |some (.bl je)=>ja (.ok (.nx δ))
 |some (.bl jj)=>ja (.error "BadRule")
 |_=>none
theorem Xn {rr:al D->am RD} {w:al Nat} (h1:∀w,rr [.bl je,.str w]=ja (.ok .non)) (h2:∀w,rr [.bl jj,.str w]=ja (.error "BadRule")) (h:VE G ow te .cl c) :
 VR G ow ow owB owC E (XN (XB (gu G.1 2 (bQ rr) (bO rr)) [] E (YG te (YG (tC (S w)) cF)))) (Z7 c) where
 v:=(tR (DD [] rfl (Zh h (Zh (Zt (d:=.str w) rfl rfl) Zp)))).imp λδ o e=>by
  unfold dE Z7 at e;cases q:c δ with
  |none=>rw [q]at e;cases e
  |some d=>
   rw [q]at e;cases d<;>first|(cases e;done)|skip
   rename_i b;cases b with
   |false=>cases e
   |true=>
    cases e;have e1:Zb c (Zb (eC (.str w)) az) δ=ja [.bl je,.str w]:=by unfold Zb;rw [q];rfl
    have e2:Zi 2 (bQ rr) [] (Zb c (Zb (eC (.str w)) az)) δ=ja .non:=by
     unfold Zi;rw [e1];show(if 2=2 then bQ rr [.bl je,.str w]else none)=_;rw [if_pos rfl];unfold bQ;rw [h1]
    show ZP _ δ=_;unfold ZP;rw [e2]
 x:=(iu.vx (DC (DE [] rfl (Zh h (Zh (Zt (d:=.str w) rfl rfl) Zp))))).imp λδ o e=>by
  unfold dM Z7 at e;cases q:c δ with
  |none=>rw [q]at e;cases e
  |some d=>
   rw [q]at e;cases d<;>first|(cases e;done)|skip
   rename_i b;cases b with
   |true=>cases e
   |false=>
    cases e;have e1:Zb c (Zb (eC (.str w)) az) δ=ja [.bl jj,.str w]:=by unfold Zb;rw [q];rfl
    show iw _ _ _ _ δ=_;unfold iw;rw [e1];show(if 2=2 then bO rr [.bl jj,.str w]else none)=_;rw [if_pos rfl];unfold bO;rw [h2]
def YJ(i n:Nat)(rr:al D->am RD)(dds:al D)(α:Env->am (al D))(δ:Env):am RO:=match Za i δ,α δ with
 |some d,ja ds=>if(d::(ds++dds)).length=n then(match rr (d::(ds++dds))with
  |some (.ok d')=>ja (.ok (.nx (δ.set i (ja d'))))
  |some (.error c)=>ja (.error c)
  |none=>none)else none
 |_,_=>none
theorem QL{n:Nat}{rr:al D->am RD}(i:Nat)(hi:ow.contains i=je)(dds:al D)(hd:dds.all ZA=je)(h:VA G ow ta .cl α) :
 VR G ow ow owB owC E (XN (XB (YE G.1 n (bQ rr) (bO rr)) (dds.map bP) E (YG (Xu i) ta))) (YJ i n rr dds α) where
 v:=(E7 i hi dds hd h).imp λδ o e=>by
  unfold dE YJ at e;unfold Z1 bQ;cases q1:Za i δ with
  |none=>rw [q1]at e;cases e
  |some d=>
   cases q2:α δ with
   |none=>rw [q1,q2]at e;cases e
   |some ds=>
    rw [q1,q2]at e;dsimp only at e ⊢
    by_cases hz:(d::(ds++dds)).length=n
    . rw [if_pos hz]at e ⊢
      cases q3:rr (d::(ds++dds))with
      |none=>rw [q3]at e;cases e
      |some x=>rw [q3]at e;cases x<;>first|(cases e;done)|exact e
    . rw [if_neg hz]at e;cases e
 x:=(E8 i hi dds hd h).imp λδ o e=>by
  unfold dM YJ at e;unfold nt bO;cases q1:Za i δ with
  |none=>rw [q1]at e;cases e
  |some d=>
   cases q2:α δ with
   |none=>rw [q1,q2]at e;cases e
   |some ds=>
    rw [q1,q2]at e;dsimp only at e ⊢
    by_cases hz:(d::(ds++dds)).length=n
    . rw [if_pos hz]at e ⊢
      cases q3:rr (d::(ds++dds))with
      |none=>rw [q3]at e;cases e
      |some x=>rw [q3]at e;cases x<;>first|(cases e;done)|exact e
    . rw [if_neg hz]at e;cases e
end
noncomputable def QM(N:Nat)(r:Env->am RO)(ds:al D):am RD:=match r (ds.map ja++jd (N-ds.length) none)with
 |some (.ok (.nx _))=>ja (.ok .non)
 |some (.ok (.rt d))=>ja (.ok d)
 |some (.error c)=>ja (.error c)
 |_=>none
def Ys(N:Nat)(r:Env->am RO)(ds:al D):am RD:=match r (ds.map ja++jd (N-ds.length) none)with
 |some (.ok (.nx δ))=>(Za 0 δ).map .ok
 |some (.error c)=>ja (.error c)
 |_=>none
theorem Gb{N:Nat}{r:Env->am RO}:bQ (QM N r)=run N (dE r):=by
 funext ds
 unfold bQ QM run dE;generalize r _=y;rcases y with _|(c|(δ|d|δ|δ))<;>rfl
theorem Gc{N:Nat}{r:Env->am RO}:bO (QM N r)=X2 N (dM r):=by
 funext ds
 unfold bO QM X2 dM;generalize r _=y;rcases y with _|(c|(δ|d|δ|δ))<;>rfl
theorem Ge{N:Nat}{r:Env->am RO}:bQ (Ys N r)=fA N (dE r):=by
 funext ds
 unfold bQ Ys fA dE;generalize r _=y;rcases y with _|(c|(δ|d|δ|δ))<;>first|rfl|(dsimp only;cases Za 0 δ<;>rfl)
theorem Gf{N:Nat}{r:Env->am RO}:bO (Ys N r)=X2 N (dM r):=by
 funext ds
 unfold bO Ys X2 dM;generalize r _=y;rcases y with _|(c|(δ|d|δ|δ))<;>first|rfl|(dsimp only;cases Za 0 δ<;>rfl)
section
variable{P:jS}{w:jV}{K:jb}{mg:Str->am jc}{base:jX}{cA:Kn}
theorem Gg {st:qv} {N ps:al Str} {k:Nat} {r:Env->am RO} {body:al qv} {scope:qH} {n:Nat} {rr:al D->am RD} (F:bu K x qual st f fd) (S:aG N ps (aA st)) (hS:aA st=scope) (hB:aN st=body)
 (hbody:∀(cdv:jc)(A:qe)(outer:al yq)(s:jg)(H:Hp)(E:XK),a4 k (A.deeper (qm qual scope s.heap.objs.size f cdv)) ->
   ∃t,cK (ZJ (eO P w) P w K mg base N qual scope f cdv A outer s H E) body t/\∃owN,VR ⟨cA,λ_=>none⟩ [] owN [] [] (λc d H'=>aH H H'/\E c d H') t r) (hm:rr=QM N.length r) (hn:ps.length=n) :
 aO P w K mg base (eO P w) (k+1) f fd ps (gu cA n (bQ rr) (bO rr)):=by
 refine DF (φ:=dE r) (χ:=dM r) F S hS hB (λcdv A outer s H E hr => ?_) ?_ ?_ hn
 . obtain⟨t,ht,owN,h⟩:=hbody cdv A outer s H E hr
   exact⟨t,ht,owN,h.v,h.x⟩
 . rw [hm,Gb]
 . rw [hm,Gc]
theorem U5 {st:qv} {N ps:al Str} {k:Nat} {r:Env->am RO} {body:al qv} {scope:qH} {n:Nat} {rr:al D->am RD} (F:bu K x qual st f fd) (S:aG N ps (aA st)) (hS:aA st=scope) (hB:aN st=body)
 (hbody:∀(cdv:jc)(A:qe)(outer:al yq)(s:jg)(H:Hp)(E:XK)(a:jf),a4 k (A.deeper (qm qual scope s.heap.objs.size f cdv)) ->
   ∃t,cK (ZJ (bJ P w) P w K mg base N qual scope f cdv A outer s H E) body t/\VR ⟨cA,λj=>if j=0 then ja (.inl a)else none⟩ [0] [0] [] [] E t r) (hm:rr=Ys N.length r) (hn:ps.length=n) :
 aO P w K mg base (bJ P w) (k+1) f fd ps (YE cA n (bQ rr) (bO rr)):=by
 refine E9 (φ:=dE r) (χ:=dM r) F S hS hB (λcdv A outer s H E a hr => ?_) ?_ ?_ hn
 . obtain⟨t,ht,h⟩:=hbody cdv A outer s H E a hr
   exact⟨t,ht,h.v,h.x⟩
 . rw [hm,Ge]
 . rw [hm,Gf]
end
abbrev cu:=Except XC aT
abbrev eQ:=Except XC D
def ZQ(r:Env->am cu)(δ:Env):am aT:=match r δ with
 |some (.ok o)=>ja o
 |_=>none
def YM(r:Env->am cu)(δ:Env):am XC:=match r δ with
 |some (.error c)=>ja c
 |_=>none
def Xp(r:al D->am eQ)(ds:al D):am D:=match r ds with
 |some (.ok o)=>ja o
 |_=>none
def Y6(r:al D->am eQ)(ds:al D):am XC:=match r ds with
 |some (.error c)=>ja c
 |_=>none
structure dF(G:Cn)(ow owN owB owC:List Nat)(E:XK)(t:TS)(r:Env->Option cu):Prop where
 v:VS G ow owN owB owC t (ZQ r)
 x:cZ G ow E t (YM r)
section
variable{cA:Kn}{G:Cn}{ow ow1 owN owB owC:al Nat}{E:XK}{t u:TS}
theorem cZ.imp{φ ψ:Env->am XC}(h:cZ G ow E t φ)(k:∀δ o,ψ δ=ja o->φ δ=ja o):cZ G ow E t ψ:=λH0 av A σ H δ R o e=>h H0 av A σ H δ R o (k δ o e)
def Xx(φ:Env->am aT)(δ:Env):am cu:=(φ δ).map .ok
theorem V7(h:VS G ow owN owB owC t φ):dF G ow owN owB owC E t (Xx φ) where
 v:=h.imp λδ o e=>by
  unfold ZQ Xx at e;cases q:φ δ with
  |none=>rw [q]at e;cases e
  |some o'=>rw [q]at e;exact e
 x:=λH0 av A σ H δ R o e=>by
  unfold YM Xx at e;cases q:φ δ with
  |none=>rw [q]at e;cases e
  |some o'=>rw [q]at e;cases e
def YS(r s:Env->am cu)(δ:Env):am cu:=match r δ with
 |some (.ok (.nx δ1))=>s δ1
 |o=>o
theorem V8{r s:Env->am cu}(h1:dF G ow ow1 owB owC E t r)(h2:dF G ow1 owN owB owC E u s):dF G ow owN owB owC E (VQ t u) (YS r s) where
 v:=(Zj h1.v h2.v).imp λδ o e=>by
  unfold ZQ YS at e;unfold Zf ZQ;cases q:r δ with
  |none=>rw [q]at e;cases e
  |some o'=>
   rw [q]at e;cases o' with
   |error c=>cases e
   |ok o'=>cases o'<;>exact e
 x:=(FK h1.x h1.v h2.x).imp λδ o e=>by
  unfold YM YS at e;unfold nL YM ZQ;cases q:r δ with
  |none=>rw [q]at e;cases e
  |some o'=>
   rw [q]at e;cases o' with
   |error c=>exact e
   |ok o'=>cases o'<;>exact e
def VB(τ:Env->am Bool)(r s:Env->am cu)(δ:Env):am cu:=match τ δ with
 |some je=>r δ
 |some jj=>s δ
 |none=>none
theorem nR{r s:Env->am cu}(hc:VT G ow c τ)(h1:dF G ow owN owB owC E t r)(h2:dF G ow owN owB owC E u s):dF G ow owN owB owC E (Qg c t u) (VB τ r s) where
 v:=(Yo hc h1.v h2.v).imp λδ o e=>by
  unfold ZQ VB at e;unfold bp ZQ;cases q:τ δ with
  |none=>rw [q]at e;cases e
  |some b=>rw [q]at e;cases b<;>exact e
 x:=(FJ hc h1.x h2.x).imp λδ o e=>by
  unfold YM VB at e;unfold nK YM;cases q:τ δ with
  |none=>rw [q]at e;cases e
  |some b=>rw [q]at e;cases b<;>exact e
def UB(c:String)(α:Env->am (al D))(δ:Env):am cu:=(QG c α δ).map .error
theorem nS{C:jf}(c:String)(hC:C=G.1.c c)(h:VA G ow ta q α):dF G ow owN owB owC E (nC E C (QE C (jE "row")) ta) (UB c α) where
 v:=λH0 av A σ H δ R o e=>by
  unfold ZQ UB at e;cases q:QG c α δ with
  |none=>rw [q]at e;cases e
  |some o'=>rw [q]at e;cases e
 x:=(FR c hC h).imp λδ o e=>by
  unfold YM UB at e;cases q:QG c α δ with
  |none=>rw [q]at e;cases e
  |some o'=>rw [q]at e;exact e
def V9(ι:Env->am (al D))(γ:D->Env->am Env)(r:Env->am cu)(δ:Env):am cu:=match Ju ι γ (ZQ r) (YM r) δ with
 |some c=>ja (.error c)
 |none=>(Vw ι γ (ZQ r) δ).map .ok
theorem Gh{r:Env->am cu}(hi:VI G ow wi ι)(hg:VG G ow ow g γ)(hb:dF G ow ow ow ow E t r):dF G ow ow owB owC E (J6 wi g t) (V9 ι γ r) where
 v:=(io hi hg hb.v).imp λδ o e=>by
  unfold ZQ V9 at e
  split at e
  . rename_i o' h
    split at h
    . cases h
    . cases q:Vw ι γ (ZQ r) δ with
      |none=>unfold ZQ at q;unfold ZQ at h;rw [q]at h;cases h
      |some z=>unfold ZQ at q;unfold ZQ at h;rw [q]at h;cases h;exact q▸e
  . cases e
 x:=(FS hi hg hb.v hb.x).imp λδ o e=>by
  unfold YM V9 at e
  split at e
  . rename_i o' h
    split at h
    . rename_i c hc
      cases h;cases e;exact hc
    . cases q:Vw ι γ (ZQ r) δ with
      |none=>unfold ZQ at q;unfold ZQ at h;rw [q]at h;cases h
      |some z=>unfold ZQ at q;unfold ZQ at h;rw [q]at h;cases h
  . cases e
end
section
variable{cA:Kn}{G:Cn}{ow owN owB owC:al Nat}{E:XK}{t:TS}
def X4(φ:Env->am aT)(χ:Env->am XC)(δ:Env):am cu:=match χ δ with
 |some c=>ja (.error c)
 |none=>(φ δ).map .ok
theorem xF{χ:Env->am XC}(h1:VS G ow owN owB owC t φ)(h2:cZ G ow E t χ):dF G ow owN owB owC E t (X4 φ χ) where
 v:=h1.imp λδ o e=>by
  unfold ZQ X4 at e;cases hx:χ δ with
  |some c=>rw [hx]at e;cases e
  |none=>
   rw [hx]at e;cases q:φ δ with
   |none=>rw [q]at e;cases e
   |some z=>rw [q]at e;exact e
 x:=h2.imp λδ o e=>by
  unfold YM X4 at e;cases hx:χ δ with
  |some c=>rw [hx]at e;exact e
  |none=>
   rw [hx]at e;cases q:φ δ with
   |none=>rw [q]at e;cases e
   |some z=>rw [q]at e;cases e
theorem cZ.frz{ow1:al Nat}{χ:Env->am XC}(i:Nat)(h:cZ G ow1 E t χ)(hn:G.2 i=none)(h1:sub ow1 ow=je)(h2:ow1.contains i=jj)(h3:sub ow (i::ow1)=je):cZ G ow E t χ:=λH0 av A σ H δ R c e k De=>
 h H0 av _ σ H δ (R.freeze i (ij h1 h2 h3) hn) c e k De
theorem dF.frz{ow1:al Nat}{r:Env->am cu}(i:Nat)(h:dF G ow1 owN owB owC E t r)(hn:G.2 i=none)(h1:sub ow1 ow=je)(h2:ow1.contains i=jj)(h3:sub ow (i::ow1)=je):dF G ow owN owB owC E t r:=⟨VS.frz i h.v hn h1 h2 h3,cZ.frz i h.x hn h1 h2 h3⟩
end
noncomputable def Ua(N:Nat)(r:Env->am cu)(ds:al D):am eQ:=match r (ds.map ja++jd (N-ds.length) none)with
 |some (.ok (.nx _))=>ja (.ok .non)
 |some (.ok (.rt d))=>ja (.ok d)
 |some (.error c)=>ja (.error c)
 |_=>none
theorem Gi{N:Nat}{r:Env->am cu}:Xp (Ua N r)=run N (ZQ r):=by
 funext ds
 unfold Xp Ua run ZQ;generalize r _=y;rcases y with _|(c|(δ|d|δ|δ))<;>rfl
theorem Gj{N:Nat}{r:Env->am cu}:Y6 (Ua N r)=nM N (YM r):=by
 funext ds
 unfold Y6 Ua nM YM;generalize r _=y;rcases y with _|(c|(δ|d|δ|δ))<;>rfl
section
variable{P:jS}{w:jV}{K:jb}{mg:Str->am jc}{base:jX}{cA:Kn}
theorem xG {st:qv} {N ps:al Str} {k:Nat} {r:Env->am cu} {body:al qv} {scope:qH} {n:Nat} {rr:al D->am eQ} (F:bu K x qual st f fd) (S:aG N ps (aA st)) (hS:aA st=scope) (hB:aN st=body)
 (hbody:∀(cdv:jc)(A:qe)(outer:al yq)(s:jg)(H:Hp)(E:XK),a4 k (A.deeper (qm qual scope s.heap.objs.size f cdv)) ->
   ∃t,cK (ZJ (cW P w) P w K mg base N qual scope f cdv A outer s H E) body t/\∃owN,dF ⟨cA,λ_=>none⟩ [] owN [] [] (λc d H'=>aH H H'/\E c d H') t r) (hm:rr=Ua N.length r) (hn:ps.length=n) :
 aO P w K mg base (cW P w) (k+1) f fd ps (UA cA n (Xp rr) (Y6 rr)):=by
 refine FW (φ:=ZQ r) (χ:=YM r) F S hS hB (λcdv A outer s H E hr => ?_) ?_ ?_ hn
 . obtain⟨t,ht,owN,h⟩:=hbody cdv A outer s H E hr
   exact⟨t,ht,owN,h.v,h.x⟩
 . rw [hm,Gi]
 . rw [hm,Gj]
end
end DL
namespace HT
open PySem PySem.W PySem.Calls PyProof.Rows
def de(P:Params)(x:Str)(t:Nat)(v:jc):DictEntry:=⟨q9 P x,.str x t,v⟩
noncomputable def dO(c:jc)(es:al DictEntry)(n:Nat):Obj:=⟨c,none,.dict es.toArray n,#[]⟩
noncomputable def cO(vs:al jc):Obj:=⟨.type "code",none,.fields vs.toArray,#[]⟩
def fO(x q:Str)(st:qv)(dv kv doc pm:jc)(an:am jf)(cd ct:jc):Obj:=⟨.type "function",none,.func (fnOf x q (L2.ba st) (L2.aN st) (L2.aA st) dv kv doc pm an cd ct),#[]⟩
def c3(x q:Str)(t l a n r:Nat)(r2:Nat)(v w:jc)(r3 k k2:Nat):Obj:=cO [.str x t,.str q (t+1),.str "/claim/cut.py" (t+2),.int l 0,.int a 0,.int 0 0,.int 0 0,.int n 0,.ref r,.bool je,.int 181 0,.ref r2,.none,v,w,.ref r3,.int k 0,.int l 0,.str "/claim/cut.py" k2]
def f3(x q:Str)(st:qv)(m:Str)(t c:Nat):Obj:=fO x q st .none .none .none (.str m t) none (.ref c) .none
def x3(P:Params)(m:Str)(t a b l c d r e n:Nat):Obj:=dO (.type "dict") [de P "__module__" a (.str m t),de P "__firstlineno__" b (.int l c),de P "__static_attributes__" d (.ref r),de P "__doc__" e .none] n
noncomputable def k3(x:Str)(a b n r t u:Nat):Obj:=⟨.type "type",none,.cls ⟨x,[.ref b],[.ref a,.ref b,.type "ValueError",.type "Exception",.type "BaseException",.type "object"],n,x,je,[],[],jj,none,jj⟩,#[ja (.ref r),none,ja (.str x t),ja (.str x u),ja (.builtin "ValueError.__new__"),ja (.bool je)]⟩
def met{α:Type}(_:α):Bool:=je
def Gk(P:Params):BT:=
 ((((((((((BT.nil.ins 0 (boot_o_0 P)).ins 1 (boot_o_1 P)).ins 2 (boot_o_2 P)).ins 3 (boot_o_3 P)).ins 4 (boot_o_4 P)).ins 5 (boot_o_5 P)).ins 6 (boot_o_6 P)).ins 7 (boot_o_7 P)).ins 8 (boot_o_8 P)).ins 9 (boot_o_9 P)).ins 10 (boot_o_10 P)
abbrev S0(w:jV)(os:OsState):jg:=⟨boot_heap w.params,OM [],boot_drawn,boot_toks,os⟩
abbrev nT(w:jV)(os:OsState):SharedT:=⟨Gk w.params,11,(boot_heap w.params).life,OM [],boot_drawn,boot_toks,os⟩
theorem Gm(w:jV)(os:OsState):(nT w os).abs=S0 w os:=rfl
def iM(thr ok:Thread->Bool)(st:SharedT->Thread->am (SharedT×Thread))(n:Nat):SharedT->Thread->am SharedT:=
 @Nat.rec (λ_=>SharedT->Thread->am SharedT) (λ_ _=>none)
  (λ_ ih s t => @Bool.rec (λ_=>am SharedT) (@Bool.rec (λ_=>am SharedT) none (@Option.rec (SharedT×Thread) (λ_=>am SharedT) none (λr=>ih r.1 r.2) (st s t)) (ok t)) (ja s) (thr t)) n
theorem xH{tb:String->am Builtin}{n₀:Nat}{ann:am jc}:∀{n:Nat}{s s':SharedT}{t:Thread},iM through (stepOk n₀ ann) (stepT (denote tb) p w) n s t=ja s'->topRun tb p w n₀ ann n s.abs t=ja s'.abs
 |0,_,_,_,h=>by cases h
 |n+1,s,s',t,h=>by
  replace h : @Bool.rec (λ_=>am SharedT) (@Bool.rec (λ_=>am SharedT) none (@Option.rec (SharedT×Thread) (λ_=>am SharedT) none (λr=>iM through (stepOk n₀ ann) (stepT (denote tb) p w) n r.1 r.2) (stepT (denote tb) p w s t)) (stepOk n₀ ann t)) (ja s) (through t)=ja s':=h;unfold topRun;cases ht:through t with
  |true=>rw [ht]at h;cases h;rfl
  |false=>
   rw [ht]at h;cases hk:stepOk n₀ ann t with
   |false=>rw [hk]at h;cases h
   |true=>
    rw [hk]at h;cases hs:stepT (denote tb) p w s t with
    |none=>rw [hs]at h;cases h
    |some r=>obtain⟨s₂,t₂⟩:=r;rw [hs]at h;rw [stepT_spec hs];exact xH h
theorem Gn {p q:jS} {Xt:jg->Bool} {α:Type} {Yf:jg->α} {Ya:jV->α} {N:Nat}
 (e:opening p=plainProg p.main.scope.names) (hN:Nat.ble 600 N=je) (f:∀s,fenceModules? p s=ja s)
 (run:∀w:jV,(λos=>(iM through (stepOk 11 (ja (.ref 6))) (stepT (denote treeTable) p w) N (nT w os) (topStub p)).map λs=>((staticsOk (importedModules p.main.body) (boot_heap w.params) s.abs.heap&&namesBound p s.abs.heap&&gensDone s.abs&&laidKept (boot_heap w.params) s.abs.heap),
   openSeen q loose (importedModules p.main.body) Xt je s.abs,Yf s.abs))=λ_=>ja (je,openGood q loose,Ya w)):LeftO p q loose Xt Yf Ya N:=λw=>by
 obtain⟨⟨h,gs,d,k,os⟩,e,e'⟩:=ud.mp (boot_open e hN f w);obtain⟨rfl,rfl,rfl,rfl⟩:h=boot_heap w.params/\gs=OM []/\d=boot_drawn/\k=boot_toks:=by simpa using e'
 obtain⟨s1,r,l⟩:=ud.mp (congrFun (run w) os);obtain⟨l1,l2,l3⟩:_/\_/\_:=by simpa only [oa]using l
 have r:=xH r;rw [Gm]at r;have z1:((boot_heap w.params).isNs mainGlobals&&(OM []:Array GenState).size == 0)=true:=by kernel_rfl
 have z2:(boot_heap w.params).objs.size=11:=rfl;have z3:(boot_heap w.params).nsMap mainGlobals "__annotations__" = ja (.ref 6):=by kernel_rfl
 have t:topFrom treeTable p w N (S0 w os)=ja s1.abs:=by
  unfold topFrom;dsimp only;rw [z1,z2,z3,r];show(match staticsOk (importedModules p.main.body) (boot_heap w.params) s1.abs.heap&&namesBound p s1.abs.heap&&gensDone s1.abs&&laidKept (boot_heap w.params) s1.abs.heap with|true=>_|false=>_)=_;rw [l1]
 unfold openEnds;rw [e];show(topFrom treeTable p w N _).map _=_;rw [t];exact congrArg ja (Prod.ext l2 l3)
def U6(p q:jS)(loose:al Str)(Xt:jg->Bool){α:Type}(Yf:jg->α)(Ya:jV->α)(N:Nat)(w:jV):Prop:=
 (λos=>(iM through (stepOk 11 (ja (.ref 6))) (stepT (denote treeTable) p w) N (nT w os) (topStub p)).map λs=>((staticsOk (importedModules p.main.body) (boot_heap w.params) s.abs.heap&&namesBound p s.abs.heap&&gensDone s.abs&&laidKept (boot_heap w.params) s.abs.heap),
   openSeen q loose (importedModules p.main.body) Xt je s.abs,Yf s.abs))=λ_=>ja (je,openGood q loose,Ya w)
theorem gj {p q:jS} {Xt:jg->Bool} {α:Type} {Yf:jg->α} {Ya:jV->α} {N:Nat} (row:String)
 (e:opening p=plainProg p.main.scope.names) (hN:Nat.ble 600 N=je) (f:∀s,fenceModules? p s=ja s)
 (r0:∀w:jV,U6 p q loose Xt Yf Ya N (w.withFollow row jj)) (r1:∀w:jV,U6 p q loose Xt Yf Ya N (w.withFollow row je)):LeftO p q loose Xt Yf Ya N:=
 Gn e hN f λw=>by
  have e:=PySem.World.withFollow_self w row;show U6 p q loose Xt Yf Ya N w;rw [<-e];cases w.params.followText row with
  |false=>exact r0 w
  |true=>exact r1 w
end HT
namespace DL
open PySem PySem.Spec L2
theorem ZZ(i j:Int):bA (.int i) (.int j)=ja (.bl (decide (i=j))):=by
 show(if(ZA (.int i)&&ZA (.int j)&&Vq (V.int i) (V.int j))=je then ja (D.bl (decide (V.int i=V.int j)))else _)=_;rw [if_pos (by rfl)];simp
theorem Z4(a b:al Nat):bA (.str a) (.str b)=ja (.bl (decide (a=b))):=by
 show(if(ZA (.str a)&&ZA (.str b)&&Vq (S a) (S b))=je then ja (D.bl (decide (S a=S b)))else _)=_;rw [if_pos (by rfl)];simp only [B5]
theorem Yj(a b:Bool):bA (.bl a) (.bl b)=ja (.bl (decide (a=b))):=by
 show(if(ZA (.bl a)&&ZA (.bl b)&&Vq (V.bl a) (V.bl b))=je then ja (D.bl (decide (V.bl a=V.bl b)))else _)=_;rw [if_pos (by rfl)];simp
theorem Z8:bA .non .non=ja (.bl je):=rfl
theorem Z9(i:Int):bA .non (.int i)=ja (.bl jj):=by
 show(if(ZA .non&&ZA (.int i)&&Vq V.non (V.int i))=je then ja (D.bl (decide (V.non=V.int i)))else _)=_;rw [if_pos (by rfl)];simp
theorem Yb(i:Int):bA (.int i) .non=ja (.bl jj):=by
 show(if(ZA (.int i)&&ZA .non&&Vq (V.int i) V.non)=je then ja (D.bl (decide (V.int i=V.non)))else _)=_;rw [if_pos (by rfl)];simp
theorem Z5(i j:Int):bU (.int i) (.int j)=ja (.bl (!decide (i=j))):=by unfold bU;rw [ZZ]
theorem Z0(i j:al Nat):bU (.str i) (.str j)=ja (.bl (!decide (i=j))):=by unfold bU;rw [Z4]
theorem Yk:bU .non .non=ja (.bl jj):=by unfold bU;rw [Z8];rfl
theorem Yl(i:Int):bU .non (.int i)=ja (.bl je):=by unfold bU;rw [Z9];rfl
theorem Ym(i:Int):bU (.int i) .non=ja (.bl je):=by unfold bU;rw [Yb];rfl
theorem nU{α:Type}{xs:al α}{i:Int}(h0:0<=i)(h1:i<xs.length):∃x,cR xs i=ja x/\xs[i.toNat]? = ja x:=by
 have hj:i.toNat<xs.length:=by omega
 refine⟨xs[i.toNat],?_,by simp [hj]⟩;have:=gY (xs:=xs) (j:=i.toNat) (v:=xs[i.toNat]) (by simp [hj])
 rwa [yX h0]at this
theorem iN{γ:D->Env->am Env}{ε:Env->am D}(f:D->D):∀(xs:al D),(∀x∈xs,∃δ1,γ x δ0=ja δ1/\ε δ1=ja (f x))->YD γ (λ_=>ja je) ε δ0 xs=ja (xs.map f)
 | [],_=>rfl
 |x::xs,h=>by
  obtain⟨δ1,h1,h2⟩:=h x jr;have ih:=iN f xs λy hy=>h y (jq _ hy)
  unfold YD;rw [h1];dsimp only;rw [h2,ih];rfl
theorem nV{γ:D->Env->am Env}{τ:Env->am Bool}{ε:Env->am D}(p:D->Bool)(f:D->D):∀(xs:al D),(∀x∈xs,∃δ1,γ x δ0=ja δ1/\τ δ1=ja (p x)/\(p x=je->ε δ1=ja (f x)))->YD γ τ ε δ0 xs=ja ((xs.filter p).map f)
 | [],_=>rfl
 |x::xs,h=>by
  obtain⟨δ1,h1,h2,h3⟩:=h x jr;have ih:=nV p f xs λy hy=>h y (jq _ hy)
  unfold YD;rw [h1];dsimp only;rw [h2];cases hp:p x with
  |false=>rw [List.filter_cons_of_neg (by simp [hp])];exact ih
  |true=>
   rw [List.filter_cons_of_pos hp];dsimp only;rw [h3 hp,ih];rfl
theorem Go{lo c:Int}{n i:Nat}{x:D}(h:(YC lo c n)[i]? = ja x):i<n/\x = .int (lo+(i:Nat)*c):=by
 have hi:i<n:=by have:=(jL.mp h).1;simpa [YC]using this
 unfold YC at h;rw [j9,Oz hi]at h;exact⟨hi,(jx h).symm⟩
theorem xI{lo c:Int}{n:Nat}{x:D}(h:x∈YC lo c n):∃i:Nat,i<n/\x = .int (lo+(i:Nat)*c):=by
 obtain⟨i,hi⟩:=yb h;exact⟨i,Go hi⟩
theorem xJ{α:Type}(g:α->Nat):∀xs:al α,strs? (xs.map λx=>D.str [g x])=ja (xs.map λx=>[g x])
 | []=>rfl
 |x::xs=>by rw [jy,strs?,xJ g xs,jy]
theorem xK{α:Type}(g:α->Nat)(xs:al α)(h:xs.length<=jv):cc [] [.lst (xs.map λx=>D.str [g x])]=ja (.str (xs.map g)):=by
 unfold cc;dsimp only;rw [xJ];dsimp only
 have e1:((xs.map λx=>[g x]).map yE).sum=xs.length:=by
  clear h
  induction xs with
  |nil=>rfl
  |cons x xs ih=>
   rw [jy,jy,WE,ih];simp;omega
 rw [if_pos (by rw [e1];simpa using h),sZ]
 congr 2
 clear h e1
 induction xs with
 |nil=>rfl
 |cons x xs ih=>rw [jy,qW,ih];rfl
theorem Gp{i j:Int}(h:a3 i j):bc (.int i) (.int j)=ja (.int (i*j)):=if_pos h
theorem xL{i j:Int}(h:0<j):aK (.int i) (.int j)=ja (.int (i % j)):=if_pos h
theorem xM{i j:Int}(h:ZM i j):aJ (.int i) (.int j)=ja (.int (i / j)):=if_pos h
theorem xN{cs:al Nat}{i:Int}{c:Nat}(h:cs.length<=jv)(hz:cR cs i=ja c):aP (.str cs) (.int i)=ja (.str [c]):=by
 show(if cs.length<=jv then(cR cs i).map λc=>D.str [c]else none)=_;rw [if_pos h,hz];rfl
theorem Gq{i j:Int}(h1:0<=i)(h2:i<1000):a3 i j := .inl ⟨by omega,by omega⟩
theorem xO{i j:Int}(h1:0<j)(h2:j<1000000):ZM i j:=⟨h1,by omega⟩
theorem Zx{a b:Env->am aT}(h:a δ=ja (.nx δ')):Zf a b δ=b δ':=by
 unfold Zf;rw [h]
theorem Zy{i:Nat}{e:Env->am D}{δ:Env}{d:D}(h:e δ=ja d):Zg i e δ=ja (.nx (δ.set i (ja d))):=by
 unfold Zg;rw [h]
theorem Vf{e:Env->am D}{d:D}(h:e δ=ja d):Zm e δ=ja (.rt d):=by
 unfold Zm;rw [h]
theorem VC{t:Env->am Bool}{a b:Env->am aT}(h:t δ=ja je):bp t a b δ=a δ:=by
 unfold bp;rw [h]
theorem YK{t:Env->am Bool}{a b:Env->am aT}(h:t δ=ja jj):bp t a b δ=b δ:=by
 unfold bp;rw [h]
theorem Yt{e:Env->am D}{b:Bool}(h:e δ=ja (.bl b)):xB e δ=ja b:=by
 unfold xB;rw [h];rfl
theorem nW{t:Env->am Bool}{b:Bool}(h:t δ=ja b):ZK t δ=ja (!b):=by
 unfold ZK;rw [h]
theorem UC{a b:Env->am Bool}{x:Bool}(h1:a δ=ja jj)(h2:b δ=ja x):bz a b δ=ja x:=by
 unfold bz;rw [h1];exact h2
theorem nX{a b:Env->am Bool}(h1:a δ=ja je):bz a b δ=ja true:=by
 unfold bz;rw [h1]
theorem iO{a b:Env->am Bool}{x:Bool}(h1:a δ=ja je)(h2:b δ=ja x):ZG a b δ=ja x:=by
 unfold ZG;rw [h1];exact h2
theorem nY{a b:Env->am Bool}(h1:a δ=ja jj):ZG a b δ=ja false:=by
 unfold ZG;rw [h1]
theorem Yy{n:Nat}{m:al D->am D}{α:Env->am (al D)}{ds:al D}(h:α δ=ja ds)(hn:ds.length=n):Zi n m [] α δ=m ds:=by
 unfold Zi;rw [h];dsimp only;rw [qh,if_pos hn]
theorem Zd{a:Env->am D}{b:Env->am (al D)}{x:D}{xs:al D}(h1:a δ=ja x)(h2:b δ=ja xs):Zb a b δ=ja (x::xs):=by
 unfold Zb;rw [h1,h2]
theorem Zq{f:D->D->am D}{a b:Env->am D}{x y:D}(h1:a δ=ja x)(h2:b δ=ja y):aB f a b δ=f x y:=by
 unfold aB;rw [h1,h2]
theorem UD{α:Env->am (al D)}{ds:al D}(h:α δ=ja ds)(hl:ds.length<=1000):ZH α δ=(ja (.tup ds):am D):=by
 unfold ZH;rw [h];exact if_pos (jK hl (by decide))
theorem Xq{α:Env->am (al D)}{ds:al D}(h:α δ=ja ds)(hl:ds.length<=1000):Zl α δ=(ja (.lst ds):am D):=by
 unfold Zl;rw [h];exact if_pos (jK hl (by decide))
theorem xQ{γ:D->Env->am Env}{φ:Env->am aT}(I:Env->Prop):∀(xs:al D)(δ:Env),I δ ->
 (∀x∈xs,∀δ,I δ->∃δ1,γ x δ=ja δ1/\∃δ2,φ δ1=ja (.nx δ2)/\I δ2)->∃δ',YY γ φ xs δ=ja (.nx δ')/\I δ'
 | [],δ,h,_=>⟨δ,rfl,h⟩
 |x::xs,δ,h,step=>by
  obtain⟨δ1,h1,δ2,h2,h3⟩:=step x jr δ h;obtain⟨δ',h4,h5⟩:=xQ I xs δ2 h3 λy hy=>step y (jq _ hy)
  refine⟨δ',?_,h5⟩;unfold YY;rw [h1];dsimp only;rw [h2];exact h4
theorem nZ{α:Env->am (al D)}{j:Int}(h:α δ=ja [.int j])(h1 : -1000000<=j)(h2:j<=1000000):Y8 α δ=ja (YC 0 1 j.toNat):=by
 unfold Y8;rw [h];dsimp only;rw [if_pos ⟨by omega,by omega⟩]
theorem iP{i:Nat}{ε:Env->am D}{δ:Env}{xs:al D}{d:D}(h1:Za i δ=ja (.lst xs))(h2:ε δ=ja d)(hl:xs.length<=1000000):Ut i ε δ=ja (.nx (δ.set i (ja (.lst (xs++[d]))))):=by
 unfold Ut;rw [h1];dsimp only;rw [h2];dsimp only;rw [if_pos (by rw [jo];omega)]
theorem iQ{ι:Env->am (al D)}{xs:al D}{o:aT}(h1:ι δ=ja xs)(h2:YY γ φ xs δ=ja o):Vw ι γ φ δ=ja o:=by
 unfold Vw;rw [h1];exact h2
theorem VD{ι:Env->am (al D)}{n:Nat}{δ δ0:Env}{xs ys:al D}(h1:ι δ=ja xs)(hb:Y9 n δ js=δ0)(h2:YD γ τ ε δ0 xs=ja ys)(hl:ys.length<=1000000):Yr ι γ τ ε n js δ=ja (.lst ys):=by
 unfold Yr;rw [h1];dsimp only;rw [hb,h2];dsimp only;rw [if_pos (by rw [jo];omega)]
theorem n4{f:al Nat->al D->am D}{a:Env->am D}{α:Env->am (al D)}{ds:al D}(h1:a δ=ja (.str s))(h2:α δ=ja ds):bH f a α δ=f s ds:=by
 unfold bH;rw [h1,h2]
theorem YT{f:al D->am D}{α:Env->am (al D)}{ds:al D}(h:α δ=ja ds):aU f α δ=f ds:=by
 unfold aU;rw [h]
theorem Ub{n:Nat}{f:Env->am aT}{vs:al D}{δ:Env}{d:D}(h1:(vs.map ja++jd (n-vs.length) none)=δ)(h2:f δ=ja (.rt d)):DL.run n f vs=ja d:=by
 unfold DL.run;rw [h1,h2]
theorem aC:az δ=ja []:=rfl
theorem n5{t:al (String×Bool)}{a:Env->am D}{d:D}{b:Bool}(h1:a δ=ja d)(h2:ZY t d=ja b):ZI t a δ=ja (.bl b):=by
 unfold ZI;rw [h1];dsimp only;rw [h2]
theorem Gr(hs:ZA x=jj)(h:yS (cI x)=je):bA x x=ja (.bl je):=by
 unfold bA;rw [if_neg (by simp [hs]),h,if_pos (by rfl)];rw [SeqAt.eqv_refl _ (yD h)]
theorem xR(hs:ZA x=jj)(h:yS (cI x)=je):bU x x=ja (.bl jj):=by
 unfold bU;rw [Gr hs h];rfl
theorem Gs{a b:al D}(h:a.length+b.length<=100000):iy (.lst a) (.lst b)=ja (.lst (a++b)):=by
 show(if a.length+b.length<=jv then ja (D.lst (a++b))else none)=_;rw [if_pos (by rw [jo];omega)]
theorem Gu{a:al D}{n:Nat}(h:a.length*n<=100000)(hn:n<=100000):Qu (.lst a) (.int (n:Int))=ja (.lst (jd n a).flatten):=by
 unfold Qu;dsimp only;rw [yj,if_pos ⟨by omega,by omega,by rw [jo];omega⟩]
theorem Xf{xs:al D}{a:Nat}{x:D}(h:xs[a]? = ja x):aP (.lst xs) (.int (a:Int))=ja x:=gY h
theorem cS{xs:al D}{a:Nat}{x:D}(h:xs[a]? = ja x):aP (.tup xs) (.int (a:Int))=ja x:=gY h
theorem Gv{cs:al Int}{a:Nat}(h:a<cs.length):aP (.lst (cs.map D.int)) (.int (a:Int))=ja (.int (cs.getD a 0)):=by
 refine Xf ?_;rw [j9,jQ h,qu,jQ h];rfl
theorem len_str{cs:al Nat}(h:cs.length<=100000):aM [.str cs]=ja (.int (cs.length:Int)):=if_pos (by rw [jo];omega)
theorem bR{xs:al D}:aM [.lst xs]=ja (.int (xs.length:Int)):=rfl
end DL
abbrev EN:=DL.Env
namespace K11
open PySem PySem.Spec L2 DL
noncomputable def aI:al Nat:=[97,98,99,100,101,102,103,104,105,106,107,108,109,110,111,112,113,114,115,116,117,118,119,120,121,122,48,49,50,51,52,53,54,55,56,57]
def n6:al Nat:=[48,49,50,51,52,53,54,55,56,57]
def iR:al String:=["Turn"]
def iS:al String:=["Turn"]
def iT:al String:=["Sum"]
def QN:al String:=["Gap"]
def iU:al String:=["Sum"]
def UE:al String:=["Gap", "Turn"]
def aY:al String:=["Rule", "Gap", "Never", "Sum", "Turn", "Alike", "All"]
def UF:al String:=["Gap", "Alike"]
def iV:al String:=["All"]
def iW:al String:=["Never"]
def iX:al String:=["Sum"]
noncomputable def JB:al (String×Bool):=[("NoneType",jj),("bool",jj),("int",jj),("str",jj),("list",jj),("tuple",jj),("Rule",jj),("Gap",jj),("Never",jj),("Sum",jj),("Turn",jj),("Alike",jj),("All",je)]
noncomputable def JC:al (String×Bool):=[("NoneType",jj),("bool",je),("int",jj),("str",jj),("list",jj),("tuple",jj),("Rule",jj),("Gap",jj),("Never",jj),("Sum",jj),("Turn",jj),("Alike",jj),("All",jj)]
noncomputable def JD:al (String×Bool):=[("NoneType",jj),("bool",je),("int",je),("str",jj),("list",jj),("tuple",jj),("Rule",jj),("Gap",jj),("Never",jj),("Sum",jj),("Turn",jj),("Alike",jj),("All",jj)]
noncomputable def gM:al String:=["BadMarks", "BadRule", "BadRow"]
def ix_GrooveError:al (String×Bool):=gM.zip [je,je,je]
def ix_ValueError:al (String×Bool):=gM.zip [je,je,je]
def ix_BadMarks:al (String×Bool):=gM.zip [je,jj,jj]
def ix_BadRule:al (String×Bool):=gM.zip [jj,je,jj]
def ix_BadRow:al (String×Bool):=gM.zip [jj,jj,je]
def JE:EN->am aT:=
 (Zf (bp (bz (xB (aB (Zv λi j=>decide (i<j)) (aU aM (Zb (Za 0) az)) (eC (.int 2)))) (xB (aB (Zv λi j=>decide (j<i)) (aU aM (Zb (Za 0) az)) (eC (.int 4))))) (Zm (eC (.bl jj))) aL)
 (Zm (aU (Vu λbs=>bs.all id) (Zb (Yr (Z2 (Za 0)) (Zw 0) (λ_=>ja je) (ZS (aB (dD jj) (Za 0) (eC (.str aI))) (aB bA (bH cJ (Za 1) (Zb (Za 0) az)) (eC (.int 1)))) 1 [0]) az))))
def UG:al D->am D:=run 1 JE
def JF:EN->am aT:=
 (Zm (ZS (aB bA (aU aM (Zb (Za 1) az)) (eC (.int 1))) (aB (dD jj) (Za 1) (Za 0))))
def Uc:al D->am D:=run 2 JF
def n8:EN->am aT:=
 (Zf (bp (bz (xB (ZI JC (Za 0))) (ZK (xB (ZI JD (Za 0))))) (Zm (eC (.bl jj))) aL)
 (Zm (ZX (Zv λi j=>decide (i<=j)) (Zv λi j=>decide (i<=j)) (Za 1) (Za 0) (Za 2))))
def XV:al D->am D:=run 3 n8
def xS:EN->am RO:=
 (fF (ZK (xB (Za 0))) (QK "BadRule" (Zb (Za 1) az)) (c8 aL))
def iY:al D->am RD:=QM 2 xS
theorem Xr:∀w,iY [.bl je,.str w]=ja (.ok .non):=λ_=>rfl
theorem Xs:∀w,iY [.bl jj,.str w]=ja (.error "BadRule"):=λ_=>rfl
def xT:EN->am RO:=
 (ZL (fF (ZK (xB (Zi 1 UG [] (Zb (Za 1) az)))) (QK "BadMarks" (Zb (Ji [(eC (.str [109,97,114,107,115,32,97,114,101,32,50,32,116,111,32,52,32,117,110,108,105,107,101,32,115,109,97,108,108,32,108,101,116,116,101,114,115,32,111,114,32,102,105,103,117,114,101,115,44,32,110,111,116,32])),(Jh Jg (Za 1))]) az)) (c8 aL))
 (c8 (ZB 0 aY "marks" (Za 1))))
def YN:al D->am RD:=Ys 2 xT
def f_QZ:EN->am RO:=
 (ZL (YJ 0 2 YN [] (Zb (Za 1) az))
 (ZL (Z7 (Zi 2 Uc [] (Zb (Za 1) (Zb (Za 2) az))))
 (ZL (Z7 (Zi 3 XV [] (Zb (Za 3) (Zb (eC (.int 0)) (Zb (eC (.int 8)) az)))))
 (ZL (Z7 (bZ (ZD (Za 4)) (Zi 3 XV [] (Zb (Za 4) (Zb (Za 3) (Zb (eC (.int 8)) az))))))
 (c8 (Zf (ZB 0 UE "mark" (Za 2))
 (Zf (ZB 0 QN "least" (Za 3))
 (ZB 0 UF "most" (Za 4)))))))))
def XH:al D->am RD:=Ys 5 f_QZ
def n9:EN->am RO:=
 (ZL (YJ 0 2 YN [] (Zb (Za 1) az))
 (ZL (Z7 (ZX (Zv λi j=>decide (i<=j)) (Zv λi j=>decide (i<=j)) (eC (.int 1)) (aU aM (Zb (Za 2) az)) (eC (.int 6))))
 (ZL (Z7 (aU (Vu λbs=>bs.all id) (Zb (Yr (Z2 (Za 2)) (Zw 0) (λ_=>ja je) (Zi 2 Uc [] (Zb (Za 1) (Zb (Za 0) az))) 1 [1]) az)))
 (c8 (ZB 0 iW "word" (Za 2))))))
def Ud:al D->am RD:=Ys 3 n9
def pb:EN->am RO:=
 (ZL (YJ 0 2 YN [] (Zb (Za 1) az))
 (ZL (Z7 (aB bA (aU aM (Zb (Za 2) az)) (aU aM (Zb (Za 1) az))))
 (ZL (Z7 (aU (Vu λbs=>bs.all id) (Zb (Yr (Z2 (Za 2)) (Zw 0) (λ_=>ja je) (Zi 3 XV [] (Zb (Za 0) (Zb (bY ZV (eC (.int 3))) (Zb (eC (.int 3)) az)))) 1 []) az)))
 (ZL (Z7 (Zi 3 XV [] (Zb (Za 3) (Zb (bY ZV (eC (.int 8))) (Zb (eC (.int 0)) az)))))
 (ZL (Z7 (Zi 3 XV [] (Zb (Za 4) (Zb (eC (.int 0)) (Zb (eC (.int 8)) az)))))
 (c8 (Zf (ZB 0 iX "worths" (aU Vv (Zb (Za 2) az)))
 (Zf (ZB 0 iU "low" (Za 3))
 (ZB 0 iT "high" (Za 4))))))))))
def Ue:al D->am RD:=Ys 5 pb
def U7:EN->am RO:=
 (ZL (YJ 0 2 YN [] (Zb (Za 1) az))
 (ZL (Z7 (Zi 2 Uc [] (Zb (Za 1) (Zb (Za 2) az))))
 (ZL (Z7 (Zi 3 XV [] (Zb (Za 3) (Zb (eC (.int 1)) (Zb (eC (.int 6)) az)))))
 (ZL (Z7 (Zi 3 XV [] (Zb (Za 4) (Zb (eC (.int 0)) (Zb (aB bi (Za 3) (eC (.int 1))) az)))))
 (c8 (Zf (ZB 0 UE "mark" (Za 2))
 (Zf (ZB 0 iS "every" (Za 3))
 (ZB 0 iR "at" (Za 4)))))))))
def XW:al D->am RD:=Ys 5 U7
def JG:EN->am RO:=
 (ZL (YJ 0 2 YN [] (Zb (Za 1) az))
 (ZL (Z7 (Zi 3 XV [] (Zb (Za 2) (Zb (eC (.int 1)) (Zb (eC (.int 6)) az)))))
 (c8 (ZB 0 UF "most" (Za 2)))))
def Vg:al D->am RD:=Ys 3 JG
def pc:EN->am RO:=
 (ZL (YJ 0 2 YN [] (Zb (Za 1) az))
 (ZL (Z7 (aB (Zv λi j=>decide (i<=j)) (aU aM (Zb (Za 2) az)) (eC (.int 6))))
 (ZL (Z7 (ZT (aU (Vu λbs=>bs.any id) (Zb (Yr (Z2 (Za 2)) (Zw 0) (λ_=>ja je) (ZI JB (Za 0)) 1 []) az))))
 (ZL (Z7 (aU (Vu λbs=>bs.all id) (Zb (Yr (Z2 (Za 2)) (Zw 0) (λ_=>ja je) (aB bA (ZU aY "marks" (Za 0)) (Za 1)) 1 [1]) az)))
 (c8 (ZB 0 iV "rules" (aU Vv (Zb (Za 2) az))))))))
def Vh:al D->am RD:=Ys 3 pc
def pe:EN->am aT:=
 (Zf (Zg 1 (aB aP (bH bW (Za 0) (Zb (eC (.str [35])) az)) (eC (.int 0))))
 (Zm (Yr (Z2 (bH cE (Za 1) (Zb (eC (.str [32])) az))) (Zw 0) (xB (aB bU (Za 0) (eC (.str [])))) (Za 0) 1 [])))
def iZ:al D->am D:=run 2 pe
def pf:EN->am aT:=(Zf (Zg 4 (Zi 1 iZ [] (Zb (Za 3) az))) (bp (xB (aB (Zv λi j=>decide (j<i)) (aU aM (Zb (Za 4) az)) (eC (.int 0)))) (Ut 1 (ZH (Zb (Za 2) (Zb (Za 4) az)))) aL))
def xU:EN->am aT:=(Zf (Zg 1 (Zl az)) (Zf (Vw (Jk (bH cE (Za 0) (Zb (eC (.str [10])) az))) (Xd 2 (Yh 2 (Yh 3 bG))) pf) (Zm (Za 1))))
def i0:al D->am D:=run 5 xU
def xV:EN->am aT:=
 (Zf (bp (bz (xB (aB (Zv λi j=>decide (i<j)) (aU aM (Zb (Za 0) az)) (eC (.int 1)))) (xB (aB (Zv λi j=>decide (j<i)) (aU aM (Zb (Za 0) az)) (Za 1)))) (Zm (eC .non)) aL)
 (Zf (bp (ZK (xB (aU (Vu λbs=>bs.all id) (Zb (Yr (Z2 (Za 0)) (Zw 0) (λ_=>ja je) (aB (dD jj) (Za 0) (eC (.str n6))) 1 []) az)))) (Zm (eC .non)) aL)
 (Zf (bp (ZG (xB (aB (Zv λi j=>decide (j<i)) (aU aM (Zb (Za 0) az)) (eC (.int 1)))) (xB (aB bA (aB aP (Za 0) (eC (.int 0))) (eC (.str [48]))))) (Zm (eC .non)) aL)
 (Zm (aU intD (Zb (Za 0) az))))))
def xW:al D->am D:=run 2 xV
def xX:EN->am aT:=
 (Zm (Zi 2 xW [] (Zb (Za 0) (Zb (eC (.int 2)) az))))
def VH:al D->am D:=run 1 xX
def xY:EN->am aT:=
 (Zf (bp (ZK (xB (bH dj (Za 0) (Zb (eC (.str [45])) az)))) (Zm (Zi 1 VH [] (Zb (Za 0) az))) aL)
 (Zf (Zg 1 (Zi 1 VH [] (Zb (bq (Za 0) (xP (eC (.int 1))) aS) az)))
 (Zm (b9 (bz (xB (ZD (Za 1))) (xB (aB bA (Za 1) (eC (.int 0))))) (eC .non) (bY ZV (Za 1))))))
def JH:al D->am D:=run 2 xY
def f_QX:EN->am aT:=
 (Zf (bp (xB (aB bU (aU aM (Zb (Za 0) az)) (eC (.int 4)))) (Zm (eC .non)) aL)
 (Zf (Zg 1 (Zi 1 VH [] (Zb (aB aP (Za 0) (eC (.int 2))) az)))
 (Zf (Zg 2 (Zi 1 VH [] (Zb (aB aP (Za 0) (eC (.int 3))) az)))
 (bp (bz (xB (ZD (Za 1))) (ZG (xB (ZD (Za 2))) (xB (aB bU (aB aP (Za 0) (eC (.int 3))) (eC (.str [97,110,121])))))) (Zm (eC .non)) aL))))
def i4:al D->am D:=Vx 3 f_QX 0 [0,1,2]
def f_QE:EN->am aT:=
 (bp (xB (aB bU (aU aM (Zb (Za 0) az)) (eC (.int 2)))) (Zm (eC .non)) aL)
def ph:al D->am D:=Vx 1 f_QE 1 [0]
def f_QY:EN->am aT:=
 (Zf (bp (xB (aB (Zv λi j=>decide (i<j)) (aU aM (Zb (Za 0) az)) (eC (.int 3)))) (Zm (eC .non)) aL)
 (Zf (Zg 1 (Yr (Z2 (bq (Za 0) (xP (eC (.int 1))) aS)) (Zw 0) (λ_=>ja je) (Zi 1 JH [] (Zb (Za 0) az)) 1 []))
 (bp (xB (aB (dD jj) (eC .non) (Za 1))) (Zm (eC .non)) aL)))
def pi:al D->am D:=Vx 2 f_QY 2 [1]
def f_QL:EN->am aT:=
 (Zf (bp (xB (aB bU (aU aM (Zb (Za 0) az)) (eC (.int 4)))) (Zm (eC .non)) aL)
 (Zf (Zg 1 (Zi 1 VH [] (Zb (aB aP (Za 0) (eC (.int 2))) az)))
 (Zf (Zg 2 (Zi 1 VH [] (Zb (aB aP (Za 0) (eC (.int 3))) az)))
 (bp (bz (xB (ZD (Za 1))) (xB (ZD (Za 2)))) (Zm (eC .non)) aL))))
def i5:al D->am D:=Vx 3 f_QL 3 [0,1,2]
def f_QI:EN->am aT:=
 (Zf (bp (xB (aB bU (aU aM (Zb (Za 0) az)) (eC (.int 2)))) (Zm (eC .non)) aL)
 (Zf (Zg 1 (Zi 1 VH [] (Zb (aB aP (Za 0) (eC (.int 1))) az)))
 (bp (xB (ZD (Za 1))) (Zm (eC .non)) aL)))
def pj:al D->am D:=Vx 2 f_QI 4 [1]
def bh:cL:=[([103,97,112],1,i4),([110,101,118,101,114],1,ph),([115,117,109],1,pi),([116,117,114,110],1,i5),([97,108,105,107,101],1,pj)]
def i6:EN->am aT:=
 (Zf (bp (xB (Jo bh (aB aP (Za 0) (eC (.int 0))))) (Zm (eC .non)) aL)
 (iG 1 bh (aB aP (Za 0) (eC (.int 0))) (Zb (Za 0) az)))
def Xy:al D->am D:=run 2 i6
def pk:EN->am cu:=
 (YS (VB (xB (aB bA (aU aM (Zb (Za 0) az)) (eC (.int 0)))) (UB "BadRow" (Zb (eC (.int 1)) az)) (Xx aL))
 (YS (Xx (Zg 1 (aB aP (aB aP (Za 0) (eC (.int 0))) (eC (.int 1)))))
 (YS (VB (bz (xB (aB bU (aB aP (Za 1) (eC (.int 0))) (eC (.str [109,97,114,107,115])))) (xB (aB bU (aU aM (Zb (Za 1) az)) (eC (.int 2))))) (UB "BadRow" (Zb (aB aP (aB aP (Za 0) (eC (.int 0))) (eC (.int 0))) az)) (Xx aL))
 (Xx (Zm (aB aP (Za 1) (eC (.int 1))))))))
def Xg:al D->am eQ:=Ua 2 pk
def i7:EN->am D:=
 (ZN "Gap" 5 (bQ XH) [] (Zb (Za 0) (Zb (aB aP (Za 1) (eC (.int 1))) (Zb (Za 2) (Zb (Za 3) az)))))
def pp:al D->am D:=Qy 4 i7
def i8:EN->am String:=
 (Vd "Gap" 5 (bO XH) [] (Zb (Za 0) (Zb (aB aP (Za 1) (eC (.int 1))) (Zb (Za 2) (Zb (Za 3) az)))))
def pq:al D->am String:=X2 4 i8
def i9:EN->am D:=
 (ZN "Never" 3 (bQ Ud) [] (Zb (Za 0) (Zb (aB aP (Za 1) (eC (.int 1))) az)))
def pr:al D->am D:=Qy 2 i9
def ka:EN->am String:=
 (Vd "Never" 3 (bO Ud) [] (Zb (Za 0) (Zb (aB aP (Za 1) (eC (.int 1))) az)))
def pw:al D->am String:=X2 2 ka
def kb:EN->am D:=
 (ZN "Sum" 5 (bQ Ue) [] (Zb (Za 0) (Zb (aU Vv (Zb (bq (Za 1) (xP (eC (.int 2))) aS) az)) (Zb (aB aP (Za 1) (eC (.int 0))) (Zb (aB aP (Za 1) (eC (.int 1))) az)))))
def px:al D->am D:=Qy 2 kb
def kc:EN->am String:=
 (Vd "Sum" 5 (bO Ue) [] (Zb (Za 0) (Zb (aU Vv (Zb (bq (Za 1) (xP (eC (.int 2))) aS) az)) (Zb (aB aP (Za 1) (eC (.int 0))) (Zb (aB aP (Za 1) (eC (.int 1))) az)))))
def py:al D->am String:=X2 2 kc
def ke:EN->am D:=
 (ZN "Turn" 5 (bQ XW) [] (Zb (Za 0) (Zb (aB aP (Za 1) (eC (.int 1))) (Zb (Za 2) (Zb (Za 3) az)))))
def pz:al D->am D:=Qy 4 ke
def kf:EN->am String:=
 (Vd "Turn" 5 (bO XW) [] (Zb (Za 0) (Zb (aB aP (Za 1) (eC (.int 1))) (Zb (Za 2) (Zb (Za 3) az)))))
def pA:al D->am String:=X2 4 kf
def kg:EN->am D:=
 (ZN "Alike" 3 (bQ Vg) [] (Zb (Za 0) (Zb (Za 1) az)))
def pB:al D->am D:=Qy 2 kg
def kh:EN->am String:=
 (Vd "Alike" 3 (bO Vg) [] (Zb (Za 0) (Zb (Za 1) az)))
def pC:al D->am String:=X2 2 kh
def bo:c7:=[(0,1,pp,pq),(1,1,pr,pw),(2,1,px,py),(3,1,pz,pA),(4,1,pB,pC)]
def fb:EN->am cu:=(YS (Xx (Zg 6 (Zi 1 Xy [] (Zb (Za 5) az)))) (YS (VB (xB (ZD (Za 6))) (UB "BadRow" (Zb (Za 4) az)) (Xx aL)) (Xx (Ut 3 (Za 6)))))
def dN:EN->am D:=(Jy 0 bo (Zb (Za 1) az))
def fe:EN->am String:=(QI 0 bo (Zb (Za 1) az))
def gN:EN->am cu:=(X4 (Zm (ZN "All" 3 (bQ Vh) [] (Zb (Za 2) (Zb (Yr (Z2 (Za 3)) (Zw 0) (λ_=>ja je) dN 1 [2]) az)))) (gx (U4 (U3 (Za 2) (V3 (Z2 (Za 3)) (Zw 0) (λ_=>ja je) dN fe 1 [2])) (Vd "All" 3 (bO Vh) [] (Zb (Za 2) (Zb (Yr (Z2 (Za 3)) (Zw 0) (λ_=>ja je) dN 1 [2]) az))))))
def pD:EN->am cu:=(YS (Xx (Zg 1 (Zi 1 i0 [] (Zb (Za 0) az)))) (YS (X4 (Zg 2 (Zi 1 (Xp Xg) [] (Zb (Za 1) az))) (Ve 1 (Y6 Xg) [] (Zb (Za 1) az))) (YS (Xx (Zg 3 (Zl az))) (YS (V9 (Z2 (bq (Za 1) (xP (eC (.int 1))) aS)) (Xd 2 (Yh 4 (Yh 5 bG))) fb) gN))))
def YU:al D->am eQ:=Ua 7 pD
def ki:EN->am aT:=
 (Zf (bp (xB (aB (Zv λi j=>decide (i<j)) (Za 1) (aU aM (Zb (Za 0) az)))) (Zm (aB aP (Za 0) (Za 1))) aL)
 (Zm (eC (.int 0))))
def U8:al D->am D:=run 2 ki
def pE:EN->am aT:=
 (Zf (Zg 1 (eC (.str [97,98,99,100,101,102,103,104,105,106,107,108,109,110,111,112,113,114,115,116,117,118,119,120,121,122,48,49,50,51,52,53,54,55,56,57])))
 (Zf (Zg 2 (aB aE (eC (.int 1)) (aB aK (aB aJ (Za 0) (eC (.int 36))) (eC (.int 11)))))
 (Zm (bH cc (eC (.str [])) (Zb (Yr (Y8 (Zb (aB aE (eC (.int 2)) (aB aK (aB aJ (Za 0) (eC (.int 396))) (eC (.int 3)))) az)) (Zw 0) (λ_=>ja je) (aB aP (Za 1) (aB aK (aB aE (Za 2) (aB bc (Za 0) (Za 3))) (eC (.int 36)))) 1 [1,0,2]) az)))))
def JI:al D->am D:=run 3 pE
def pF:XC->EN->am aT:=(Jv ["BadRow"] ["BadMarks", "BadRule"] 4 (Zf (Zg 1 (eC (.str [114,111,119]))) (Zf (Zg 2 (nJ ["BadRow"] (Za 4))) (Zg 3 (Zl (Zb (Uz ix_GrooveError (Za 4)) (Zb (Uz ix_ValueError (Za 4)) (Zb (Js [ix_BadMarks,ix_BadRule] (Za 4)) az))))))) (Jv ["BadMarks"] ["BadRule"] 4 (Zf (Zg 1 (eC (.str [109,97,114,107,115]))) (Zg 3 (Zl (Zb (Uz ix_GrooveError (Za 4)) (Zb (Uz ix_ValueError (Za 4)) (Zb (Js [ix_BadRow,ix_BadRule] (Za 4)) az)))))) (Jv ["BadRule"] [] 4 (Zf (Zg 1 (eC (.str [114,117,108,101]))) (Zg 3 (Zl (Zb (Uz ix_GrooveError (Za 4)) (Zb (Uz ix_ValueError (Za 4)) (Zb (Js [ix_BadMarks,ix_BadRow] (Za 4)) az)))))) fX)))
def xZ:EN->am aT:=(Zf (bp (ZG (xB (aB bU (Za 1) (eC (.str [114,101,97,100])))) (xB (aB bU (Za 3) (Zl (Zb (eC (.bl je)) (Zb (eC (.bl je)) (Zb (eC (.bl jj)) az))))))) (Zg 1 (eC (.str [111,116,104,101,114]))) aL) (Zm (ZH (Zb (Za 1) (Zb (Za 2) az)))))
def pG:EN->am aT:=(Zf (Zg 1 (eC (.str [114,101,97,100]))) (Zf (Zg 2 (eC (.int 0))) (Zf (Zg 3 (Zl az)) (Zf (QH (ZP (Zi 1 (Xp YU) [] (Zb (Za 0) az))) (Ve 1 (Y6 YU) [] (Zb (Za 0) az)) ["BadMarks", "BadRow", "BadRule"] pF) xZ))))
def X5:al D->am D:=run 5 pG
def x0:EN->am aT:=
 (Zf (Zg 2 (bq (Za 0) aS (xP (eC (.int 1)))))
 (Zf (Zg 3 (Zl (Zb (eC (.str [109,97,114,107,32,48,49])) (Zb (eC (.str [77,97,114,107,115,32,48,49])) (Zb (eC (.str [109,97,114,107,115])) (Zb (eC (.str [109,97,114,107,115,32,48,49,32,97,98])) (Zb (eC (.str [103,97,112])) (Zb (aB aE (eC (.str [103,97,112,32])) (Za 2)) (Zb (aB aE (aB aE (eC (.str [103,97,112,32])) (Za 2)) (eC (.str [32,49]))) az)))))))))
 (Zf (Zg 3 (aB Yx (Za 3) (Zl (Zb (eC (.str [110,101,118,101,114])) (Zb (eC (.str [115,117,109])) (Zb (eC (.str [115,117,109,32,48])) (Zb (aB aE (aB aE (eC (.str [103,97,112,32])) (Za 2)) (eC (.str [32,49,32,50,32,51]))) (Zb (aB aE (aB aE (eC (.str [103,97,112,32])) (Za 2)) (eC (.str [32,120,32,50]))) az))))))))
 (Zf (Zg 3 (aB Yx (Za 3) (Zl (Zb (aB aE (aB aE (eC (.str [103,97,112,32])) (Za 2)) (eC (.str [32,49,32,65,110,121]))) (Zb (aB aE (aB aE (eC (.str [103,97,112,32])) (Za 2)) (eC (.str [32,45,49,32,50]))) (Zb (aB aE (aB aE (eC (.str [103,97,112,32])) (Za 2)) (eC (.str [32,48,49,32,50]))) az))))))
 (Zf (Zg 3 (aB Yx (Za 3) (Zl (Zb (aB aE (aB aE (eC (.str [103,97,112,32])) (Za 2)) (eC (.str [32,49,32,49,48,48]))) (Zb (aB aE (aB aE (aB aE (eC (.str [110,101,118,101,114,32])) (Za 2)) (eC (.str [32]))) (Za 2)) (Zb (eC (.str [115,117,109,32,48,32,120])) (Zb (eC (.str [115,117,109,32,48,32,49,32,45,45,49])) az)))))))
 (Zf (Zg 3 (aB Yx (Za 3) (Zl (Zb (eC (.str [115,117,109,32,48,32,49,32,45,48,32,49])) (Zb (eC (.str [115,117,109,32,48,32,49,32,43,49,32,49])) (Zb (eC (.str [115,117,109,32,48,32,49,32,49,95,48,32,49])) (Zb (aB aE (eC (.str [116,117,114,110,32])) (Za 2)) (Zb (aB aE (aB aE (eC (.str [116,117,114,110,32])) (Za 2)) (eC (.str [32,50]))) az))))))))
 (Zf (Zg 3 (aB Yx (Za 3) (Zl (Zb (eC (.str [97,108,105,107,101])) (Zb (eC (.str [97,108,105,107,101,32,120])) (Zb (aB aE (aB aE (eC (.str [116,117,114,110,32])) (Za 2)) (eC (.str [32,50,32,48,32,48]))) (Zb (aB aE (aB aE (eC (.str [116,117,114,110,32])) (Za 2)) (eC (.str [32,50,32,45,49]))) (Zb (eC (.str [97,108,105,107,101,32,49,32,49])) az))))))))
 (Zf (Zg 3 (aB Yx (Za 3) (Zl (Zb (eC (.str [97,108,105,107,101,32,48,49])) (Zb (eC (.str [97,108,105,107,101,32,49,48,48])) (Zb (eC (.str [97,108,105,107,101,32,45,49])) (Zb (eC (.str [97,110,121])) (Zb (eC (.str [48])) (Zb (eC (.str [97,108,108])) (Zb (aB aE (aB aE (eC (.str [103,97,112,32])) (Za 2)) (eC (.str [32,97,110,121,32,50]))) az))))))))))
 (Zm (aB aP (Za 3) (aB aK (Za 1) (aU aM (Zb (Za 3) az)))))))))))))
def U9:al D->am D:=run 4 x0
def zc:EN->am aT:=
 (Zf (Zg 2 (Yr (Z2 (eC (.str [97,98,99,100,101,102,103,104,105,106,107,108,109,110,111,112,113,114,115,116,117,118,119,120,121,122,48,49,50,51,52,53,54,55,56,57]))) (Zw 0) (xB (aB (dD je) (Za 0) (Za 1))) (Za 0) 1 [0]))
 (Zm (aB aP (Za 2) (aB aK (Za 1) (aU aM (Zb (Za 2) az))))))
def pH:al D->am D:=run 3 zc
def gO:EN->am aT:=(Zf (Zg 4 (aB bc (eC (.str [32,48])) (aU aM (Zb (Za 0) az)))) (Zf (Zg 5 (Zl (Zb (eC (.str [103,97,112,32,45,32,49,32,50])) (Zb (aB aE (aB aE (eC (.str [103,97,112,32])) (Za 0)) (eC (.str [32,49,32,50]))) (Zb (aB aE (aB aE (eC (.str [103,97,112,32])) (Za 2)) (eC (.str [32,57,32,97,110,121]))) (Zb (aB aE (aB aE (eC (.str [103,97,112,32])) (Za 2)) (eC (.str [32,51,32,50]))) az)))))) (Zf (Zg 5 (aB Yx (Za 5) (Zl (Zb (aB aE (aB aE (eC (.str [103,97,112,32])) (Za 2)) (eC (.str [32,49,32,57]))) (Zb (aB aE (eC (.str [110,101,118,101,114,32])) (aB bc (Za 2) (eC (.int 7)))) (Zb (eC (.str [110,101,118,101,114,32,65])) (Zb (aB aE (aB aE (eC (.str [110,101,118,101,114,32])) (Za 2)) (eC (.str [45]))) (Zb (eC (.str [115,117,109,32,48,32,49])) az)))))))) (Zf (Zg 5 (aB Yx (Za 5) (Zl (Zb (aB aE (aB aE (eC (.str [115,117,109,32,48,32,49])) (Za 4)) (eC (.str [32,48]))) (Zb (aB aE (eC (.str [115,117,109,32,49,32,50])) (Za 4)) (Zb (aB aE (eC (.str [115,117,109,32,48,32,45,49])) (Za 4)) (Zb (aB aE (eC (.str [115,117,109,32,45,57,32,48])) (Za 4)) az))))))) (Zf (Zg 5 (aB Yx (Za 5) (Zl (Zb (aB aE (eC (.str [115,117,109,32,48,32,57])) (Za 4)) (Zb (aB aE (eC (.str [115,117,109,32,48,32,49,32,52])) (bq (Za 4) (xP (eC (.int 2))) aS)) (Zb (aB aE (eC (.str [115,117,109,32,48,32,49,32,45,52])) (bq (Za 4) (xP (eC (.int 2))) aS)) (Zb (eC (.str [116,117,114,110,32,45,32,50,32,48])) az))))))) (Zf (Zg 5 (aB Yx (Za 5) (Zl (Zb (aB aE (aB aE (eC (.str [116,117,114,110,32])) (Za 2)) (eC (.str [32,48,32,48]))) (Zb (aB aE (aB aE (eC (.str [116,117,114,110,32])) (Za 2)) (eC (.str [32,55,32,48]))) (Zb (aB aE (aB aE (eC (.str [116,117,114,110,32])) (Za 2)) (eC (.str [32,50,32,50]))) (Zb (eC (.str [97,108,105,107,101,32,48])) az))))))) (Zf (Zg 5 (aB Yx (Za 5) (Zl (Zb (eC (.str [97,108,105,107,101,32,55])) (Zb (eC (.str [97,108,105,107,101,32,49,48])) (Zb (eC (.str [97,108,105,107,101,32,57,57])) (Zb (aB aE (aB aE (eC (.str [116,117,114,110,32])) (Za 2)) (eC (.str [32,49,50,32,48]))) (Zb (aB aE (aB aE (eC (.str [103,97,112,32])) (Za 2)) (eC (.str [32,49,48,32,50,48]))) az)))))))) (Zf (Zg 5 (aB Yx (Za 5) (Zl (Zb (aB aE (aB aE (eC (.str [103,97,112,32])) (Za 3)) (eC (.str [32,49,32,50]))) (Zb (aB aE (aB aE (eC (.str [116,117,114,110,32])) (Za 3)) (eC (.str [32,50,32,48]))) (Zb (aB aE (eC (.str [110,101,118,101,114,32])) (Za 3)) az)))))) (Zf (Zg 5 (aB Yx (Za 5) (Zl (Zb (aB aE (aB aE (eC (.str [110,101,118,101,114,32])) (Za 2)) (Za 3)) (Zb (aB aE (aB aE (eC (.str [103,97,112,32])) (Za 3)) (eC (.str [32,48,32,97,110,121]))) (Zb (aB aE (aB aE (eC (.str [110,101,118,101,114,32])) (Za 3)) (Za 2)) az)))))) (Zm (aB aP (Za 5) (aB aK (Za 1) (aU aM (Zb (Za 5) az))))))))))))))
def zd:EN->am aT:=(Zf (Zg 2 (bq (Za 0) aS (xP (eC (.int 1))))) (Zf (Zg 3 (Zi 2 pH [] (Zb (Za 0) (Zb (aB aJ (Za 1) (eC (.int 60))) az)))) gO))
def pI:al D->am D:=run 6 zd
def ze:EN->am aT:=
 (Vc (Zg 2 (aB aP (Za 0) (aB aK (aB aP (Za 1) (eC (.int 1))) (aU aM (Zb (Za 0) az)))))
 (Vc (Zg 3 (Zl (Zb (aB aE (aB aE (aB aE (aB aE (eC (.str [103,97,112,32])) (Za 2)) (eC (.str [32]))) (aU dk (Zb (aB aK (aB aP (Za 1) (eC (.int 1))) (eC (.int 4))) az))) (eC (.str [32,97,110,121]))) (Zb (aB aE (aB aE (aB aE (eC (.str [103,97,112,32])) (Za 2)) (eC (.str [32,49,32]))) (aU dk (Zb (aB aE (eC (.int 1)) (aB aK (aB aP (Za 1) (eC (.int 1))) (eC (.int 8)))) az))) az))))
 (Vc (Zg 4 (Yr (Y8 (Zb (aB aE (eC (.int 1)) (aB aK (aB aP (Za 1) (eC (.int 2))) (eC (.int 4)))) az)) (Zw 0) (λ_=>ja je) (aB aP (Za 1) (aB aK (aB aJ (aB aP (Za 2) (eC (.int 2))) (aB aP (Zl (Zb (eC (.int 1)) (Zb (eC (.int 4)) (Zb (eC (.int 16)) (Zb (eC (.int 64)) az))))) (Za 0))) (aU aM (Zb (Za 1) az)))) 1 [0,1]))
 (Vc (Jj 3 (Zl (Zb (eC (.str [97,108,105,107,101,32,50])) (Zb (aB aE (eC (.str [110,101,118,101,114,32])) (bH cc (eC (.str [])) (Zb (Za 4) az))) az))))
 (Vc (Ut 3 (aB aE (aB aE (aB aE (aB aE (eC (.str [115,117,109,32,45])) (aU dk (Zb (aB aE (eC (.int 1)) (aB aK (aB aP (Za 1) (eC (.int 2))) (eC (.int 8)))) az))) (eC (.str [32]))) (aU dk (Zb (aB aK (aB aP (Za 1) (eC (.int 1))) (eC (.int 9))) az))) (aB bc (eC (.str [32,49])) (aU aM (Zb (Za 0) az)))))
 (Vc (Ut 3 (aB aE (aB aE (aB aE (aB aE (eC (.str [116,117,114,110,32])) (Za 2)) (eC (.str [32]))) (aU dk (Zb (aB aE (eC (.int 1)) (aB aK (aB aP (Za 1) (eC (.int 2))) (eC (.int 6)))) az))) (eC (.str [32,48]))))
 (Vc (Zg 5 (aB aK (aB aJ (aB aP (Za 1) (eC (.int 1))) (eC (.int 45))) (eC (.int 6))))
 (Zm (V1 (aB Yx (V1 (Za 3) (xP (Za 5)) aS) (V1 (Za 3) aS (xP (Za 5)))) aS (xP (aB aE (eC (.int 1)) (aB aK (aB aJ (aB aP (Za 1) (eC (.int 1))) (eC (.int 9))) (eC (.int 5))))))))))))))
def pJ:al D->am D:=gh 6 ze
def zf:EN->am aT:=(bp (xB (aB bA (aB aK (aB aP (Za 1) (eC (.int 3))) (eC (.int 4))) (eC (.int 1)))) (Zf (QJ 4 (aB aK (aB aJ (aB aP (Za 1) (eC (.int 3))) (eC (.int 4))) (aB aE (aU aM (Zb (Za 4) az)) (eC (.int 1)))) (Zi 2 pI [] (Zb (Za 0) (Zb (aB aJ (aB aP (Za 1) (eC (.int 3))) (eC (.int 28))) az)))) (Zg 3 (eC (.str [114,117,108,101])))) aL)
def kj:EN->am aT:=(bp (ZG (xB (aB bA (aB aK (aB aP (Za 1) (eC (.int 3))) (eC (.int 4))) (eC (.int 3)))) (xB (aB bA (aB aK (aB aJ (aB aP (Za 1) (eC (.int 2))) (eC (.int 24))) (eC (.int 3))) (eC (.int 1))))) (Zf (Zg 4 (aB Yx (Za 4) (aB Qv (Zl (Zb (eC (.str [97,108,105,107,101,32,51])) az)) (aB bi (eC (.int 7)) (aU aM (Zb (Za 4) az)))))) (Zg 3 (eC (.str [114,117,108,101])))) aL)
def zg:EN->am aT:=(bp (bz (xB (aB bA (aB aK (aB aP (Za 1) (eC (.int 3))) (eC (.int 4))) (eC (.int 2)))) (xB (aB bA (aB aK (aB aP (Za 1) (eC (.int 3))) (eC (.int 28))) (eC (.int 5))))) (Zf (Zg 2 (aB aP (Zl (Zb (eC (.str [97])) (Zb (eC (.str [97,98,99,100,101])) (Zb (eC (.str [97,97])) (Zb (eC (.str [97,66])) (Zb (eC (.str [97,45,98])) (Zb (eC (.str [48,95])) az))))))) (aB aK (aB aJ (aB aP (Za 1) (eC (.int 3))) (eC (.int 28))) (eC (.int 6))))) (Zg 3 (eC (.str [109,97,114,107,115])))) aL)
def zh:EN->am aT:=(bp (xB (aB bA (aB aK (aB aJ (aB aP (Za 1) (eC (.int 0))) (eC (.int 4))) (eC (.int 3))) (eC (.int 1)))) (QJ 4 (aB aE (eC (.int 1)) (aB aK (aB aJ (aB aP (Za 1) (eC (.int 2))) (eC (.int 72))) (aU aM (Zb (Za 4) az)))) (aB aP (Zl (Zb (eC (.str [])) (Zb (eC (.str [32,35,32,97,108,105,107,101,32,49])) (Zb (eC (.str [32,32,32])) az)))) (aB aK (aB aJ (aB aP (Za 1) (eC (.int 2))) (eC (.int 9))) (eC (.int 3))))) aL)
def Gx:EN->am aT:=(Zm (ZH (Zb (aB Yx (bq (Zl (Zb (eC (.str [])) (Zb (eC (.str [35,32,109,97,114,107,115])) (Zb (eC (.str [32,32])) az)))) aS (xP (aB aK (aB aP (Za 1) (eC (.int 0))) (eC (.int 4))))) (Za 4)) (Zb (Za 3) (Zb (aB aK (aB aP (Za 1) (eC (.int 0))) (eC (.int 4))) az)))))
def zi:EN->am aT:=(Zf (Zg 2 (Za 0)) (Zf (Zg 3 (eC (.str [114,101,97,100]))) (Zf (Zg 4 (Zi 2 pJ [] (Zb (Za 0) (Zb (Za 1) az)))) (Zf zf (Zf kj (Zf zg (Zf (Zg 4 (aB Yx (Zl (Zb (aB aE (eC (.str [109,97,114,107,115,32])) (Za 2)) az)) (Za 4))) (Zf zh Gx))))))))
def pL:al D->am D:=run 5 zi
def zj:EN->am aT:=(bp (xB (aB bA (aB aK (aB aJ (aB aP (Za 3) (aB aE (eC (.int 5)) (Za 6))) (eC (.int 12))) (eC (.int 45))) (eC (.int 44)))) (Zf (Zg 7 (aU bn (Zb (Za 7) (Zb (aB aE (Za 1) (eC (.int 1))) az)))) (Zg 8 (aB aE (eC (.str [109,97,114,107,115,32])) (Za 2)))) (bp (xB (aB bA (aB aK (aB aJ (aB aP (Za 3) (aB aE (eC (.int 5)) (Za 6))) (eC (.int 12))) (eC (.int 45))) (eC (.int 43)))) (Zf (Zg 7 (aU bj (Zb (Za 7) (Zb (Za 1) az)))) (Zg 8 (eC (.str [97,108,105,107,101,32,49])))) aL))
def kl:EN->am aT:=(bp (bz (xB (aB bA (Za 6) (eC (.int 0)))) (xB (aB (Zv λi j=>decide (i<j)) (Za 7) (Za 5)))) (Zf (Zg 5 (aB aE (Za 7) (eC (.int 1)))) (Zg 4 (aB Yx (aB Yx (bq (Za 0) aS (xP (Za 7))) (Zl (Zb (Za 8) az))) (bq (Za 4) (xP (Za 7)) aS)))) (Zg 4 (aB Yx (aB Yx (bq (Za 4) aS (xP (aB aE (Za 7) (eC (.int 1))))) (Zl (Zb (Za 8) az))) (bq (Za 4) (xP (aB aE (Za 7) (eC (.int 1)))) aS))))
def km:EN->am aT:=(Zf (Zg 7 (aB aK (aB aP (Za 3) (aB aE (eC (.int 5)) (Za 6))) (aB aE (aU aM (Zb (Za 0) az)) (eC (.int 1))))) (Zf (Zg 8 (Zi 2 U9 [] (Zb (Za 2) (Zb (aB aJ (aB aP (Za 3) (aB aE (eC (.int 5)) (Za 6))) (eC (.int 12))) az)))) (Zf zj kl)))
def zk:EN->am aT:=(Zf (Zg 4 (aU iB (Zb (Za 0) az))) (Zf (Zg 5 (eC (.int 0))) (Zf (Vw (Y8 (Zb (aB aE (eC (.int 1)) (aB aK (aB aJ (aB aP (Za 3) (eC (.int 4))) (eC (.int 2))) (eC (.int 2)))) az)) (Zw 6) km) (Zm (ZH (Zb (Za 4) (Zb (Za 5) az)))))))
def kn:al D->am D:=run 9 zk
def zl:EN->am aT:=(bp (xB (aB bA (aB aK (aB aP (Za 3) (eC (.int 4))) (eC (.int 2))) (eC (.int 1)))) (Zf (Uw (Xd 2 (Yh 5 (Yh 9 bG))) (Zi 4 kn [] (Zb (Za 5) (Zb (Za 7) (Zb (Za 4) (Zb (Za 3) az)))))) (Zg 8 (ZH (Zb (eC (.str [114,111,119])) (Zb (Za 9) az))))) aL)
def zm:EN->am aT:=(bp (xB (aB bA (aB aK (aB aP (Za 3) (eC (.int 4))) (eC (.int 14))) (eC (.int 2)))) (Zf (Zg 5 (bq (Zl (Zb (eC (.str [])) (Zb (eC (.str [32,35])) (Zb (eC (.str [35,32,109,97,114,107,115,32,48,49])) (Zb (eC (.str [32,32])) az))))) aS (xP (aB aK (aB aP (Za 3) (eC (.int 5))) (eC (.int 5)))))) (Zg 8 (ZH (Zb (eC (.str [114,111,119])) (Zb (eC (.int 1)) az))))) aL)
def zn:EN->am aT:=(bp (bz (ZK (xB (ZI JD (aB aP (Za 10) (eC (.int 1)))))) (bz (xB (ZI JC (aB aP (Za 10) (eC (.int 1))))) (xB (aB bU (Za 10) (Za 8))))) (Zm (eC (.bl jj))) aL)
def pM:EN->am aT:=(Zf (Zg 3 (Yr (Y8 (Zb (eC (.int 7)) az)) (Zw 0) (λ_=>ja je) (Zi 2 U8 [] (Zb (Za 1) (Zb (aB aE (Za 2) (Za 0)) az))) 1 [1,2])) (Zf (Zg 4 (Zi 1 JI [] (Zb (aB aJ (aB aP (Za 3) (eC (.int 0))) (eC (.int 4))) az))) (Zf (Uw (Xd 3 (Yh 5 (Yh 6 (Yh 7 bG)))) (Zi 2 pL [] (Zb (Za 4) (Zb (Za 3) az)))) (Zf (Zg 8 (ZH (Zb (Za 6) (Zb (eC (.int 0)) az)))) (Zf zl (Zf zm (Zf (Zg 10 (Zi 1 X5 [] (Zb (bH cc (eC (.str [10])) (Zb (Za 5) az)) az))) zn)))))))
def zo:EN->am aT:=(Zf (Zg 1 (bq (Za 0) aS (xP (eC (.int 140))))) (Zf (Vw (Y8 (Zb (eC (.int 0)) (Zb (aB aE (aU aM (Zb (Za 1) az)) (eC (.int 1))) (Zb (eC (.int 7)) az)))) (Zw 2) pM) (Zm (eC (.bl je)))))
def ko:al D->am D:=run 11 zo
noncomputable def cj(i:Nat):qv:=PySem.Challenge.pw_grooveway_k11_pages_refused.main.body.getD i (.Pass ⟨0,0,0,0⟩)
abbrev kq:qv:=Um (cj 6) 0
abbrev JJ:qv:=cj 9
abbrev kt:qv:=cj 10
abbrev ku:qv:=cj 11
abbrev kx:qv:=cj 12
abbrev ky:qv:=Um (cj 13) 0
abbrev Uf:qv:=Um (cj 14) 0
abbrev JK:qv:=Um (cj 15) 0
abbrev JL:qv:=Um (cj 16) 0
abbrev kz:qv:=Um (cj 17) 0
abbrev kB:qv:=Um (cj 18) 0
abbrev QO:qv:=Um (cj 19) 0
abbrev JM:qv:=cj 22
abbrev kC:qv:=cj 23
abbrev JN:qv:=cj 24
abbrev kD:qv:=cj 25
abbrev kE:qv:=cj 26
abbrev Vi:qv:=cj 27
abbrev Vj:qv:=cj 28
abbrev X6:qv:=cj 29
abbrev Vk:qv:=cj 30
abbrev Vl:qv:=cj 31
abbrev kF:qv:=cj 33
abbrev kG:qv:=cj 34
abbrev JO:qv:=cj 35
abbrev kH:qv:=cj 37
abbrev JP:qv:=cj 38
abbrev kI:qv:=cj 39
abbrev kJ:qv:=cj 40
abbrev JQ:qv:=cj 41
abbrev kK:qv:=cj 42
abbrev JR:qv:=cj 43
abbrev kL:qv:=cj 44
abbrev kM:qv:=cj 45
abbrev JS:qv:=cj 46
theorem Gy:aG ["self", "row"] ["self", "row"] (aA kq):=ce
theorem Gz:aG ["marks"] ["marks"] (aA JJ):=ce
theorem GA:aG ["marks", "text"] ["marks", "text"] (aA kt):=ce
theorem GB:aG ["number", "low", "high"] ["number", "low", "high"] (aA ku):=ce
theorem GC:aG ["holds", "words"] ["holds", "words"] (aA kx):=ce
theorem GD:aG ["self", "marks"] ["self", "marks"] (aA ky):=ce
theorem GF:aG ["self", "marks", "mark", "least", "most"] ["self", "marks", "mark", "least", "most"] (aA Uf):=ce
theorem GG:aG ["self", "marks", "word"] ["self", "marks", "word"] (aA JK):=ce
theorem GH:aG ["self", "marks", "worths", "low", "high"] ["self", "marks", "worths", "low", "high"] (aA JL):=ce
theorem GI:aG ["self", "marks", "mark", "every", "at"] ["self", "marks", "mark", "every", "at"] (aA kz):=ce
theorem GJ:aG ["self", "marks", "most"] ["self", "marks", "most"] (aA kB):=ce
theorem GK:aG ["self", "marks", "rules"] ["self", "marks", "rules"] (aA QO):=ce
theorem GL:aG ["row", "said"] ["row"] (aA JM):=ce
theorem GN:aG ["page", "rows", "number", "row", "words"] ["page"] (aA kC):=ce
theorem GO:aG ["word", "figures"] ["word", "figures"] (aA JN):=ce
theorem GP:aG ["word"] ["word"] (aA kD):=ce
theorem GQ:aG ["word", "number"] ["word"] (aA kE):=ce
theorem GR:aG ["words", "least", "most"] ["words"] (aA Vi):=ce
theorem GS:aG ["words"] ["words"] (aA Vj):=ce
theorem GU:aG ["words", "numbers"] ["words"] (aA X6):=ce
theorem GV:aG ["words", "every", "at"] ["words"] (aA Vk):=ce
theorem GW:aG ["words", "most"] ["words"] (aA Vl):=ce
theorem GX:aG ["words", "maker_of"] ["words"] (aA kF):=ce
theorem GY:aG ["rows", "words"] ["rows"] (aA kG):=ce
theorem GZ:aG ["page", "rows", "marks", "makers", "number", "words", "maker"] ["page"] (aA JO):=ce
theorem G0:aG ["script", "k"] ["script", "k"] (aA kH):=ce
theorem G1:aG ["cell", "some", "step"] ["cell"] (aA JP):=ce
theorem G2:aG ["page", "kind", "row", "kinds", "e"] ["page"] (aA kI):=ce
theorem G3:aG ["marks", "cell", "mark", "some"] ["marks", "cell"] (aA kJ):=ce
theorem G4:aG ["marks", "cell", "near"] ["marks", "cell"] (aA JQ):=ce
theorem G5:aG ["marks", "cell", "mark", "other", "zeros", "some"] ["marks", "cell"] (aA kK):=ce
theorem G6:aG ["marks", "cells", "mark", "rows", "signs", "turn"] ["marks", "cells"] (aA JR):=ce
theorem G7:aG ["marks", "cells", "told", "due", "rows"] ["marks", "cells"] (aA kL):=ce
theorem G8:aG ["page", "silent", "marks", "cells", "rows", "due", "k", "at", "row"] ["page", "silent", "marks", "cells"] (aA kM):=ce
theorem G9:aG ["script", "cut", "k", "cells", "marks", "page", "kind", "silent", "due", "number", "found"] ["script"] (aA JS):=ce
structure gy where
 (a_QF a_QH a_Q5 a_Q4 a_Q7 a_QU a_QZ a_QM a_Q1 a_QS a_QK a_Q2 a_Q0 a_Q6 a_Q3 a_QV a_QT a_QX a_QE a_QY a_QL a_QI a_QN a_QP a_QJ a_QC a_QO a_QQ a_QD a_QR a_QB a_QA a_QW a_QG a_Q8 c_GrooveError c_BadMarks c_BadRule c_BadRow c_Rule c_Gap c_Never c_Sum c_Turn c_Alike c_All cc_gap_maker tb_gap_maker cc_never_maker tb_never_maker cc_sum_maker tb_sum_maker cc_turn_maker tb_turn_maker cc_alike_maker tb_alike_maker am_MAKERS:jf)
 (d_QF d_QH d_Q5 d_Q4 d_Q7 d_QU d_QZ d_QM d_Q1 d_QS d_QK d_Q2 d_Q0 d_Q6 d_Q3 d_QV d_QT d_QX d_QE d_QY d_QL d_QI d_QN d_QP d_QJ d_QC d_QO d_QQ d_QD d_QR d_QB d_QA d_QW d_QG d_Q8:qI)
 (u_MARK_SIGNS u_FIGURES:jc)
abbrev pN:Lm:=UZ "gap_maker.<locals>.<lambda>" Vi ["marks", "words", "least", "most"] ["marks"] ["words", "least", "most"]
theorem Ha:bC ["marks", "words", "least", "most"] ["marks"] ["words", "least", "most"] (UY Vi):=⟨rfl,rfl,rfl,by decide +kernel,rfl,by decide +kernel,by decide +kernel,by decide +kernel⟩
abbrev zp:Lm:=UZ "never_maker.<locals>.<lambda>" Vj ["marks", "words"] ["marks"] ["words"]
theorem Hb:bC ["marks", "words"] ["marks"] ["words"] (UY Vj):=⟨rfl,rfl,rfl,by decide +kernel,rfl,by decide +kernel,by decide +kernel,by decide +kernel⟩
abbrev zq:Lm:=UZ "sum_maker.<locals>.<lambda>" X6 ["marks", "numbers"] ["marks"] ["numbers"]
theorem Hc:bC ["marks", "numbers"] ["marks"] ["numbers"] (UY X6):=⟨rfl,rfl,rfl,by decide +kernel,rfl,by decide +kernel,by decide +kernel,by decide +kernel⟩
abbrev zr:Lm:=UZ "turn_maker.<locals>.<lambda>" Vk ["marks", "words", "every", "at"] ["marks"] ["words", "every", "at"]
theorem Hd:bC ["marks", "words", "every", "at"] ["marks"] ["words", "every", "at"] (UY Vk):=⟨rfl,rfl,rfl,by decide +kernel,rfl,by decide +kernel,by decide +kernel,by decide +kernel⟩
abbrev zt:Lm:=UZ "alike_maker.<locals>.<lambda>" Vl ["marks", "most"] ["marks"] ["most"]
theorem He:bC ["marks", "most"] ["marks"] ["most"] (UY Vl):=⟨rfl,rfl,rfl,by decide +kernel,rfl,by decide +kernel,by decide +kernel,by decide +kernel⟩
def be:Nat->Lm:=λi=>[pN,zp,zq,zr,zt].getD i pN
noncomputable abbrev JT(t:gy):al jf:=[t.a_QX,t.a_QE,t.a_QY,t.a_QL,t.a_QI]
noncomputable def gy.c(t:gy):String->jf:=λc=>if c = "Rule" then t.c_Rule else if c = "Gap" then t.c_Gap else if c = "Never" then t.c_Never else if c = "Sum" then t.c_Sum else if c = "Turn" then t.c_Turn else if c = "Alike" then t.c_Alike else if c = "All" then t.c_All else if c = "GrooveError" then t.c_GrooveError else if c = "BadMarks" then t.c_BadMarks else if c = "BadRule" then t.c_BadRule else if c = "BadRow" then t.c_BadRow else 0
structure Txt(w:jV)(K:jb)(mg:Str->Option jc)(t:gy):Prop where
 p_QF:Df K "__init__" "BadRow.__init__" kq t.a_QF t.d_QF ["self", "row"]
 p_QH:Dg K mg "marks_stand" JJ t.a_QH t.d_QH ["marks"]
 p_Q5:Dg K mg "is_mark" kt t.a_Q5 t.d_Q5 ["marks", "text"]
 p_Q4:Dg K mg "is_whole" ku t.a_Q4 t.d_Q4 ["number", "low", "high"]
 p_Q7:Dg K mg "demand" kx t.a_Q7 t.d_Q7 ["holds", "words"]
 p_QU:Df K "__init__" "Rule.__init__" ky t.a_QU t.d_QU ["self", "marks"]
 f_QZ:bu K "__init__" "Gap.__init__" Uf t.a_QZ t.d_QZ
 b_QZ:Binds K t.d_QZ ["self", "marks", "mark", "least", "most"] []
 b1_Gap_init:Binds K t.d_QZ ["self", "marks", "mark", "least", "most"] [.none]
 k_QZ:jM K (.ref t.a_QZ)=je
 p_QM:Df K "__init__" "Never.__init__" JK t.a_QM t.d_QM ["self", "marks", "word"]
 p_Q1:Df K "__init__" "Sum.__init__" JL t.a_Q1 t.d_Q1 ["self", "marks", "worths", "low", "high"]
 p_QS:Df K "__init__" "Turn.__init__" kz t.a_QS t.d_QS ["self", "marks", "mark", "every", "at"]
 p_QK:Df K "__init__" "Alike.__init__" kB t.a_QK t.d_QK ["self", "marks", "most"]
 p_Q2:Df K "__init__" "All.__init__" QO t.a_Q2 t.d_Q2 ["self", "marks", "rules"]
 p_Q0:Dg K mg "words_in" JM t.a_Q0 t.d_Q0 ["row"]
 p_Q6:Dg K mg "rows_of" kC t.a_Q6 t.d_Q6 ["page"]
 p_Q3:Dg K mg "whole_in" JN t.a_Q3 t.d_Q3 ["word", "figures"]
 p_QV:Dg K mg "number_in" kD t.a_QV t.d_QV ["word"]
 p_QT:Dg K mg "signed_in" kE t.a_QT t.d_QT ["word"]
 f_QX:bu K "gap_maker" "gap_maker" Vi t.a_QX t.d_QX
 b_QX:Binds K t.d_QX ["words"] []
 g_QX:mg "gap_maker" = ja (.ref t.a_QX)
 k_QX:jM K (.ref t.a_QX)=je
 f_QE:bu K "never_maker" "never_maker" Vj t.a_QE t.d_QE
 b_QE:Binds K t.d_QE ["words"] []
 g_QE:mg "never_maker" = ja (.ref t.a_QE)
 k_QE:jM K (.ref t.a_QE)=je
 f_QY:bu K "sum_maker" "sum_maker" X6 t.a_QY t.d_QY
 b_QY:Binds K t.d_QY ["words"] []
 g_QY:mg "sum_maker" = ja (.ref t.a_QY)
 k_QY:jM K (.ref t.a_QY)=je
 f_QL:bu K "turn_maker" "turn_maker" Vk t.a_QL t.d_QL
 b_QL:Binds K t.d_QL ["words"] []
 g_QL:mg "turn_maker" = ja (.ref t.a_QL)
 k_QL:jM K (.ref t.a_QL)=je
 f_QI:bu K "alike_maker" "alike_maker" Vl t.a_QI t.d_QI
 b_QI:Binds K t.d_QI ["words"] []
 g_QI:mg "alike_maker" = ja (.ref t.a_QI)
 k_QI:jM K (.ref t.a_QI)=je
 p_QN:Dg K mg "rule_maker" kF t.a_QN t.d_QN ["words"]
 p_QP:Dg K mg "marks_told" kG t.a_QP t.d_QP ["rows"]
 p_QJ:Dg K mg "read_rules" JO t.a_QJ t.d_QJ ["page"]
 p_QC:Dg K mg "_law_cell_at" kH t.a_QC t.d_QC ["script", "k"]
 p_QO:Dg K mg "_law_marks" JP t.a_QO t.d_QO ["cell"]
 p_QQ:Dg K mg "_law_asked" kI t.a_QQ t.d_QQ ["page"]
 p_QD:Dg K mg "_law_bad_row" kJ t.a_QD t.d_QD ["marks", "cell"]
 p_QR:Dg K mg "_law_other" JQ t.a_QR t.d_QR ["marks", "cell"]
 p_QB:Dg K mg "_law_bad_rule" kK t.a_QB t.d_QB ["marks", "cell"]
 p_QA:Dg K mg "_law_good_rows" JR t.a_QA t.d_QA ["marks", "cells"]
 p_QW:Dg K mg "_law_page" kL t.a_QW t.d_QW ["marks", "cells"]
 p_QG:Dg K mg "_law_spoilt" kM t.a_QG t.d_QG ["page", "silent", "marks", "cells"]
 p_Q8:Dg K mg "law" JS t.a_Q8 t.d_Q8 ["script"]
 cd_gap_maker:t.d_QX.code = .ref t.cc_gap_maker
 nk_gap_maker:bV K mg t.cc_gap_maker t.tb_gap_maker
 tb_gap_maker:(t.tb_gap_maker,("gap_maker.<locals>.<lambda>" : Str))∈YV K
 cd_never_maker:t.d_QE.code = .ref t.cc_never_maker
 nk_never_maker:bV K mg t.cc_never_maker t.tb_never_maker
 tb_never_maker:(t.tb_never_maker,("never_maker.<locals>.<lambda>" : Str))∈YV K
 cd_sum_maker:t.d_QY.code = .ref t.cc_sum_maker
 nk_sum_maker:bV K mg t.cc_sum_maker t.tb_sum_maker
 tb_sum_maker:(t.tb_sum_maker,("sum_maker.<locals>.<lambda>" : Str))∈YV K
 cd_turn_maker:t.d_QL.code = .ref t.cc_turn_maker
 nk_turn_maker:bV K mg t.cc_turn_maker t.tb_turn_maker
 tb_turn_maker:(t.tb_turn_maker,("turn_maker.<locals>.<lambda>" : Str))∈YV K
 cd_alike_maker:t.d_QI.code = .ref t.cc_alike_maker
 nk_alike_maker:bV K mg t.cc_alike_maker t.tb_alike_maker
 tb_alike_maker:(t.tb_alike_maker,("alike_maker.<locals>.<lambda>" : Str))∈YV K
 g_MAKERS:mg "MAKERS" = ja (.ref t.am_MAKERS)
 md_MAKERS:∀P:jS,gv P w K t.am_MAKERS (Ux bh (JT t))
 n_ValueError:mg "ValueError" = none
 n_all:mg "all" = none
 n_any:mg "any" = none
 n_bool:mg "bool" = none
 n_enumerate:mg "enumerate" = none
 n_int:mg "int" = none
 n_isinstance:mg "isinstance" = none
 n_len:mg "len" = none
 n_list:mg "list" = none
 n_max:mg "max" = none
 n_min:mg "min" = none
 n_range:mg "range" = none
 n_str:mg "str" = none
 n_tuple:mg "tuple" = none
 n_zip:mg "zip" = none
 g_MARK_SIGNS:mg "MARK_SIGNS" = ja t.u_MARK_SIGNS
 r_MARK_SIGNS:RelV (S aI) t.u_MARK_SIGNS
 g_FIGURES:mg "FIGURES" = ja t.u_FIGURES
 r_FIGURES:RelV (S n6) t.u_FIGURES
 g_Rule:mg "Rule" = ja (.ref t.c_Rule)
 cl_Rule:dC K t.c_Rule
 ci_Rule:di K t.c_Rule
 mk_Rule:Mk K t.c_Rule t.a_QU
 g_Gap:mg "Gap" = ja (.ref t.c_Gap)
 cl_Gap:dC K t.c_Gap
 ci_Gap:di K t.c_Gap
 mk_Gap:Mk K t.c_Gap t.a_QZ
 g_Never:mg "Never" = ja (.ref t.c_Never)
 cl_Never:dC K t.c_Never
 ci_Never:di K t.c_Never
 mk_Never:Mk K t.c_Never t.a_QM
 g_Sum:mg "Sum" = ja (.ref t.c_Sum)
 cl_Sum:dC K t.c_Sum
 ci_Sum:di K t.c_Sum
 mk_Sum:Mk K t.c_Sum t.a_Q1
 g_Turn:mg "Turn" = ja (.ref t.c_Turn)
 cl_Turn:dC K t.c_Turn
 ci_Turn:di K t.c_Turn
 mk_Turn:Mk K t.c_Turn t.a_QS
 g_Alike:mg "Alike" = ja (.ref t.c_Alike)
 cl_Alike:dC K t.c_Alike
 ci_Alike:di K t.c_Alike
 mk_Alike:Mk K t.c_Alike t.a_QK
 g_All:mg "All" = ja (.ref t.c_All)
 cl_All:dC K t.c_All
 ci_All:di K t.c_All
 mk_All:Mk K t.c_All t.a_Q2
 fl_at:XS K ⟨t.c,K,be⟩ iR "at"
 fl_every:XS K ⟨t.c,K,be⟩ iS "every"
 fl_high:XS K ⟨t.c,K,be⟩ iT "high"
 fl_least:XS K ⟨t.c,K,be⟩ QN "least"
 fl_low:XS K ⟨t.c,K,be⟩ iU "low"
 fl_mark:XS K ⟨t.c,K,be⟩ UE "mark"
 fl_marks:XS K ⟨t.c,K,be⟩ aY "marks"
 fl_most:XS K ⟨t.c,K,be⟩ UF "most"
 fl_rules:XS K ⟨t.c,K,be⟩ iV "rules"
 fl_word:XS K ⟨t.c,K,be⟩ iW "word"
 fl_worths:XS K ⟨t.c,K,be⟩ iX "worths"
 g_GrooveError:mg "GrooveError" = ja (.ref t.c_GrooveError)
 g_BadMarks:mg "BadMarks" = ja (.ref t.c_BadMarks)
 en_BadMarks:Oq K t.c_BadMarks eD "ValueError.__new__" = je
 kx_BadMarks:jM K (.ref t.c_BadMarks)=je
 g_BadRule:mg "BadRule" = ja (.ref t.c_BadRule)
 en_BadRule:Oq K t.c_BadRule eD "ValueError.__new__" = je
 kx_BadRule:jM K (.ref t.c_BadRule)=je
 g_BadRow:mg "BadRow" = ja (.ref t.c_BadRow)
 xc_all:∀c∈(["BadMarks", "BadRow", "BadRule"]:List String),br K (t.c c)
 xt_BadRule:∀c∈(["BadRule"]:List String),qD K (.ref (t.c c)) (.ref t.c_BadRule)=ja je
 xf_BadRule:∀c∈([]:List String),qD K (.ref (t.c c)) (.ref t.c_BadRule)=ja jj
 xt_BadMarks:∀c∈(["BadMarks"]:List String),qD K (.ref (t.c c)) (.ref t.c_BadMarks)=ja je
 xf_BadMarks:∀c∈(["BadRule"]:List String),qD K (.ref (t.c c)) (.ref t.c_BadMarks)=ja jj
 xt_BadRow:∀c∈(["BadRow"]:List String),qD K (.ref (t.c c)) (.ref t.c_BadRow)=ja je
 xf_BadRow:∀c∈(["BadMarks", "BadRule"]:List String),qD K (.ref (t.c c)) (.ref t.c_BadRow)=ja jj
 ix_GrooveError:Uy K ⟨t.c,K,be⟩ (.ref (t.c "GrooveError")) ix_GrooveError
 ix_ValueError:Uy K ⟨t.c,K,be⟩ (.ty "ValueError") ix_ValueError
 ix_BadMarks:Uy K ⟨t.c,K,be⟩ (.ref (t.c "BadMarks")) ix_BadMarks
 ix_BadRule:Uy K ⟨t.c,K,be⟩ (.ref (t.c "BadRule")) ix_BadRule
 ix_BadRow:Uy K ⟨t.c,K,be⟩ (.ref (t.c "BadRow")) ix_BadRow
 xi_BadRow:e9 K t.c_BadRow t.a_QF (jE "row")
 bs_GrooveError:gL K t.c_GrooveError
 xr_all:∀c∈(["BadRow"]:List String),br K (t.c c)/\qr K (t.c c)=je/\jm K (.ref (t.c c)) (jE "row")=ja none
 cm_Rule_init:fV K t.c_Rule "__init__" t.a_QU
 isi_All:dw K ⟨t.c,K,be⟩ (.ref t.c_All) JB
 isi_bool:dw K ⟨t.c,K,be⟩ (.type "bool") JC
 isi_int:dw K ⟨t.c,K,be⟩ (.type "int") JD
end K11
namespace K11
open PySem PySem.W L2 HT
noncomputable def kP:Params->jb:=λP=>
 (nat_lit 2,dO .none [] 0) ::
 (nat_lit 3,dO (.type "dict") [de P "__name__" 165 (.str "law_grooveway_k11_pages_refused" 757),de P "__doc__" 166 .none,de P "__package__" 167 .none,de P "__loader__" 168 (.builtin "__main__.__loader__#opaque"),de P "__spec__" 169 .none,de P "__annotations__" 170 (.ref 6),de P "__builtins__" 171 (.ref 4),de P "__file__" 173 (.str "/claim/cut.py" 172),de P "__cached__" 174 .none,de P "_wall" 193 (.ref 21),de P "GrooveError" 213 (.ref 31),de P "BadMarks" 229 (.ref 44),de P "BadRule" 245 (.ref 56),de P "BadMark" 261 (.ref 68),de P "BadRow" 286 (.ref 87),de P "MARK_SIGNS" 290 (.str "abcdefghijklmnopqrstuvwxyz0123456789" 289),de P "marks_stand" 296 (.ref 94),de P "is_mark" 304 (.ref 101),de P "is_whole" 313 (.ref 108),de P "demand" 321 (.ref 115),de P "Rule" 391 (.ref 167),de P "Gap" 437 (.ref 203),de P "Never" 471 (.ref 227),de P "Sum" 506 (.ref 251),de P "Turn" 545 (.ref 277),de P "Alike" 589 (.ref 310),de P "All" 639 (.ref 348),de P "FIGURES" 643 (.str "0123456789" 642),de P "words_in" 649 (.ref 355),de P "rows_of" 660 (.ref 362),de P "whole_in" 666 (.ref 367),de P "number_in" 673 (.ref 374),de P "signed_in" 681 (.ref 381),de P "gap_maker" 691 (.ref 388),de P "never_maker" 699 (.ref 395),de P "sum_maker" 705 (.ref 400),de P "turn_maker" 715 (.ref 407),de P "alike_maker" 723 (.ref 414),de P "MAKERS" 734 (.ref 415),de P "rule_maker" 742 (.ref 422),de P "marks_told" 750 (.ref 429),de P "read_rules" 756 (.ref 434),de P "_law_cell_at" 766 (.ref 441),de P "_law_marks" 772 (.ref 446),de P "_law_asked" 783 (.ref 453),de P "_law_bad_row" 793 (.ref 460),de P "_law_other" 799 (.ref 465),de P "_law_bad_rule" 811 (.ref 472),de P "_law_good_rows" 817 (.ref 477),de P "_law_page" 828 (.ref 484),de P "_law_spoilt" 843 (.ref 491),de P "law" 849 (.ref 496)] 52) ::
 (nat_lit 20,c3 "_wall" "_wall" 187 1 1 3 15 16 (.ref 17) (.ref 18) 19 191 192) ::
 (nat_lit 30,dO (.type "dict") [de P "__module__" 203 (.str "grooveway.errors" 194),de P "__firstlineno__" 207 (.int 5 206),de P "__static_attributes__" 208 (.ref 29),de P "__weakref__" 210 (.ref 32),de P "__doc__" 211 .none] 3) ::
 (nat_lit 31,⟨(.type "type"),none,.cls ⟨"GrooveError",[(.type "ValueError")],[(.ref 31),(.type "ValueError"),(.type "Exception"),(.type "BaseException"),(.type "object")],30, "GrooveError",je,[],[(.ref 44),(.ref 56),(.ref 68),(.ref 87)],jj,none,jj⟩,#[ja (.ref 22),none,ja (.str "GrooveError" 196),ja (.str "GrooveError" 204),ja (.builtin "ValueError.__new__"),ja (.bool je)]⟩) ::
 (nat_lit 32,⟨(.type "getset_descriptor"),none,.fields #[(.str "__weakref__" 209),(.ref 31),(.builtin "ExceptionGroup.__weakref__"),.none],#[]⟩) ::
 (nat_lit 43,x3 P "grooveway.errors" 194 221 225 7 224 226 42 227 2) ::
 (nat_lit 44,k3 "BadMarks" 44 31 43 35 214 222) ::
 (nat_lit 55,x3 P "grooveway.errors" 194 237 241 9 240 242 54 243 2) ::
 (nat_lit 56,k3 "BadRule" 56 31 55 47 230 238) ::
 (nat_lit 67,x3 P "grooveway.errors" 194 253 257 11 256 258 66 259 2) ::
 (nat_lit 68,k3 "BadMark" 68 31 67 59 246 254) ::
 (nat_lit 83,c3 "__init__" "BadRow.__init__" 274 15 2 3 78 79 (.ref 80) (.ref 81) 82 279 280) ::
 (nat_lit 84,f3 "__init__" "BadRow.__init__" kq "grooveway.errors" 194 83) ::
 (nat_lit 86,dO (.type "dict") [de P "__module__" 269 (.str "grooveway.errors" 194),de P "__firstlineno__" 273 (.int 13 272),de P "__init__" 281 (.ref 84),de P "__static_attributes__" 283 (.ref 85),de P "__doc__" 284 .none] 2) ::
 (nat_lit 87,k3 "BadRow" 87 31 86 71 262 270) ::
 (nat_lit 93,c3 "marks_stand" "marks_stand" 291 20 1 3 90 91 .none .none 92 294 295) ::
 (nat_lit 94,f3 "marks_stand" "marks_stand" JJ "grooveway.rules" 287 93) ::
 (nat_lit 100,c3 "is_mark" "is_mark" 297 24 2 3 95 96 (.ref 97) (.ref 98) 99 302 303) ::
 (nat_lit 101,f3 "is_mark" "is_mark" kt "grooveway.rules" 287 100) ::
 (nat_lit 107,c3 "is_whole" "is_whole" 305 26 3 3 102 103 (.ref 104) (.ref 105) 106 311 312) ::
 (nat_lit 108,f3 "is_whole" "is_whole" ku "grooveway.rules" 287 107) ::
 (nat_lit 114,c3 "demand" "demand" 314 30 2 3 109 110 (.ref 111) (.ref 112) 113 319 320) ::
 (nat_lit 115,f3 "demand" "demand" kx "grooveway.rules" 287 114) ::
 (nat_lit 128,c3 "__init__" "Rule.__init__" 334 35 2 3 123 124 (.ref 125) (.ref 126) 127 339 340) ::
 (nat_lit 129,f3 "__init__" "Rule.__init__" ky "grooveway.rules" 287 128) ::
 (nat_lit 135,c3 "begin" "Rule.begin" 342 40 1 3 130 131 (.ref 132) (.ref 133) 134 346 347) ::
 (nat_lit 142,c3 "step" "Rule.step" 349 43 3 3 137 138 (.ref 139) (.ref 140) 141 355 356) ::
 (nat_lit 149,c3 "behind" "Rule.behind" 358 48 3 3 144 145 (.ref 146) (.ref 147) 148 364 365) ::
 (nat_lit 156,c3 "broken_at" "Rule.broken_at" 367 51 2 3 151 152 (.ref 153) (.ref 154) 155 372 373) ::
 (nat_lit 163,c3 "keeps" "Rule.keeps" 375 54 2 3 158 159 (.ref 160) (.ref 161) 162 380 381) ::
 (nat_lit 166,dO (.type "dict") [de P "__module__" 329 (.str "grooveway.rules" 287),de P "__firstlineno__" 333 (.int 33 332),de P "__init__" 341 (.ref 129),de P "begin" 348 (.ref 136),de P "step" 357 (.ref 143),de P "behind" 366 (.ref 150),de P "broken_at" 374 (.ref 157),de P "keeps" 382 (.ref 164),de P "__static_attributes__" 384 (.ref 165),de P "__dict__" 386 (.ref 168),de P "__weakref__" 388 (.ref 169),de P "__doc__" 389 .none] 4) ::
 (nat_lit 167,⟨(.type "type"),none,.cls ⟨"Rule",[(.type "object")],[(.ref 167),(.type "object")],166, "Rule",je,[],[(.ref 203),(.ref 227),(.ref 251),(.ref 277),(.ref 310),(.ref 348)],jj,none,jj⟩,#[none,none,ja (.str "Rule" 322),ja (.str "Rule" 330),ja (.builtin "object.__new__"),ja (.bool je)]⟩) ::
 (nat_lit 168,⟨(.type "getset_descriptor"),none,.fields #[(.str "__dict__" 385),(.ref 167),(.builtin "function.__dict__"),(.builtin "function.__dict__#set")],#[]⟩) ::
 (nat_lit 169,⟨(.type "getset_descriptor"),none,.fields #[(.str "__weakref__" 387),(.ref 167),(.builtin "ExceptionGroup.__weakref__"),.none],#[]⟩) ::
 (nat_lit 179,⟨(.type "tuple"),none,.seq #[.none] 0,#[]⟩) ::
 (nat_lit 185,c3 "__init__" "Gap.__init__" 404 58 5 3 180 181 (.ref 182) (.ref 183) 184 412 413) ::
 (nat_lit 186,fO "__init__" "Gap.__init__" Uf (.ref 179) .none .none (.str "grooveway.rules" 287) none (.ref 185) .none) ::
 (nat_lit 192,c3 "begin" "Gap.begin" 415 67 1 3 187 188 (.ref 189) (.ref 190) 191 419 420) ::
 (nat_lit 199,c3 "behind" "Gap.behind" 422 70 3 3 194 195 (.ref 196) (.ref 197) 198 428 429) ::
 (nat_lit 202,dO (.type "dict") [de P "__module__" 399 (.str "grooveway.rules" 287),de P "__firstlineno__" 403 (.int 56 402),de P "__init__" 414 (.ref 186),de P "begin" 421 (.ref 193),de P "behind" 430 (.ref 200),de P "__static_attributes__" 434 (.ref 201),de P "__doc__" 435 .none] 2) ::
 (nat_lit 203,⟨(.type "type"),none,.cls ⟨"Gap",[(.ref 167)],[(.ref 203),(.ref 167),(.type "object")],202, "Gap",je,[],[],jj,none,jj⟩,#[ja (.ref 172),none,ja (.str "Gap" 392),ja (.str "Gap" 400),ja (.builtin "object.__new__"),ja (.bool je)]⟩) ::
 (nat_lit 216,c3 "__init__" "Never.__init__" 450 78 3 3 213 214 .none .none 215 453 454) ::
 (nat_lit 217,f3 "__init__" "Never.__init__" JK "grooveway.rules" 287 216) ::
 (nat_lit 223,c3 "behind" "Never.behind" 456 84 3 3 218 219 (.ref 220) (.ref 221) 222 464 465) ::
 (nat_lit 226,dO (.type "dict") [de P "__module__" 445 (.str "grooveway.rules" 287),de P "__firstlineno__" 449 (.int 76 448),de P "__init__" 455 (.ref 217),de P "behind" 466 (.ref 224),de P "__static_attributes__" 468 (.ref 225),de P "__doc__" 469 .none] 2) ::
 (nat_lit 227,⟨(.type "type"),none,.cls ⟨"Never",[(.ref 167)],[(.ref 227),(.ref 167),(.type "object")],226, "Never",je,[],[],jj,none,jj⟩,#[ja (.ref 206),none,ja (.str "Never" 438),ja (.str "Never" 446),ja (.builtin "object.__new__"),ja (.bool je)]⟩) ::
 (nat_lit 240,c3 "__init__" "Sum.__init__" 484 94 5 3 237 238 .none .none 239 487 488) ::
 (nat_lit 241,f3 "__init__" "Sum.__init__" JL "grooveway.rules" 287 240) ::
 (nat_lit 247,c3 "behind" "Sum.behind" 490 104 3 3 242 243 (.ref 244) (.ref 245) 246 497 498) ::
 (nat_lit 250,dO (.type "dict") [de P "__module__" 479 (.str "grooveway.rules" 287),de P "__firstlineno__" 483 (.int 92 482),de P "__init__" 489 (.ref 241),de P "behind" 499 (.ref 248),de P "__static_attributes__" 503 (.ref 249),de P "__doc__" 504 .none] 2) ::
 (nat_lit 251,⟨(.type "type"),none,.cls ⟨"Sum",[(.ref 167)],[(.ref 251),(.ref 167),(.type "object")],250, "Sum",je,[],[],jj,none,jj⟩,#[ja (.ref 230),none,ja (.str "Sum" 472),ja (.str "Sum" 480),ja (.builtin "object.__new__"),ja (.bool je)]⟩) ::
 (nat_lit 266,c3 "__init__" "Turn.__init__" 519 109 5 3 261 262 (.ref 263) (.ref 264) 265 527 528) ::
 (nat_lit 267,f3 "__init__" "Turn.__init__" kz "grooveway.rules" 287 266) ::
 (nat_lit 273,c3 "behind" "Turn.behind" 530 118 3 3 268 269 (.ref 270) (.ref 271) 272 536 537) ::
 (nat_lit 276,dO (.type "dict") [de P "__module__" 514 (.str "grooveway.rules" 287),de P "__firstlineno__" 518 (.int 107 517),de P "__init__" 529 (.ref 267),de P "behind" 538 (.ref 274),de P "__static_attributes__" 542 (.ref 275),de P "__doc__" 543 .none] 2) ::
 (nat_lit 277,⟨(.type "type"),none,.cls ⟨"Turn",[(.ref 167)],[(.ref 277),(.ref 167),(.type "object")],276, "Turn",je,[],[],jj,none,jj⟩,#[ja (.ref 254),none,ja (.str "Turn" 507),ja (.str "Turn" 515),ja (.builtin "object.__new__"),ja (.bool je)]⟩) ::
 (nat_lit 292,c3 "__init__" "Alike.__init__" 558 124 3 3 287 288 (.ref 289) (.ref 290) 291 564 565) ::
 (nat_lit 293,f3 "__init__" "Alike.__init__" kB "grooveway.rules" 287 292) ::
 (nat_lit 299,c3 "begin" "Alike.begin" 567 129 1 3 294 295 (.ref 296) (.ref 297) 298 571 572) ::
 (nat_lit 306,c3 "behind" "Alike.behind" 574 132 3 3 301 302 (.ref 303) (.ref 304) 305 582 583) ::
 (nat_lit 309,dO (.type "dict") [de P "__module__" 553 (.str "grooveway.rules" 287),de P "__firstlineno__" 557 (.int 122 556),de P "__init__" 566 (.ref 293),de P "begin" 573 (.ref 300),de P "behind" 584 (.ref 307),de P "__static_attributes__" 586 (.ref 308),de P "__doc__" 587 .none] 2) ::
 (nat_lit 310,⟨(.type "type"),none,.cls ⟨"Alike",[(.ref 167)],[(.ref 310),(.ref 167),(.type "object")],309, "Alike",je,[],[],jj,none,jj⟩,#[ja (.ref 280),none,ja (.str "Alike" 546),ja (.str "Alike" 554),ja (.builtin "object.__new__"),ja (.bool je)]⟩) ::
 (nat_lit 323,c3 "__init__" "All.__init__" 602 138 3 3 320 321 .none .none 322 605 606) ::
 (nat_lit 324,f3 "__init__" "All.__init__" QO "grooveway.rules" 287 323) ::
 (nat_lit 330,c3 "begin" "All.begin" 608 145 1 3 325 326 (.ref 327) (.ref 328) 329 612 613) ::
 (nat_lit 337,c3 "behind" "All.behind" 615 148 3 3 332 333 (.ref 334) (.ref 335) 336 625 626) ::
 (nat_lit 344,c3 "rules_told" "All.rules_told" 628 157 1 3 339 340 (.ref 341) (.ref 342) 343 632 633) ::
 (nat_lit 347,dO (.type "dict") [de P "__module__" 597 (.str "grooveway.rules" 287),de P "__firstlineno__" 601 (.int 136 600),de P "__init__" 607 (.ref 324),de P "begin" 614 (.ref 331),de P "behind" 627 (.ref 338),de P "rules_told" 634 (.ref 345),de P "__static_attributes__" 636 (.ref 346),de P "__doc__" 637 .none] 2) ::
 (nat_lit 348,⟨(.type "type"),none,.cls ⟨"All",[(.ref 167)],[(.ref 348),(.ref 167),(.type "object")],347, "All",je,[],[],jj,none,jj⟩,#[ja (.ref 313),none,ja (.str "All" 590),ja (.str "All" 598),ja (.builtin "object.__new__"),ja (.bool je)]⟩) ::
 (nat_lit 354,c3 "words_in" "words_in" 644 161 1 3 351 352 .none .none 353 647 648) ::
 (nat_lit 355,f3 "words_in" "words_in" JM "grooveway.pages" 640 354) ::
 (nat_lit 361,c3 "rows_of" "rows_of" 650 164 1 3 356 357 (.ref 358) (.ref 359) 360 658 659) ::
 (nat_lit 362,f3 "rows_of" "rows_of" kC "grooveway.pages" 640 361) ::
 (nat_lit 366,c3 "whole_in" "whole_in" 661 171 2 3 363 364 .none .none 365 664 665) ::
 (nat_lit 367,f3 "whole_in" "whole_in" JN "grooveway.pages" 640 366) ::
 (nat_lit 373,c3 "number_in" "number_in" 667 179 1 3 368 369 (.ref 370) (.ref 371) 372 671 672) ::
 (nat_lit 374,f3 "number_in" "number_in" kD "grooveway.pages" 640 373) ::
 (nat_lit 380,c3 "signed_in" "signed_in" 674 181 1 3 375 376 (.ref 377) (.ref 378) 379 679 680) ::
 (nat_lit 381,f3 "signed_in" "signed_in" kE "grooveway.pages" 640 380) ::
 (nat_lit 387,c3 "gap_maker" "gap_maker" 682 186 1 3 382 383 (.ref 384) (.ref 385) 386 689 690) ::
 (nat_lit 388,f3 "gap_maker" "gap_maker" Vi "grooveway.pages" 640 387) ::
 (nat_lit 394,c3 "never_maker" "never_maker" 692 194 1 3 389 390 (.ref 391) (.ref 392) 393 697 698) ::
 (nat_lit 395,f3 "never_maker" "never_maker" Vj "grooveway.pages" 640 394) ::
 (nat_lit 399,c3 "sum_maker" "sum_maker" 700 198 1 3 396 397 .none .none 398 703 704) ::
 (nat_lit 400,f3 "sum_maker" "sum_maker" X6 "grooveway.pages" 640 399) ::
 (nat_lit 406,c3 "turn_maker" "turn_maker" 706 205 1 3 401 402 (.ref 403) (.ref 404) 405 713 714) ::
 (nat_lit 407,f3 "turn_maker" "turn_maker" Vk "grooveway.pages" 640 406) ::
 (nat_lit 413,c3 "alike_maker" "alike_maker" 716 213 1 3 408 409 (.ref 410) (.ref 411) 412 721 722) ::
 (nat_lit 414,f3 "alike_maker" "alike_maker" Vl "grooveway.pages" 640 413) ::
 (nat_lit 415,dO (.type "dict") [de P "gap" 724 (.ref 388),de P "never" 725 (.ref 395),de P "sum" 726 (.ref 400),de P "turn" 727 (.ref 407),de P "alike" 728 (.ref 414)] 5) ::
 (nat_lit 421,c3 "rule_maker" "rule_maker" 735 221 1 3 416 417 (.ref 418) (.ref 419) 420 740 741) ::
 (nat_lit 422,f3 "rule_maker" "rule_maker" kF "grooveway.pages" 640 421) ::
 (nat_lit 428,c3 "marks_told" "marks_told" 743 226 1 3 423 424 (.ref 425) (.ref 426) 427 748 749) ::
 (nat_lit 429,f3 "marks_told" "marks_told" kG "grooveway.pages" 640 428) ::
 (nat_lit 433,c3 "read_rules" "read_rules" 751 233 1 3 430 431 .none .none 432 754 755) ::
 (nat_lit 434,f3 "read_rules" "read_rules" JO "grooveway.pages" 640 433) ::
 (nat_lit 440,c3 "_law_cell_at" "_law_cell_at" 759 244 2 3 435 436 (.ref 437) (.ref 438) 439 764 765) ::
 (nat_lit 441,f3 "_law_cell_at" "_law_cell_at" kH "law_grooveway_k11_pages_refused" 757 440) ::
 (nat_lit 445,c3 "_law_marks" "_law_marks" 767 248 1 3 442 443 .none .none 444 770 771) ::
 (nat_lit 446,f3 "_law_marks" "_law_marks" JP "law_grooveway_k11_pages_refused" 757 445) ::
 (nat_lit 452,c3 "_law_asked" "_law_asked" 773 252 1 3 447 448 (.ref 449) (.ref 450) 451 781 782) ::
 (nat_lit 453,f3 "_law_asked" "_law_asked" kI "law_grooveway_k11_pages_refused" 757 452) ::
 (nat_lit 459,c3 "_law_bad_row" "_law_bad_row" 784 271 2 3 454 455 (.ref 456) (.ref 457) 458 791 792) ::
 (nat_lit 460,f3 "_law_bad_row" "_law_bad_row" kJ "law_grooveway_k11_pages_refused" 757 459) ::
 (nat_lit 464,c3 "_law_other" "_law_other" 794 281 2 3 461 462 .none .none 463 797 798) ::
 (nat_lit 465,f3 "_law_other" "_law_other" JQ "law_grooveway_k11_pages_refused" 757 464) ::
 (nat_lit 471,c3 "_law_bad_rule" "_law_bad_rule" 800 284 2 3 466 467 (.ref 468) (.ref 469) 470 809 810) ::
 (nat_lit 472,f3 "_law_bad_rule" "_law_bad_rule" kK "law_grooveway_k11_pages_refused" 757 471) ::
 (nat_lit 476,c3 "_law_good_rows" "_law_good_rows" 812 297 2 3 473 474 .none .none 475 815 816) ::
 (nat_lit 477,f3 "_law_good_rows" "_law_good_rows" JR "law_grooveway_k11_pages_refused" 757 476) ::
 (nat_lit 483,c3 "_law_page" "_law_page" 818 306 2 3 478 479 (.ref 480) (.ref 481) 482 826 827) ::
 (nat_lit 484,f3 "_law_page" "_law_page" kL "law_grooveway_k11_pages_refused" 757 483) ::
 (nat_lit 490,c3 "_law_spoilt" "_law_spoilt" 829 323 4 3 485 486 (.ref 487) (.ref 488) 489 841 842) ::
 (nat_lit 491,f3 "_law_spoilt" "_law_spoilt" kM "law_grooveway_k11_pages_refused" 757 490) ::
 (nat_lit 495,c3 "law" "law" 844 341 1 3 492 493 .none .none 494 847 848) ::
 (nat_lit 496,f3 "law" "law" JS "law_grooveway_k11_pages_refused" 757 495) ::
 (nat_lit 4,⟨(.type "module"),ja 0,.plain,#[]⟩) ::
 (nat_lit 3,⟨(.str "gap_maker.<locals>.<lambda>" 0),ja 383,.plain,#[]⟩) ::
 (nat_lit 3,⟨(.str "never_maker.<locals>.<lambda>" 0),ja 390,.plain,#[]⟩) ::
 (nat_lit 3,⟨(.str "sum_maker.<locals>.<lambda>" 0),ja 397,.plain,#[]⟩) ::
 (nat_lit 3,⟨(.str "turn_maker.<locals>.<lambda>" 0),ja 402,.plain,#[]⟩) ::
 (nat_lit 3,⟨(.str "alike_maker.<locals>.<lambda>" 0),ja 409,.plain,#[]⟩)::[]
abbrev kA:Params->jb:=λP=>(kP P).take 118++[(383,tabObj #[]),(390,tabObj #[]),(397,tabObj #[]),(402,tabObj #[]),(409,tabObj #[])]
set_option maxHeartbeats 0 in
theorem zu:met PySem.Challenge.pw_grooveway_k11_pages_refused=true:=by k_qdec
set_option maxHeartbeats 0 in
theorem zv:met kP=true:=by k_qdec
set_option maxHeartbeats 0 in
theorem Hf:∀w:jV,U6 PySem.Challenge.pw_grooveway_k11_pages_refused (view PySem.Challenge.pw_grooveway_k11_pages_refused [0,2,3,4,5,6,8,9,10,11,12,13,14,15,16,17,18,19,21,22,23,24,25,26,27,28,29,30,31,32,33,34,35,37,38,39,40,41,42,43,44,45,46]) ["Gap", "MAKERS"] (λs=>xlAt (view PySem.Challenge.pw_grooveway_k11_pages_refused [0,2,3,4,5,6,8,9,10,11,12,13,14,15,16,17,18,19,21,22,23,24,25,26,27,28,29,30,31,32,33,34,35,37,38,39,40,41,42,43,44,45,46]) [] s&&recOk PySem.Challenge.rw_grooveway_k11_pages_refused.row.toRowW.records s) (λs=>([2,3,20,30,31,32,43,44,55,56,67,68,83,84,86,87,93,94,100,101,107,108,114,115,128,129,135,142,149,156,163,166,167,168,169,179,185,186,192,199,202,203,216,217,223,226,227,240,241,247,250,251,266,267,273,276,277,292,293,299,306,309,310,323,324,330,337,344,347,348,354,355,361,362,366,367,373,374,380,381,387,388,394,395,399,400,406,407,413,414,415,421,422,428,429,433,434,440,441,445,446,452,453,459,460,464,465,471,472,476,477,483,484,490,491,495,496,4,383,390,397,402,409]:al jf).map s.heap.get?) (λw=>((kP w.params).take 118++[(383,tabObj #[]),(390,tabObj #[]),(397,tabObj #[]),(402,tabObj #[]),(409,tabObj #[])]:jb).map λp=>ja p.2) 8584 (w.withFollow "special-get-raises" jj):=λw=>by
 have _:=zu;have _:=zv;unfold U6;rewrite [PySem.W.Fast.te16894291641270603963,PySem.W.Fast.te4571267551869998695,Og,Oh,Of,Oa,u9,u8]
 kernel_rfl
set_option maxHeartbeats 0 in
theorem Hg:∀w:jV,U6 PySem.Challenge.pw_grooveway_k11_pages_refused (view PySem.Challenge.pw_grooveway_k11_pages_refused [0,2,3,4,5,6,8,9,10,11,12,13,14,15,16,17,18,19,21,22,23,24,25,26,27,28,29,30,31,32,33,34,35,37,38,39,40,41,42,43,44,45,46]) ["Gap", "MAKERS"] (λs=>xlAt (view PySem.Challenge.pw_grooveway_k11_pages_refused [0,2,3,4,5,6,8,9,10,11,12,13,14,15,16,17,18,19,21,22,23,24,25,26,27,28,29,30,31,32,33,34,35,37,38,39,40,41,42,43,44,45,46]) [] s&&recOk PySem.Challenge.rw_grooveway_k11_pages_refused.row.toRowW.records s) (λs=>([2,3,20,30,31,32,43,44,55,56,67,68,83,84,86,87,93,94,100,101,107,108,114,115,128,129,135,142,149,156,163,166,167,168,169,179,185,186,192,199,202,203,216,217,223,226,227,240,241,247,250,251,266,267,273,276,277,292,293,299,306,309,310,323,324,330,337,344,347,348,354,355,361,362,366,367,373,374,380,381,387,388,394,395,399,400,406,407,413,414,415,421,422,428,429,433,434,440,441,445,446,452,453,459,460,464,465,471,472,476,477,483,484,490,491,495,496,4,383,390,397,402,409]:al jf).map s.heap.get?) (λw=>((kP w.params).take 118++[(383,tabObj #[]),(390,tabObj #[]),(397,tabObj #[]),(402,tabObj #[]),(409,tabObj #[])]:jb).map λp=>ja p.2) 8584 (w.withFollow "special-get-raises" je):=λw=>by
 have _:=zu;have _:=zv;unfold U6;rewrite [PySem.W.Fast.te16894291641270603963,PySem.W.Fast.te4571267551869998695,Og,Oh,Of,Oa,u9,u8]
 kernel_rfl
theorem Hh:LeftO PySem.Challenge.pw_grooveway_k11_pages_refused (view PySem.Challenge.pw_grooveway_k11_pages_refused [0,2,3,4,5,6,8,9,10,11,12,13,14,15,16,17,18,19,21,22,23,24,25,26,27,28,29,30,31,32,33,34,35,37,38,39,40,41,42,43,44,45,46]) ["Gap", "MAKERS"] (λs=>xlAt (view PySem.Challenge.pw_grooveway_k11_pages_refused [0,2,3,4,5,6,8,9,10,11,12,13,14,15,16,17,18,19,21,22,23,24,25,26,27,28,29,30,31,32,33,34,35,37,38,39,40,41,42,43,44,45,46]) [] s&&recOk PySem.Challenge.rw_grooveway_k11_pages_refused.row.toRowW.records s) (λs=>([2,3,20,30,31,32,43,44,55,56,67,68,83,84,86,87,93,94,100,101,107,108,114,115,128,129,135,142,149,156,163,166,167,168,169,179,185,186,192,199,202,203,216,217,223,226,227,240,241,247,250,251,266,267,273,276,277,292,293,299,306,309,310,323,324,330,337,344,347,348,354,355,361,362,366,367,373,374,380,381,387,388,394,395,399,400,406,407,413,414,415,421,422,428,429,433,434,440,441,445,446,452,453,459,460,464,465,471,472,476,477,483,484,490,491,495,496,4,383,390,397,402,409]:al jf).map s.heap.get?) (λw=>((kP w.params).take 118++[(383,tabObj #[]),(390,tabObj #[]),(397,tabObj #[]),(402,tabObj #[]),(409,tabObj #[])]:jb).map λp=>ja p.2) 8584:=
 HT.gj "special-get-raises" rfl rfl (λ_=>rfl) Hf Hg
theorem zw:∀P,([2,3,20,30,31,32,43,44,55,56,67,68,83,84,86,87,93,94,100,101,107,108,114,115,128,129,135,142,149,156,163,166,167,168,169,179,185,186,192,199,202,203,216,217,223,226,227,240,241,247,250,251,266,267,273,276,277,292,293,299,306,309,310,323,324,330,337,344,347,348,354,355,361,362,366,367,373,374,380,381,387,388,394,395,399,400,406,407,413,414,415,421,422,428,429,433,434,440,441,445,446,452,453,459,460,464,465,471,472,476,477,483,484,490,491,495,496,4,383,390,397,402,409]:al jf)=(kA P).map (·.1):=λ_=>by kernel_rfl
noncomputable abbrev aX:al (jf×Str):=[(383,("gap_maker.<locals>.<lambda>" : Str)),(390,("never_maker.<locals>.<lambda>" : Str)),(397,("sum_maker.<locals>.<lambda>" : Str)),(402,("turn_maker.<locals>.<lambda>" : Str)),(409,("alike_maker.<locals>.<lambda>" : Str))]
theorem kP_tabs:∀P,YV (kP P)=aX:=λ_=>by kernel_rfl
end K11
namespace K11
open PySem PySem.Spec PyProof.Rows L2 DL
theorem bt{φ:EN->am aT}(h:VS G ow ow1 owB owC t φ):VS G ow ow1 owB owC t φ:=h
theorem Hi:yR (["sign", "marks"]:al Str):=by decide +kernel
theorem Hj:yR (["worth"]:al Str):=by decide +kernel
theorem Hk:yR (["rule"]:al Str):=by decide +kernel
theorem Hl:yR (["rule", "marks"]:al Str):=by decide +kernel
theorem Hm:yR (["words", "maker_of"]:al Str):=by decide +kernel
theorem Hn:yR (["rows", "words"]:al Str):=by decide +kernel
theorem gA:yR (["page", "rows", "marks", "makers", "number", "words", "maker"]:al Str):=by decide +kernel
theorem Ho:yR (["maker", "marks"]:al Str):=by decide +kernel
theorem ee:yR (["page", "kind", "row", "kinds", "e"]:al Str):=by decide +kernel
theorem pK {X:Cx} {j k:Nat} {x:Str} {st:qv} {e:qA} {es:al qA} (F:aO X.prog X.w X.K X.mg X.base bF j f fd ps sp) (hr:a4 k X.A) (D:Dg X.K X.mg x st f fd ps) (ha:PA X (e::es) t) (hj:autoParam (j<=k) ad) (hg:autoParam (Gl X x) ah) (hdb:autoParam ((x == ("__debug__" : Str))=false) ad) (he:autoParam (starEach (e::es) X.env=(jj,eval e X.env)::starEach es X.env) ah) (hpl:autoParam ((backTo pos (starEach es X.env)).any (·.1)=false) ah):PE X (.Call (.Name x p) (e::es) [] pos) (XB sp [] E0 t):=Yn (F.mono hj) hr hg D.g D.k D.b .nil Xv ha hdb he hpl
def ao:List Str:=["marks"]
def ap:List Str:=["row", "said"]
def aq:List Str:=["word", "figures"]
def ar:List Str:=["words", "numbers"]
def au:List Str:=["cell", "some", "step"]
def aw:List Str:=["marks", "cell", "near"]
def ax:List Str:=["marks", "cells", "mark", "rows", "signs", "turn"]
noncomputable def ay:List Str:=["script", "cut", "k", "cells", "marks", "page", "kind", "silent", "due", "number", "found"]
set_option hygiene false
seal L2.PE L2.PS L2.cK L2.PA L2.PG L2.gC L2.PI L2.PT L2.PC L2.PW L2.gf
local macro_rules|`(tactic|and_intros)=>`(tactic|repeat' first|(show L2.PE _ _ _;first|exact pv _|exact ZR|exact Yv _ (by decide +kernel)|refine Uk B8 ?_ ?_|refine XD (XE (K:=K)) ?_ ?_ (λ_ _=>rfl)|refine Uk AU ?_ ?_|refine UJ ?_|refine YH (UL (K:=K)) (by rfl) T.n_len OI ?_|refine Uk (DM (K:=K)) ?_ ?_|refine Uk AT ?_ ?_|refine lL (mi (K:=K)) ?_ ?_ ?_|exact rA|refine pK (HB T) hr T.p_QV ?_|refine Q1 ?_|refine Qj ET (by rfl) T.n_str boot_str ?_|exact J5|refine YH (tX (K:=K)) (by rfl) T.n_isinstance qR ?_|refine Uk CG ?_ ?_|refine QZ (ti (K:=K)) ?_ ?_ (by rfl)|refine VV (K:=K) yY O8 O6 sT ?_ ?_|refine VV (K:=K) yC PySem.F.slot_str_join PySem.F.type_str_join (Di (K:=K)) ?_ ?_|refine QZ (Ja (cA:=⟨t.c,K,be⟩) (hr.units)) ?_ ?_ (XO _)|refine rO ?_|refine AF ?_ ?_|refine YH (hV (K:=K)) (by rfl) T.n_all Wh ?_|exact QV (v:=.ty "bool") (by rfl) T.n_bool boot_bool rfl|exact QV (v:=.ty "int") (by rfl) T.n_int boot_int rfl|refine VV (K:=K) yC PySem.F.slot_str_split PySem.F.type_str_split D0 ?_ ?_|refine VV (K:=K) yY PySem.F.slot_list_insert PySem.F.type_list_insert Ga ?_ ?_|exact XY (by rfl) T.g_MARK_SIGNS T.r_MARK_SIGNS|refine VV (K:=K) yC PySem.F.slot_str_count PySem.F.type_str_count Dh ?_ ?_|refine V0 (by rfl) (aQ.mk1 (tn:=["sign"]) (cn:=["marks"]) (js:=[0]) (osc:=aA JJ) (oN:=ao) (by rfl) (by rfl) (by rfl) (by decide +kernel)) ?_ (λ_ _ _ _=>?_) (λ_ _ _ _=>?_) (λ_ _ _ _=>?_)|refine sr QY QY ?_ ?_ ?_|refine pK (Hr T) hr T.p_QH ?_|exact wu (.cons (Yv [109,97,114,107,115,32,97,114,101,32,50,32,116,111,32,52,32,117,110,108,105,107,101,32,115,109,97,108,108,32,108,101,116,116,101,114,115,32,111,114,32,102,105,103,117,114,101,115,44,32,110,111,116,32] (by decide +kernel)) (.cons (DP (pv 1)) .nil))|refine VV (K:=K) yC PySem.F.slot_str_partition PySem.F.type_str_partition D2 ?_ ?_|refine V0 (by rfl) (aQ.mk1 (tn:=["word"]) (cn:=[]) (js:=[]) (osc:=aA JM) (oN:=ap) (by rfl) (by rfl) (by rfl) (by decide +kernel)) ?_ (λ_ _ _ _=>?_) (λ_ _ _ _=>?_) (λ_ _ _ _=>?_)|refine pK (Hy T) hr T.p_Q0 ?_|exact XY (by rfl) T.g_FIGURES T.r_FIGURES|refine V0 (by rfl) (aQ.mk1 (tn:=["sign"]) (cn:=[]) (js:=[]) (osc:=aA JN) (oN:=aq) (by rfl) (by rfl) (by rfl) (by decide +kernel)) ?_ (λ_ _ _ _=>?_) (λ_ _ _ _=>?_) (λ_ _ _ _=>?_)|refine Qj Cg (by rfl) T.n_int boot_int ?_|refine pK (HA T) hr T.p_Q3 ?_|refine VV (K:=K) yC PySem.F.slot_str_startswith PySem.F.type_str_startswith Cq ?_ ?_|refine lA lC ?_|refine AI ?_ ?_ ?_|refine pK (HC T) hr T.p_QT ?_|refine V0 (by rfl) (aQ.mk1 (tn:=["word"]) (cn:=[]) (js:=[]) (osc:=aA X6) (oN:=ar) (by rfl) (by rfl) (by rfl) (by decide +kernel)) ?_ (λ_ _ _ _=>?_) (λ_ _ _ _=>?_) (λ_ _ _ _=>?_)|refine V0 (by rfl) (aQ.mk1 (tn:=["k"]) (cn:=["some", "cell", "step"]) (js:=[1,0,2]) (osc:=aA JP) (oN:=au) (by rfl) (by rfl) (by rfl) (by decide +kernel)) ?_ (λ_ _ _ _=>?_) (λ_ _ _ _=>?_) (λ_ _ _ _=>?_)|refine pK (HR T) hr T.p_QR ?_|refine VV (K:=K) yY PySem.F.slot_list_extend PySem.F.type_list_extend BL ?_ ?_|refine pK (HU T) hr T.p_QA ?_|refine pK (HS T) hr T.p_QB ?_|refine Uk se ?_ ?_|refine Uk (DO (K:=K)) ?_ ?_|refine Qj (DT (K:=K)) (by rfl) T.n_list boot_list ?_|refine pK (HQ T) hr T.p_QD ?_|refine YH (A9 (by rfl)) (by rfl) T.n_max boot_max ?_|refine YH (Ba (by rfl)) (by rfl) T.n_min boot_min ?_|refine pK (HM T) hr T.p_QC ?_|refine pK (HN T) hr T.p_QO ?_|refine pK (HV T) hr T.p_QW ?_|refine pK (HW T) hr T.p_QG ?_|refine pK (HP T) hr T.p_QQ ?_)|refine Zc ?_ ?_|exact Zk|(show L2.cK _ _ _;first|refine ZC ?_ ?_|refine YR ?_|exact Qe)|(show L2.PS _ _ _;first|refine Y7 (of_decide_eq_true (by kernel_rfl)) (by rfl) (by first|exact j8 rfl|exact qg rfl) ?_|refine Qf ?_|refine Qh ?_ ?_ ?_|refine YF ?_|refine rX PassesOwn.never (by rfl) ?_ ?_ ?_|refine AL ?_ ?_|refine we (by rfl) T.g_BadRule T.en_BadRule Dt ?_|refine we (by rfl) T.g_BadMarks T.en_BadMarks E6 ?_|refine XQ ?_ ?_ (by rfl)|refine ng (of_decide_eq_true (by kernel_rfl)) (by rfl) (by rfl) (by rfl) (aQ.mk1 (tn:=["sign"]) (cn:=["marks"]) (js:=[0]) (osc:=aA JQ) (oN:=aw) (by rfl) (by rfl) (by rfl) (by decide +kernel)) ?_ (λ_ _ _ _=>?_) (λ_ _ _ _=>?_) (λ_ _ _ _=>?_)|refine ng (of_decide_eq_true (by kernel_rfl)) (by rfl) (by rfl) (by rfl) (aQ.mk1 (tn:=["k"]) (cn:=["marks", "cells"]) (js:=[0,1]) (osc:=aA JR) (oN:=ax) (by rfl) (by rfl) (by rfl) (by decide +kernel)) ?_ (λ_ _ _ _=>?_) (λ_ _ _ _=>?_) (λ_ _ _ _=>?_)|refine ng (of_decide_eq_true (by kernel_rfl)) (by rfl) (by rfl) (by rfl) (aQ.mk1 (tn:=["step"]) (cn:=["cut", "k"]) (js:=[1,2]) (osc:=aA JS) (oN:=ay) (by rfl) (by rfl) (by rfl) (by decide +kernel)) ?_ (λ_ _ _ _=>?_) (λ_ _ _ _=>?_) (λ_ _ _ _=>?_))|exact Ui (of_decide_eq_true (by kernel_rfl)) (by rfl) (by first|exact j8 rfl|exact qg rfl)|refine tm (K:=K) ?_|refine lJ ?_|exact lI|(show L2.PT _ _ _;first|refine X9 (Ja (cA:=⟨t.c,K,be⟩) (hr.units)) ?_ ?_ (XO _)|refine X9 (Jb (cA:=⟨t.c,K,be⟩) (hr.units)) ?_ ?_ (XO _)|refine AE ?_|refine X9 A1 ?_ ?_ (XO _)|refine X9 A5 ?_ ?_ (XO _)|refine X9 (ti (K:=K)) ?_ ?_ (by rfl)|refine X9 (Cr (K:=K)) ?_ ?_ (by rfl)|refine ls ?_|refine AD ?_|refine PW.pt ?_)|(show L2.PW _ _ _;first|refine rK ?_ ?_|refine rH ?_|refine rG ?_|refine rJ ?_ ?_)|refine lu ?_ ?_|exact rR|exact Qk|refine BU ?_|refine lr ?_|(show L2.PI _ _ _ _;first|refine UM (K:=K) ?_|refine AS (by rfl) T.n_range ?_|refine Ek (K:=K) (by rfl) T.n_enumerate ?_|refine CA (by rfl) T.n_range ?_))
theorem Hq{q r:Ql}{ε:EN->am D}(h:VE G ow te q ε)(e:q=r):VE G ow te r ε:=e▸h
theorem cV{α β:Type}{p:α->Prop}{q:α->β->Prop}{a:α}{b:β}(h:q a b)(g:p a):∃a,p a/\∃b,q a b:=⟨a,g,b,h⟩
theorem zx{α:Type}{p q:α->Prop}{a:α}(h:q a)(g:p a):∃a,p a/\q a:=⟨a,g,h⟩
seal L2.bK L2.eS L2.bg PySem.compareOp PySem.binaryOp X1 Us UQ VE VF VA VT VI VG gH Za eC aB Zb az Zl ZH aU Zi Yr ZD Z6 ZS ZT ZI bH xB ZG bz ZK Z2 Y8 Zw Xd Yh bG iy bi Qu bA bU Zv dD aP aM bj bn cc Vv Yx
local macro_rules|`(tactic|ac_rfl)=>`(tactic|repeat' first|(show DL.VE _ _ _ _ _;apply Hq;first|refine' Zt rfl rfl|refine' Ze _|refine' ZE ib ?_ ?_|refine' ZE YO ?_ ?_|refine' ZE ic ?_ ?_|refine' Xj UO ?_|refine' XF [] (by rfl) ?_|refine' ZE tE ?_ ?_|refine' ZE ia ?_ ?_|refine' ZE tF ?_ ?_|refine' ZE Jc ?_ ?_|refine' tL ?_|refine' mz ?_|refine' ZE CJ ?_ ?_|refine' Xj EU ?_|refine' ZE CH ?_ ?_|refine' Je (K:=K) Dm ?_ ?_|refine' CM ?_ ?_|refine' Xj Jd ?_|refine' mK (c:=.ty _) (λ_ h=>h) T.isi_bool ?_|refine' mK (c:=.ty _) (λ_ h=>h) T.isi_int ?_|refine' Je (K:=K) D3 ?_ ?_|refine' XR (j8 rfl) ?_ (Xl (vc (.int 1))) Xk|refine' XR (j8 rfl) ?_ Xk (Xl (vc (.int 1)))|refine' XR (j8 rfl) ?_ (Xl (vc (.int 2))) Xk|refine' CD _ (by rfl)|refine' Je (K:=K) Dk ?_ ?_|refine' tK ?_ ?_ ?_|refine' DS (.cons (vc (.str [109,97,114,107,115,32,97,114,101,32,50,32,116,111,32,52,32,117,110,108,105,107,101,32,115,109,97,108,108,32,108,101,116,116,101,114,115,32,111,114,32,102,105,103,117,114,101,115,44,32,110,111,116,32])) (.cons (DR (Ze 1)) .nil))|refine' Je (K:=K) D4 ?_ ?_|refine' Xj CW ?_|refine' Je (K:=K) Dj ?_ ?_|refine' mB ?_|refine' CP ?_ ?_ ?_|refine' ZE tD ?_ ?_|refine' XR (j8 rfl) ?_ Xk (Xl (ZE ic (ZE YO (Ze 1) (vc (.int 0))) (vc (.int 4))))|refine' Xj CV ?_|refine' Xj CU ?_|refine' XR (j8 rfl) ?_ Xk (Xl (Ze 7))|refine' XR (j8 rfl) ?_ (Xl (Ze 7)) Xk|refine' XR (j8 rfl) ?_ Xk (Xl (ZE ib (Ze 7) (vc (.int 1))))|refine' XR (j8 rfl) ?_ (Xl (ZE ib (Ze 7) (vc (.int 1)))) Xk|refine' XR (j8 rfl) ?_ Xk (Xl (vc (.int 140)))|refine' XR (j8 rfl) ?_ Xk (Xl (ZE ic (ZE YO (Ze 3) (vc (.int 5))) (vc (.int 5))))|refine' VF.cl ?_)|refine' Zh ?_ ?_|exact Zp|(show DL.VT _ _ _ _;first|refine' Qo ?_|refine' mx ?_|refine' tJ ?_ ?_|exact Ur|refine' CK ?_|refine' tI ?_ ?_)|(show DL.VF _ _ _ _;first|refine' UN ?_|refine' Es ?_ ?_|refine' UP (by rfl) ?_ ?_ ?_ ?_|refine' nh (j8 rfl) ?_ (Xl (Ze 5)) Xk|refine' nh (j8 rfl) ?_ Xk (Xl (Ze 5))|refine' nh (j8 rfl) ?_ Xk (Xl (ZE ib (vc (.int 1)) (ZE ic (ZE tE (ZE YO (Ze 1) (vc (.int 1))) (vc (.int 9))) (vc (.int 5)))))|refine' DV ?_ ?_|refine' DU (j8 rfl) ?_)|exact Uu _ (by rfl) (by rfl)|refine' tT (K:=K) ?_|refine' mE _ (by rfl) (by rfl) ?_|exact tS|(show DL.VI _ _ _ _;first|refine' VY ?_|refine' C7 ?_ tV|refine' El ?_|refine' C8 ?_ Dc)|rfl)
theorem vc(d:D)(hs:autoParam (ZA d=true) ah):VE G ow (tC (bP d)) .cl (eC d):=Zt hs rfl
section
variable{P:jS}{w:jV}{K:jb}{mg:Str->am jc}{base:jX}{t:gy}
theorem zy(T:Txt w K mg t):aO P w K mg base bF 1 t.a_QF t.d_QF ["self", "row"] (QE t.c_BadRow (jE "row")):=
 FG (a:=[114,111,119,32]) (b:=[32,111,102,32,116,104,101,32,112,97,103,101,32,105,115,110,39,116,32,97,32,114,111,119,32,116,104,97,116,32,109,97,121,32,115,116,97,110,100,32,116,104,101,114,101]) T.p_QF.f Gy (by conv=>lhs;whnf) (by conv=>lhs;whnf) rfl rfl (by decide) (λcdv A outer s H E hr=>ZC (YF (Ft T.xi_BadRow T.bs_GrooveError (by rfl) T.g_GrooveError (Zc (pv 0) (Zc (wu (.cons (Yv [114,111,119,32] (by decide +kernel)) (.cons (DQ (pv 1)) (.cons (Yv [32,111,102,32,116,104,101,32,112,97,103,101,32,105,115,110,39,116,32,97,32,114,111,119,32,116,104,97,116,32,109,97,121,32,115,116,97,110,100,32,116,104,101,114,101] (by decide +kernel)) .nil)))) Zk)))) (YR (Fu T.xi_BadRow (pv 0) (pv 1))))
theorem Hr(T:Txt w K mg t):aO P w K mg base bF 1 t.a_QH t.d_QH ["marks"] (cp ⟨t.c,K,be⟩ 1 UG):=by
 refine Xa (φ:=JE) T.p_QH.f Gz (by conv=>lhs;whnf) (by conv=>lhs;whnf) (λcdv A outer s H E hr => ?_) rfl rfl;refine' cV (b:=[]) ((Zj (Yo ?_ (ZW ?_) Yd) (ZW ?_))) ?_
 ac_rfl
 and_intros
theorem pO(T:Txt w K mg t):aO P w K mg base bF 1 t.a_Q5 t.d_Q5 ["marks", "text"] (cp ⟨t.c,K,be⟩ 2 Uc):=by
 refine Xa (φ:=JF) T.p_Q5.f GA (by conv=>lhs;whnf) (by conv=>lhs;whnf) (λcdv A outer s H E hr => ?_) rfl rfl;refine' cV (b:=[]) ((ZW ?_)) ?_
 ac_rfl
 and_intros
theorem kN(T:Txt w K mg t):aO P w K mg base bF 1 t.a_Q4 t.d_Q4 ["number", "low", "high"] (cp ⟨t.c,K,be⟩ 3 XV):=by
 refine Xa (φ:=n8) T.p_Q4.f GB (by conv=>lhs;whnf) (by conv=>lhs;whnf) (λcdv A outer s H E hr => ?_) rfl rfl;refine' cV (b:=[]) ((Zj (Yo ?_ (ZW ?_) Yd) (ZW ?_))) ?_
 ac_rfl
 and_intros
theorem QP(T:Txt w K mg t):aO P w K mg base (eO P w) 1 t.a_Q7 t.d_Q7 ["holds", "words"] (gu ⟨t.c,K,be⟩ 2 (bQ iY) (bO iY)):=by
 refine Gg (r:=xS) T.p_Q7.f GC (by conv=>lhs;whnf) (by conv=>lhs;whnf) (λcdv A outer s H E hr => ?_) rfl rfl;refine' cV (b:=[]) ((xD ?_ (xE "BadRule" (by rfl) ?_) (V6 Yd))) ?_
 ac_rfl
 and_intros
theorem QQ(T:Txt w K mg t):aO P w K mg base (bJ P w) 2 t.a_QU t.d_QU ["self", "marks"] (YE ⟨t.c,K,be⟩ 2 (bQ YN) (bO YN)):=by
 refine U5 (r:=xT) T.p_QU.f GD (by conv=>lhs;whnf) (by conv=>lhs;whnf) (λcdv A outer s H E self hr => ?_) rfl rfl;refine' zx ((YL (xD ?_ (xE "BadMarks" (by rfl) ?_) (V6 Yd)) (V6 (XT 0 (by rfl) T.fl_marks ?_)))) ?_
 ac_rfl
 and_intros
theorem Hs(T:Txt w K mg t):aO P w K mg base (bJ P w) 3 t.a_QZ t.d_QZ ["self", "marks", "mark", "least", "most"] (YE ⟨t.c,K,be⟩ 5 (bQ XH) (bO XH)):=by
 have G_QU:aO P w K mg base (bJ P w) 2 t.a_QU t.d_QU ["self", "marks"] (YE ⟨t.c,K,be⟩ 2 (bQ YN) (bO YN)):=(QQ T).mono (by decide);have G_Q7:=(QP (P:=P) (w:=w) (base:=base) T).mono (k:=2) (by decide);have G_Q5:=(pO (P:=P) (w:=w) (base:=base) T).mono (k:=2) (by decide);have G_Q4:=(kN (P:=P) (w:=w) (base:=base) T).mono (k:=2) (by decide);refine U5 (r:=f_QZ) T.f_QZ GF (by conv=>lhs;whnf) (by conv=>lhs;whnf) (λcdv A outer s H E self hr => ?_) rfl rfl
 refine⟨_,(ZC (YF (Qr (by rfl) T.g_Rule T.cm_Rule_init G_QU hr T.p_QU.b .nil U0 (Zc (pv 0) (Zc (pv 1) Zk))))
 (ZC (YF (Yn (G_Q7) hr (by rfl) T.p_Q7.g T.p_Q7.k T.p_Q7.b .nil Xm (Zc (Yn (G_Q5) hr (by rfl) T.p_Q5.g T.p_Q5.k T.p_Q5.b .nil Xv (Zc (pv 1) (Zc (pv 2) Zk))) (Zc (Yv [97,32,71,97,112,39,115,32,109,97,114,107,32,105,115,32,111,110,101,32,111,102,32,116,104,101,32,109,97,114,107,115] (by decide +kernel)) Zk))))
 (ZC (YF (Yn (G_Q7) hr (by rfl) T.p_Q7.g T.p_Q7.k T.p_Q7.b .nil Xm (Zc (Yn (G_Q4) hr (by rfl) T.p_Q4.g T.p_Q4.k T.p_Q4.b .nil Xv (Zc (pv 3) (Zc ZR (Zc ZR Zk)))) (Zc (Yv [97,32,71,97,112,39,115,32,108,101,97,115,116,32,105,115,32,102,114,111,109,32,48,32,116,111,32,56] (by decide +kernel)) Zk))))
 (ZC (YF (Yn (G_Q7) hr (by rfl) T.p_Q7.g T.p_Q7.k T.p_Q7.b .nil Xm (Zc (AG (AC (lr (pv 4))) (rO (Yn (G_Q4) hr (by rfl) T.p_Q4.g T.p_Q4.k T.p_Q4.b .nil Xv (Zc (pv 4) (Zc (pv 3) (Zc ZR Zk)))))) (Zc (Yv [97,32,71,97,112,39,115,32,109,111,115,116,32,105,115,32,78,111,110,101,32,111,114,32,102,114,111,109,32,108,101,97,115,116,32,116,111,32,56] (by decide +kernel)) Zk))))
 (ZC (XQ (pv 0) (pv 2) (by rfl))
 (ZC (XQ (pv 0) (pv 3) (by rfl))
 (YR (XQ (pv 0) (pv 4) (by rfl))))))))),?_⟩
 unfold f_QZ;exact(YL (QL 0 (by rfl) [] (by rfl) (Zh (Ze 1) Zp))
 (YL (Xn Xr Xs (XF [] (by rfl) (Zh (Ze 1) (Zh (Ze 2) Zp))))
 (YL (Xn Xr Xs (XF [] (by rfl) (Zh (Ze 3) (Zh (Zt (d:=(.int 0)) (by rfl) (by rfl)) (Zh (Zt (d:=(.int 8)) (by rfl) (by rfl)) Zp)))))
 (YL (Xn Xr Xs (CN (mz (Ze 4)) (XF [] (by rfl) (Zh (Ze 4) (Zh (Ze 3) (Zh (Zt (d:=(.int 8)) (by rfl) (by rfl)) Zp))))))
 (V6 (Zj (XT 0 (by rfl) T.fl_mark (Ze 2))
 (Zj (XT 0 (by rfl) T.fl_least (Ze 3))
 (XT 0 (by rfl) T.fl_most (Ze 4)))))))))
theorem Ht(T:Txt w K mg t):aO P w K mg base (bJ P w) 3 t.a_QM t.d_QM ["self", "marks", "word"] (YE ⟨t.c,K,be⟩ 3 (bQ Ud) (bO Ud)):=by
 have G_QU:aO P w K mg base (bJ P w) 2 t.a_QU t.d_QU ["self", "marks"] (YE ⟨t.c,K,be⟩ 2 (bQ YN) (bO YN)):=(QQ T).mono (by decide);have G_Q7:=(QP (P:=P) (w:=w) (base:=base) T).mono (k:=2) (by decide);have G_Q5:=(pO (P:=P) (w:=w) (base:=base) T).mono (k:=2) (by decide);refine U5 (r:=n9) T.p_QM.f GG (by conv=>lhs;whnf) (by conv=>lhs;whnf) (λcdv A outer s H E self hr => ?_) rfl rfl
 refine⟨_,(ZC (YF (Qr (by rfl) T.g_Rule T.cm_Rule_init G_QU hr T.p_QU.b .nil U0 (Zc (pv 0) (Zc (pv 1) Zk))))
 (ZC (YF (Yn (G_Q7) hr (by rfl) T.p_Q7.g T.p_Q7.k T.p_Q7.b .nil Xm (Zc (sr QY QY ZR (YH (UL (K:=K)) (by rfl) T.n_len OI (Zc (pv 2) Zk)) ZR) (Zc (Yv [97,32,78,101,118,101,114,39,115,32,119,111,114,100,32,104,97,115,32,49,32,116,111,32,54,32,115,105,103,110,115] (by decide +kernel)) Zk))))
 (ZC (YF (Yn (G_Q7) hr (by rfl) T.p_Q7.g T.p_Q7.k T.p_Q7.b .nil Xm (Zc (YH (hV (K:=K)) (by rfl) T.n_all Wh (Zc (V0 (by rfl) (aQ.mk1 (tn:=["sign"]) (cn:=["marks"]) (js:=[1]) (osc:=aA JK) (oN:=["self", "marks", "word"]) (by rfl) (by rfl) (by rfl) (by decide +kernel)) (UM (K:=K) (pv 2)) (λC s₂ H₂ fp=>Ui (i:=0) Hi) (λC s₂ H₂ fp=>Qk) (λC s₂ H₂ fp=>(Yn (G_Q5) hr (by rfl) T.p_Q5.g T.p_Q5.k T.p_Q5.b .nil Xv (Zc (pv 1) (Zc (pv 0) Zk))))) Zk)) (Zc (Yv [97,32,78,101,118,101,114,39,115,32,119,111,114,100,32,105,115,32,111,102,32,109,97,114,107,115] (by decide +kernel)) Zk))))
 (YR (XQ (pv 0) (pv 2) (by rfl)))))),?_⟩
 unfold n9;exact(YL (QL 0 (by rfl) [] (by rfl) (Zh (Ze 1) Zp))
 (YL (Xn Xr Xs (tK (Zt (d:=(.int 1)) (by rfl) (by rfl)) (Xj UO (Zh (Ze 2) Zp)) (Zt (d:=(.int 6)) (by rfl) (by rfl))))
 (YL (Xn Xr Xs (Xj Jd (Zh (VF.cl (UP (by rfl) (VY (Ze 2)) (Uu 0) Ur (XF [] (by rfl) (Zh (Ze 1) (Zh (Ze 0) Zp))))) Zp)))
 (V6 (XT 0 (by rfl) T.fl_word (Ze 2))))))
theorem Hu(T:Txt w K mg t):aO P w K mg base (bJ P w) 3 t.a_Q1 t.d_Q1 ["self", "marks", "worths", "low", "high"] (YE ⟨t.c,K,be⟩ 5 (bQ Ue) (bO Ue)):=by
 have G_QU:aO P w K mg base (bJ P w) 2 t.a_QU t.d_QU ["self", "marks"] (YE ⟨t.c,K,be⟩ 2 (bQ YN) (bO YN)):=(QQ T).mono (by decide);have G_Q7:=(QP (P:=P) (w:=w) (base:=base) T).mono (k:=2) (by decide);have G_Q4:=(kN (P:=P) (w:=w) (base:=base) T).mono (k:=2) (by decide);refine U5 (r:=pb) T.p_Q1.f GH (by conv=>lhs;whnf) (by conv=>lhs;whnf) (λcdv A outer s H E self hr => ?_) rfl rfl
 refine⟨_,(ZC (YF (Qr (by rfl) T.g_Rule T.cm_Rule_init G_QU hr T.p_QU.b .nil U0 (Zc (pv 0) (Zc (pv 1) Zk))))
 (ZC (YF (Yn (G_Q7) hr (by rfl) T.p_Q7.g T.p_Q7.k T.p_Q7.b .nil Xm (Zc (QZ (Ja (cA:=⟨t.c,K,be⟩) (hr.units)) (YH (UL (K:=K)) (by rfl) T.n_len OI (Zc (pv 2) Zk)) (YH (UL (K:=K)) (by rfl) T.n_len OI (Zc (pv 1) Zk)) (XO _)) (Zc (Yv [97,32,83,117,109,32,104,97,115,32,97,115,32,109,97,110,121,32,119,111,114,116,104,115,32,97,115,32,116,104,101,114,101,32,97,114,101,32,109,97,114,107,115] (by decide +kernel)) Zk))))
 (ZC (YF (Yn (G_Q7) hr (by rfl) T.p_Q7.g T.p_Q7.k T.p_Q7.b .nil Xm (Zc (YH (hV (K:=K)) (by rfl) T.n_all Wh (Zc (V0 (by rfl) (aQ.mk1 (tn:=["worth"]) (cn:=[]) (js:=[]) (osc:=aA JL) (oN:=["self", "marks", "worths", "low", "high"]) (by rfl) (by rfl) (by rfl) (by decide +kernel)) (UM (K:=K) (pv 2)) (λC s₂ H₂ fp=>Ui (i:=0) Hj) (λC s₂ H₂ fp=>Qk) (λC s₂ H₂ fp=>(Yn (G_Q4) hr (by rfl) T.p_Q4.g T.p_Q4.k T.p_Q4.b .nil Xv (Zc (pv 0) (Zc (lA lC ZR) (Zc ZR Zk)))))) Zk)) (Zc (Yv [97,32,83,117,109,39,115,32,119,111,114,116,104,115,32,97,114,101,32,102,114,111,109,32,45,51,32,116,111,32,51] (by decide +kernel)) Zk))))
 (ZC (YF (Yn (G_Q7) hr (by rfl) T.p_Q7.g T.p_Q7.k T.p_Q7.b .nil Xm (Zc (Yn (G_Q4) hr (by rfl) T.p_Q4.g T.p_Q4.k T.p_Q4.b .nil Xv (Zc (pv 3) (Zc (lA lC ZR) (Zc ZR Zk)))) (Zc (Yv [97,32,83,117,109,39,115,32,108,111,119,32,105,115,32,102,114,111,109,32,45,56,32,116,111,32,48] (by decide +kernel)) Zk))))
 (ZC (YF (Yn (G_Q7) hr (by rfl) T.p_Q7.g T.p_Q7.k T.p_Q7.b .nil Xm (Zc (Yn (G_Q4) hr (by rfl) T.p_Q4.g T.p_Q4.k T.p_Q4.b .nil Xv (Zc (pv 4) (Zc ZR (Zc ZR Zk)))) (Zc (Yv [97,32,83,117,109,39,115,32,104,105,103,104,32,105,115,32,102,114,111,109,32,48,32,116,111,32,56] (by decide +kernel)) Zk))))
 (ZC (XQ (pv 0) (Qj (mj (K:=K)) (by rfl) T.n_tuple WC (Zc (pv 2) Zk)) (by rfl))
 (ZC (XQ (pv 0) (pv 3) (by rfl))
 (YR (XQ (pv 0) (pv 4) (by rfl)))))))))),?_⟩
 unfold pb;exact(YL (QL 0 (by rfl) [] (by rfl) (Zh (Ze 1) Zp))
 (YL (Xn Xr Xs (ZE ia (Xj UO (Zh (Ze 2) Zp)) (Xj UO (Zh (Ze 1) Zp))))
 (YL (Xn Xr Xs (Xj Jd (Zh (VF.cl (UP (by rfl) (VY (Ze 2)) (Uu 0) Ur (XF [] (by rfl) (Zh (Ze 0) (Zh (mB (Zt (d:=(.int 3)) (by rfl) (by rfl))) (Zh (Zt (d:=(.int 3)) (by rfl) (by rfl)) Zp)))))) Zp)))
 (YL (Xn Xr Xs (XF [] (by rfl) (Zh (Ze 3) (Zh (mB (Zt (d:=(.int 8)) (by rfl) (by rfl))) (Zh (Zt (d:=(.int 0)) (by rfl) (by rfl)) Zp)))))
 (YL (Xn Xr Xs (XF [] (by rfl) (Zh (Ze 4) (Zh (Zt (d:=(.int 0)) (by rfl) (by rfl)) (Zh (Zt (d:=(.int 8)) (by rfl) (by rfl)) Zp)))))
 (V6 (Zj (XT 0 (by rfl) T.fl_worths (ie (Zh (Ze 2) Zp)))
 (Zj (XT 0 (by rfl) T.fl_low (Ze 3))
 (XT 0 (by rfl) T.fl_high (Ze 4))))))))))
theorem Hv(T:Txt w K mg t):aO P w K mg base (bJ P w) 3 t.a_QS t.d_QS ["self", "marks", "mark", "every", "at"] (YE ⟨t.c,K,be⟩ 5 (bQ XW) (bO XW)):=by
 have G_QU:aO P w K mg base (bJ P w) 2 t.a_QU t.d_QU ["self", "marks"] (YE ⟨t.c,K,be⟩ 2 (bQ YN) (bO YN)):=(QQ T).mono (by decide);have G_Q7:=(QP (P:=P) (w:=w) (base:=base) T).mono (k:=2) (by decide);have G_Q5:=(pO (P:=P) (w:=w) (base:=base) T).mono (k:=2) (by decide);have G_Q4:=(kN (P:=P) (w:=w) (base:=base) T).mono (k:=2) (by decide);refine U5 (r:=U7) T.p_QS.f GI (by conv=>lhs;whnf) (by conv=>lhs;whnf) (λcdv A outer s H E self hr => ?_) rfl rfl
 refine⟨_,(ZC (YF (Qr (by rfl) T.g_Rule T.cm_Rule_init G_QU hr T.p_QU.b .nil U0 (Zc (pv 0) (Zc (pv 1) Zk))))
 (ZC (YF (Yn (G_Q7) hr (by rfl) T.p_Q7.g T.p_Q7.k T.p_Q7.b .nil Xm (Zc (Yn (G_Q5) hr (by rfl) T.p_Q5.g T.p_Q5.k T.p_Q5.b .nil Xv (Zc (pv 1) (Zc (pv 2) Zk))) (Zc (Yv [97,32,84,117,114,110,39,115,32,109,97,114,107,32,105,115,32,111,110,101,32,111,102,32,116,104,101,32,109,97,114,107,115] (by decide +kernel)) Zk))))
 (ZC (YF (Yn (G_Q7) hr (by rfl) T.p_Q7.g T.p_Q7.k T.p_Q7.b .nil Xm (Zc (Yn (G_Q4) hr (by rfl) T.p_Q4.g T.p_Q4.k T.p_Q4.b .nil Xv (Zc (pv 3) (Zc ZR (Zc ZR Zk)))) (Zc (Yv [97,32,84,117,114,110,39,115,32,101,118,101,114,121,32,105,115,32,102,114,111,109,32,49,32,116,111,32,54] (by decide +kernel)) Zk))))
 (ZC (YF (Yn (G_Q7) hr (by rfl) T.p_Q7.g T.p_Q7.k T.p_Q7.b .nil Xm (Zc (Yn (G_Q4) hr (by rfl) T.p_Q4.g T.p_Q4.k T.p_Q4.b .nil Xv (Zc (pv 4) (Zc ZR (Zc (Uk se (pv 3) ZR) Zk)))) (Zc (Yv [97,32,84,117,114,110,39,115,32,97,116,32,105,115,32,102,114,111,109,32,48,32,116,111,32,111,110,101,32,98,101,108,111,119,32,101,118,101,114,121] (by decide +kernel)) Zk))))
 (ZC (XQ (pv 0) (pv 2) (by rfl))
 (ZC (XQ (pv 0) (pv 3) (by rfl))
 (YR (XQ (pv 0) (pv 4) (by rfl))))))))),?_⟩
 unfold U7;exact(YL (QL 0 (by rfl) [] (by rfl) (Zh (Ze 1) Zp))
 (YL (Xn Xr Xs (XF [] (by rfl) (Zh (Ze 1) (Zh (Ze 2) Zp))))
 (YL (Xn Xr Xs (XF [] (by rfl) (Zh (Ze 3) (Zh (Zt (d:=(.int 1)) (by rfl) (by rfl)) (Zh (Zt (d:=(.int 6)) (by rfl) (by rfl)) Zp)))))
 (YL (Xn Xr Xs (XF [] (by rfl) (Zh (Ze 4) (Zh (Zt (d:=(.int 0)) (by rfl) (by rfl)) (Zh (ZE tD (Ze 3) (Zt (d:=(.int 1)) (by rfl) (by rfl))) Zp)))))
 (V6 (Zj (XT 0 (by rfl) T.fl_mark (Ze 2))
 (Zj (XT 0 (by rfl) T.fl_every (Ze 3))
 (XT 0 (by rfl) T.fl_at (Ze 4)))))))))
theorem Hw(T:Txt w K mg t):aO P w K mg base (bJ P w) 3 t.a_QK t.d_QK ["self", "marks", "most"] (YE ⟨t.c,K,be⟩ 3 (bQ Vg) (bO Vg)):=by
 have G_QU:aO P w K mg base (bJ P w) 2 t.a_QU t.d_QU ["self", "marks"] (YE ⟨t.c,K,be⟩ 2 (bQ YN) (bO YN)):=(QQ T).mono (by decide);have G_Q7:=(QP (P:=P) (w:=w) (base:=base) T).mono (k:=2) (by decide);have G_Q4:=(kN (P:=P) (w:=w) (base:=base) T).mono (k:=2) (by decide);refine U5 (r:=JG) T.p_QK.f GJ (by conv=>lhs;whnf) (by conv=>lhs;whnf) (λcdv A outer s H E self hr => ?_) rfl rfl
 refine⟨_,(ZC (YF (Qr (by rfl) T.g_Rule T.cm_Rule_init G_QU hr T.p_QU.b .nil U0 (Zc (pv 0) (Zc (pv 1) Zk))))
 (ZC (YF (Yn (G_Q7) hr (by rfl) T.p_Q7.g T.p_Q7.k T.p_Q7.b .nil Xm (Zc (Yn (G_Q4) hr (by rfl) T.p_Q4.g T.p_Q4.k T.p_Q4.b .nil Xv (Zc (pv 2) (Zc ZR (Zc ZR Zk)))) (Zc (Yv [97,110,32,65,108,105,107,101,39,115,32,109,111,115,116,32,105,115,32,102,114,111,109,32,49,32,116,111,32,54] (by decide +kernel)) Zk))))
 (YR (XQ (pv 0) (pv 2) (by rfl))))),?_⟩
 unfold JG;exact(YL (QL 0 (by rfl) [] (by rfl) (Zh (Ze 1) Zp))
 (YL (Xn Xr Xs (XF [] (by rfl) (Zh (Ze 2) (Zh (Zt (d:=(.int 1)) (by rfl) (by rfl)) (Zh (Zt (d:=(.int 6)) (by rfl) (by rfl)) Zp)))))
 (V6 (XT 0 (by rfl) T.fl_most (Ze 2)))))
theorem Hx(T:Txt w K mg t):aO P w K mg base (bJ P w) 3 t.a_Q2 t.d_Q2 ["self", "marks", "rules"] (YE ⟨t.c,K,be⟩ 3 (bQ Vh) (bO Vh)):=by
 have G_QU:aO P w K mg base (bJ P w) 2 t.a_QU t.d_QU ["self", "marks"] (YE ⟨t.c,K,be⟩ 2 (bQ YN) (bO YN)):=(QQ T).mono (by decide);have G_Q7:=(QP (P:=P) (w:=w) (base:=base) T).mono (k:=2) (by decide);refine U5 (r:=pc) T.p_Q2.f GK (by conv=>lhs;whnf) (by conv=>lhs;whnf) (λcdv A outer s H E self hr => ?_) rfl rfl;refine⟨_,(ZC (YF (Qr (by rfl) T.g_Rule T.cm_Rule_init G_QU hr T.p_QU.b .nil U0 (Zc (pv 0) (Zc (pv 1) Zk))))
 (ZC (YF (Yn (G_Q7) hr (by rfl) T.p_Q7.g T.p_Q7.k T.p_Q7.b .nil Xm (Zc (QZ QY (YH (UL (K:=K)) (by rfl) T.n_len OI (Zc (pv 2) Zk)) ZR (XO _)) (Zc (Yv [97,110,32,65,108,108,32,104,97,115,32,97,116,32,109,111,115,116,32,54,32,114,117,108,101,115] (by decide +kernel)) Zk))))
 (ZC (YF (Yn (G_Q7) hr (by rfl) T.p_Q7.g T.p_Q7.k T.p_Q7.b .nil Xm (Zc (AH (YH (Cs (K:=K)) (by rfl) T.n_any boot_any (Zc (V0 (by rfl) (aQ.mk1 (tn:=["rule"]) (cn:=[]) (js:=[]) (osc:=aA QO) (oN:=["self", "marks", "rules"]) (by rfl) (by rfl) (by rfl) (by decide +kernel)) (UM (K:=K) (pv 2)) (λC s₂ H₂ fp=>Ui (i:=0) Hk) (λC s₂ H₂ fp=>Qk) (λC s₂ H₂ fp=>(YH (tX (K:=K)) (by rfl) T.n_isinstance qR (Zc (pv 0) (Zc (XY (v:=.ref (t.c "All")) (by rfl) T.g_All (by rfl)) Zk))))) Zk))) (Zc (Yv [110,111,32,114,117,108,101,32,105,110,32,97,110,32,65,108,108,32,105,115,32,97,110,32,65,108,108] (by decide +kernel)) Zk))))
 (ZC (YF (Yn (G_Q7) hr (by rfl) T.p_Q7.g T.p_Q7.k T.p_Q7.b .nil Xm (Zc (YH (hV (K:=K)) (by rfl) T.n_all Wh (Zc (V0 (by rfl) (aQ.mk1 (tn:=["rule"]) (cn:=["marks"]) (js:=[1]) (osc:=aA QO) (oN:=["self", "marks", "rules"]) (by rfl) (by rfl) (by rfl) (by decide +kernel)) (UM (K:=K) (pv 2)) (λC s₂ H₂ fp=>Ui (i:=0) Hl) (λC s₂ H₂ fp=>Qk) (λC s₂ H₂ fp=>(QZ (Ja (cA:=⟨t.c,K,be⟩) (hr.units)) (Cu (K:=K) (pv 0)) (pv 1) (XO _)))) Zk)) (Zc (Yv [116,104,101,32,114,117,108,101,115,32,105,110,32,97,110,32,65,108,108,32,97,114,101,32,111,102,32,105,116,115,32,109,97,114,107,115] (by decide +kernel)) Zk))))
 (YR (XQ (pv 0) (Qj (mj (K:=K)) (by rfl) T.n_tuple WC (Zc (pv 2) Zk)) (by rfl))))))),?_⟩
 unfold pc;exact(YL (QL 0 (by rfl) [] (by rfl) (Zh (Ze 1) Zp))
 (YL (Xn Xr Xs (ZE tF (Xj UO (Zh (Ze 2) Zp)) (Zt (d:=(.int 6)) (by rfl) (by rfl))))
 (YL (Xn Xr Xs (CO (Xj Jd (Zh (VF.cl (UP (by rfl) (VY (Ze 2)) (Uu 0) Ur (mK (λ_ h=>h) T.isi_All (Ze 0)))) Zp))))
 (YL (Xn Xr Xs (Xj Jd (Zh (VF.cl (UP (by rfl) (VY (Ze 2)) (Uu 0) Ur (ZE ia (Do T.fl_marks (Ze 0)) (Ze 1)))) Zp)))
 (V6 (XT 0 (by rfl) T.fl_rules (ie (Zh (Ze 2) Zp))))))))
theorem Hy(T:Txt w K mg t):aO P w K mg base bF 1 t.a_Q0 t.d_Q0 ["row"] (cp ⟨t.c,K,be⟩ 1 iZ):=by
 refine Xa (φ:=pe) T.p_Q0.f GL (by conv=>lhs;whnf) (by conv=>lhs;whnf) (λcdv A outer s H E hr => ?_) rfl rfl;refine' cV (b:=[]) ((Zj (bt (ow1:=[]) (Zo 1 ?_)) (ZW ?_))) ?_
 ac_rfl
 and_intros
theorem Hz(T:Txt w K mg t):aO P w K mg base bF 2 t.a_Q6 t.d_Q6 ["page"] (cp ⟨t.c,K,be⟩ 1 i0):=by
 refine Xa (φ:=xU) T.p_Q6.f GN (by conv=>lhs;whnf) (by conv=>lhs;whnf) (λcdv A outer s H E hr => ?_) rfl rfl;refine' cV (b:=[]) ((Zj (bt (ow1:=[1]) (Qq 1 ?_)) (Zj (io ?_ ?_ (Zj (bt (ow1:=[1]) (Zo 4 ?_)) (Yo ?_ (ik 1 (by rfl) ?_) Yd))) (VS.frz (ow1:=[]) 1 (ZW ?_))))) ?_
 ac_rfl
 and_intros
theorem HA(T:Txt w K mg t):aO P w K mg base bF 1 t.a_Q3 t.d_Q3 ["word", "figures"] (cp ⟨t.c,K,be⟩ 2 xW):=by
 refine Xa (φ:=xV) T.p_Q3.f GO (by conv=>lhs;whnf) (by conv=>lhs;whnf) (λcdv A outer s H E hr => ?_) rfl rfl;refine' cV (b:=[]) ((Zj (Yo ?_ (ZW ?_) Yd) (Zj (Yo ?_ (ZW ?_) Yd) (Zj (Yo ?_ (ZW ?_) Yd) (ZW ?_))))) ?_
 ac_rfl
 and_intros
theorem HB(T:Txt w K mg t):aO P w K mg base bF 2 t.a_QV t.d_QV ["word"] (cp ⟨t.c,K,be⟩ 1 VH):=by
 refine Xa (φ:=xX) T.p_QV.f GP (by conv=>lhs;whnf) (by conv=>lhs;whnf) (λcdv A outer s H E hr => ?_) rfl rfl;refine' cV (b:=[]) ((ZW ?_)) ?_
 ac_rfl
 and_intros
theorem HC(T:Txt w K mg t):aO P w K mg base bF 3 t.a_QT t.d_QT ["word"] (cp ⟨t.c,K,be⟩ 1 JH):=by
 refine Xa (φ:=xY) T.p_QT.f GQ (by conv=>lhs;whnf) (by conv=>lhs;whnf) (λcdv A outer s H E hr => ?_) rfl rfl;refine' cV (b:=[]) ((Zj (Yo ?_ (ZW ?_) Yd) (Zj (bt (ow1:=[]) (Zo 1 ?_)) (ZW ?_)))) ?_
 ac_rfl
 and_intros
theorem zz(T:Txt w K mg t):aO P w K mg base bF 3 t.a_QX t.d_QX ["words"] (cp ⟨t.c,K,be⟩ 1 i4):=by
 refine Jq (i:=0) (js:=[0,1,2]) (φ:=f_QX) T.f_QX GR (by conv=>lhs;whnf) (by conv=>lhs;whnf) rfl (by kernel_rfl) T.cd_gap_maker T.nk_gap_maker T.tb_gap_maker (λA outer s H E=>⟨_,rfl,(by((repeat (refine qt.mpr ⟨rfl,?_⟩));(exact λ_ h=>nomatch h))),(λi y hy=>match i,hy with|0,hy=>by cases hy;exact⟨0,_,rfl,rfl,.inl rfl,(by first|exact j8 rfl|exact qg (j8 rfl)|exact qg (qg rfl)),rfl⟩|1,hy=>by cases hy;exact⟨1,_,rfl,rfl,.inl rfl,(by first|exact j8 rfl|exact qg (j8 rfl)|exact qg (qg rfl)),rfl⟩|2,hy=>by cases hy;exact⟨2,_,rfl,rfl,.inl rfl,(by first|exact j8 rfl|exact qg (j8 rfl)|exact qg (qg rfl)),rfl⟩|_+3,hy=>by cases hy),rfl,rfl,rfl⟩) (λA outer s H E hr => ?_) rfl rfl
 refine' cV (b:=[]) ((Zj (Yo ?_ (ZW ?_) Yd) (Zj (bt (ow1:=[]) (Zo 1 ?_)) (Zj (bt (ow1:=[]) (Zo 2 ?_)) (Yo ?_ (ZW ?_) Yd))))) ?_
 ac_rfl
 and_intros
theorem zA(T:Txt w K mg t):aO P w K mg base bF 1 t.a_QE t.d_QE ["words"] (cp ⟨t.c,K,be⟩ 1 ph):=by
 refine Jq (i:=1) (js:=[0]) (φ:=f_QE) T.f_QE GS (by conv=>lhs;whnf) (by conv=>lhs;whnf) rfl (by kernel_rfl) T.cd_never_maker T.nk_never_maker T.tb_never_maker (λA outer s H E=>⟨_,rfl,(by((repeat (refine qt.mpr ⟨rfl,?_⟩));(exact λ_ h=>nomatch h))),(λi y hy=>match i,hy with|0,hy=>by cases hy;exact⟨0,_,rfl,rfl,.inl rfl,(by first|exact j8 rfl|exact qg (j8 rfl)|exact qg (qg rfl)),rfl⟩|_+1,hy=>by cases hy),rfl,rfl,rfl⟩) (λA outer s H E hr => ?_) rfl rfl
 refine' cV (b:=[]) ((Yo ?_ (ZW ?_) Yd)) ?_
 ac_rfl
 and_intros
theorem zB(T:Txt w K mg t):aO P w K mg base bF 4 t.a_QY t.d_QY ["words"] (cp ⟨t.c,K,be⟩ 1 pi):=by
 refine Jq (i:=2) (js:=[1]) (φ:=f_QY) T.f_QY GU (by conv=>lhs;whnf) (by conv=>lhs;whnf) rfl (by kernel_rfl) T.cd_sum_maker T.nk_sum_maker T.tb_sum_maker (λA outer s H E=>⟨_,rfl,(by((repeat (refine qt.mpr ⟨rfl,?_⟩));(exact λ_ h=>nomatch h))),(λi y hy=>match i,hy with|0,hy=>by cases hy;exact⟨1,_,rfl,rfl,.inl rfl,(by first|exact j8 rfl|exact qg (j8 rfl)|exact qg (qg rfl)),rfl⟩|_+1,hy=>by cases hy),rfl,rfl,rfl⟩) (λA outer s H E hr => ?_) rfl rfl
 refine' cV (b:=[]) ((Zj (Yo ?_ (ZW ?_) Yd) (Zj (bt (ow1:=[]) (Zo 1 ?_)) (Yo ?_ (ZW ?_) Yd)))) ?_
 ac_rfl
 and_intros
theorem zC(T:Txt w K mg t):aO P w K mg base bF 3 t.a_QL t.d_QL ["words"] (cp ⟨t.c,K,be⟩ 1 i5):=by
 refine Jq (i:=3) (js:=[0,1,2]) (φ:=f_QL) T.f_QL GV (by conv=>lhs;whnf) (by conv=>lhs;whnf) rfl (by kernel_rfl) T.cd_turn_maker T.nk_turn_maker T.tb_turn_maker (λA outer s H E=>⟨_,rfl,(by((repeat (refine qt.mpr ⟨rfl,?_⟩));(exact λ_ h=>nomatch h))),(λi y hy=>match i,hy with|0,hy=>by cases hy;exact⟨0,_,rfl,rfl,.inl rfl,(by first|exact j8 rfl|exact qg (j8 rfl)|exact qg (qg rfl)),rfl⟩|1,hy=>by cases hy;exact⟨1,_,rfl,rfl,.inl rfl,(by first|exact j8 rfl|exact qg (j8 rfl)|exact qg (qg rfl)),rfl⟩|2,hy=>by cases hy;exact⟨2,_,rfl,rfl,.inl rfl,(by first|exact j8 rfl|exact qg (j8 rfl)|exact qg (qg rfl)),rfl⟩|_+3,hy=>by cases hy),rfl,rfl,rfl⟩) (λA outer s H E hr => ?_) rfl rfl
 refine' cV (b:=[]) ((Zj (Yo ?_ (ZW ?_) Yd) (Zj (bt (ow1:=[]) (Zo 1 ?_)) (Zj (bt (ow1:=[]) (Zo 2 ?_)) (Yo ?_ (ZW ?_) Yd))))) ?_
 ac_rfl
 and_intros
theorem zD(T:Txt w K mg t):aO P w K mg base bF 3 t.a_QI t.d_QI ["words"] (cp ⟨t.c,K,be⟩ 1 pj):=by
 refine Jq (i:=4) (js:=[1]) (φ:=f_QI) T.f_QI GW (by conv=>lhs;whnf) (by conv=>lhs;whnf) rfl (by kernel_rfl) T.cd_alike_maker T.nk_alike_maker T.tb_alike_maker (λA outer s H E=>⟨_,rfl,(by((repeat (refine qt.mpr ⟨rfl,?_⟩));(exact λ_ h=>nomatch h))),(λi y hy=>match i,hy with|0,hy=>by cases hy;exact⟨1,_,rfl,rfl,.inl rfl,(by first|exact j8 rfl|exact qg (j8 rfl)|exact qg (qg rfl)),rfl⟩|_+1,hy=>by cases hy),rfl,rfl,rfl⟩) (λA outer s H E hr => ?_) rfl rfl
 refine' cV (b:=[]) ((Zj (Yo ?_ (ZW ?_) Yd) (Zj (bt (ow1:=[]) (Zo 1 ?_)) (Yo ?_ (ZW ?_) Yd)))) ?_
 ac_rfl
 and_intros
theorem HD(T:Txt w K mg t):aO P w K mg base bF 5 t.a_QN t.d_QN ["words"] (cp ⟨t.c,K,be⟩ 1 Xy):=by
 have G_QI:=(zD (P:=P) (w:=w) (base:=base) T).mono (k:=4) (by decide);have G_QX:=(zz (P:=P) (w:=w) (base:=base) T).mono (k:=4) (by decide);have G_QE:=(zA (P:=P) (w:=w) (base:=base) T).mono (k:=4) (by decide);have G_QY:=(zB (P:=P) (w:=w) (base:=base) T).mono (k:=4) (by decide);have G_QL:=(zC (P:=P) (w:=w) (base:=base) T).mono (k:=4) (by decide)
 have MKF:∀q∈Jn ⟨t.c,K,be⟩ bh (JT t),∃fd ps,aO P w K mg base bF 4 q.1 fd ps q.2/\Binds K fd ps []/\∃oc od osl,K.lookup q.1=ja ⟨oc,od,.func fd,osl⟩:=by
  intro q hq;simp only [Jn,bh,yF,List.zip_nil_right,jy,Oi,jp,jH,or_false]at hq;rcases hq with rfl|rfl|rfl|rfl|rfl
  . exact⟨_,_,G_QX,T.b_QX,(T.f_QX).at⟩
  . exact⟨_,_,G_QE,T.b_QE,(T.f_QE).at⟩
  . exact⟨_,_,G_QY,T.b_QY,(T.f_QY).at⟩
  . exact⟨_,_,G_QL,T.b_QL,(T.f_QL).at⟩
  . exact⟨_,_,G_QI,T.b_QI,(T.f_QI).at⟩
 refine Xa (φ:=i6) T.p_QN.f GX (by conv=>lhs;whnf) (by conv=>lhs;whnf) (λcdv A outer s H E hr => ?_) rfl rfl;refine⟨_,(ZC (Qh (ls (EH (T.md_MAKERS P) (XD (XE (K:=K)) (pv 0) ZR (λ_ _=>rfl)) (by rfl) T.g_MAKERS)) (YR (Qf rA)) Qe)
 (ZC (Y7 (i:=1) Hm (by rfl) (by first|exact j8 rfl|exact qg rfl) (EI (T.md_MAKERS P) (XD (XE (K:=K)) (pv 0) ZR (λ_ _=>rfl)) (by rfl) T.g_MAKERS (λ_ _=>rfl)))
 (YR (Qf (EJ (i:=1) (fs:=Jn ⟨t.c,K,be⟩ bh (JT t)) MKF hr (by rfl) (by first|exact j8 rfl|exact qg (j8 rfl)|exact qg (qg rfl)) (Zc (pv 0) Zk)))))),[],?_⟩
 unfold i6;exact(Zj (Yo (mx (EK (tab:=bh) (as:=JT t) (by rfl) (ZE YO (Ze 0) (Zt (d:=(.int 0)) (by rfl) (by rfl))))) (ZW (Zt (d:=.non) (by rfl) (by rfl))) Yd)
 (EL (tab:=bh) (as:=JT t) (by rfl) (ZE YO (Ze 0) (Zt (d:=(.int 0)) (by rfl) (by rfl))) (Zh (Ze 0) Zp) (by rfl) (by rfl)))
theorem HE(T:Txt w K mg t):aO P w K mg base (cW P w) 3 t.a_QP t.d_QP ["rows"] (UA ⟨t.c,K,be⟩ 1 (Xp Xg) (Y6 Xg)):=by
 have GI_BadRow_init:aO P w K mg base bF 1 t.a_QF t.d_QF ["self", "row"] (QE t.c_BadRow (jE "row")):=(zy T).mono (by decide);refine xG (r:=pk) T.p_QP.f GY (by conv=>lhs;whnf) (by conv=>lhs;whnf) (λcdv A outer s H E hr => ?_) rfl rfl;refine⟨_,(ZC (Qh (X9 (Ja (cA:=⟨t.c,K,be⟩) (hr.units)) (YH (UL (K:=K)) (by rfl) T.n_len OI (Zc (pv 0) Zk)) ZR (XO _)) (YR (nE T.xi_BadRow GI_BadRow_init hr (by rfl) T.g_BadRow T.p_QF.b nF (Zc ZR Zk))) Qe)
 (ZC (Y7 (i:=1) Hn (by rfl) (by first|exact j8 rfl|exact qg rfl) (XD (XE (K:=K)) (XD (XE (K:=K)) (pv 0) ZR (λ_ _=>rfl)) ZR (λ_ _=>rfl)))
 (ZC (Qh (PW.pt (rK (X9 (Jb (cA:=⟨t.c,K,be⟩) (hr.units)) (XD (XE (K:=K)) (pv 1) ZR (λ_ _=>rfl)) (Yv [109,97,114,107,115] (by decide +kernel)) (XO _)) (rH (X9 (Jb (cA:=⟨t.c,K,be⟩) (hr.units)) (YH (UL (K:=K)) (by rfl) T.n_len OI (Zc (pv 1) Zk)) ZR (XO _))))) (YR (nE T.xi_BadRow GI_BadRow_init hr (by rfl) T.g_BadRow T.p_QF.b nF (Zc (XD (XE (K:=K)) (XD (XE (K:=K)) (pv 0) ZR (λ_ _=>rfl)) ZR (λ_ _=>rfl)) Zk))) Qe)
 (YR (Qf (XD (XE (K:=K)) (pv 1) ZR (λ_ _=>rfl))))))),[],?_⟩
 unfold pk;exact(V8 (nR (Qo (ZE ia (Xj UO (Zh (Ze 0) Zp)) (Zt (d:=(.int 0)) (by rfl) (by rfl)))) (nS "BadRow" (by rfl) (Zh (Zt (d:=(.int 1)) (by rfl) (by rfl)) Zp)) (V7 Yd))
 (V8 (V7 (show VS _ _ [] _ _ _ _ from(Zo 1 (ZE YO (ZE YO (Ze 0) (Zt (d:=(.int 0)) (by rfl) (by rfl))) (Zt (d:=(.int 1)) (by rfl) (by rfl))))))
 (V8 (nR (tJ (Qo (ZE Jc (ZE YO (Ze 1) (Zt (d:=(.int 0)) (by rfl) (by rfl))) (Zt (d:=(.str [109,97,114,107,115])) (by rfl) (by rfl)))) (Qo (ZE Jc (Xj UO (Zh (Ze 1) Zp)) (Zt (d:=(.int 2)) (by rfl) (by rfl))))) (nS "BadRow" (by rfl) (Zh (ZE YO (ZE YO (Ze 0) (Zt (d:=(.int 0)) (by rfl) (by rfl))) (Zt (d:=(.int 0)) (by rfl) (by rfl))) Zp)) (V7 Yd))
 (V7 (ZW (ZE YO (Ze 1) (Zt (d:=(.int 1)) (by rfl) (by rfl))))))))
theorem HF(T:Txt w K mg t):L2.eI P w K mg 4 pN (U2 ⟨t.c,K,be⟩ 1 pp pq):=by
 have GM_QZ:∀bb:jX,aO P w K mg bb (bJ P w) 3 t.a_QZ t.d_QZ ["self", "marks", "mark", "least", "most"] (YE ⟨t.c,K,be⟩ 5 (bQ XH) (bO XH)):=λbb=>(Hs T).mono (by decide)
 refine Jx (ε:=i7) (χ:=i8) Ha (λ_ _ _ _ us hl=>match us,hl with|[_],_=>rfl) (λbase f c cl A outer s H E hr => ?_) rfl rfl rfl;refine⟨_,(Qi T.mk_Gap ((GM_QZ base)) hr (by rfl) T.g_Gap T.b_QZ .nil Jw (Zc (pv 0) (Zc (XD (XE (K:=K)) (pv 1) ZR (λ_ _=>rfl)) (Zc (pv 2) (Zc (pv 3) Zk))))),⟨.cl,?_⟩,?_⟩
 . unfold i7
   exact(Qz (c:="Gap") [] (by rfl) (Zh (Ze 0) (Zh (ZE YO (Ze 1) (Zt (d:=(.int 1)) (by rfl) (by rfl))) (Zh (Ze 2) (Zh (Ze 3) Zp)))))
 . unfold i8
   exact(QA (c:="Gap") [] (by rfl) (Zh (Ze 0) (Zh (ZE YO (Ze 1) (Zt (d:=(.int 1)) (by rfl) (by rfl))) (Zh (Ze 2) (Zh (Ze 3) Zp)))))
theorem HG(T:Txt w K mg t):L2.eI P w K mg 4 zp (U2 ⟨t.c,K,be⟩ 1 pr pw):=by
 have GM_QM:∀bb:jX,aO P w K mg bb (bJ P w) 3 t.a_QM t.d_QM ["self", "marks", "word"] (YE ⟨t.c,K,be⟩ 3 (bQ Ud) (bO Ud)):=λbb=>(Ht T).mono (by decide)
 refine Jx (ε:=i9) (χ:=ka) Hb (λ_ _ _ _ us hl=>match us,hl with|[_],_=>rfl) (λbase f c cl A outer s H E hr => ?_) rfl rfl rfl;refine⟨_,(Qi T.mk_Never ((GM_QM base)) hr (by rfl) T.g_Never T.p_QM.b .nil Jw (Zc (pv 0) (Zc (XD (XE (K:=K)) (pv 1) ZR (λ_ _=>rfl)) Zk))),⟨.cl,?_⟩,?_⟩
 . unfold i9
   exact(Qz (c:="Never") [] (by rfl) (Zh (Ze 0) (Zh (ZE YO (Ze 1) (Zt (d:=(.int 1)) (by rfl) (by rfl))) Zp)))
 . unfold ka
   exact(QA (c:="Never") [] (by rfl) (Zh (Ze 0) (Zh (ZE YO (Ze 1) (Zt (d:=(.int 1)) (by rfl) (by rfl))) Zp)))
theorem HI(T:Txt w K mg t):L2.eI P w K mg 4 zq (U2 ⟨t.c,K,be⟩ 1 px py):=by
 have GM_Q1:∀bb:jX,aO P w K mg bb (bJ P w) 3 t.a_Q1 t.d_Q1 ["self", "marks", "worths", "low", "high"] (YE ⟨t.c,K,be⟩ 5 (bQ Ue) (bO Ue)):=λbb=>(Hu T).mono (by decide)
 refine Jx (ε:=kb) (χ:=kc) Hc (λ_ _ _ _ us hl=>match us,hl with|[_],_=>rfl) (λbase f c cl A outer s H E hr => ?_) rfl rfl rfl;refine⟨_,(Qi T.mk_Sum ((GM_Q1 base)) hr (by rfl) T.g_Sum T.p_Q1.b .nil Jw (Zc (pv 0) (Zc (Qj (mj (K:=K)) (by rfl) T.n_tuple WC (Zc (lL (mi (K:=K)) (pv 1) (lJ ZR) lI) Zk)) (Zc (XD (XE (K:=K)) (pv 1) ZR (λ_ _=>rfl)) (Zc (XD (XE (K:=K)) (pv 1) ZR (λ_ _=>rfl)) Zk))))),⟨.cl,?_⟩,?_⟩
 . unfold kb
   exact(Qz (c:="Sum") [] (by rfl) (Zh (Ze 0) (Zh (ie (Zh (XR (j8 rfl) (Ze 1) (Xl (Zt (d:=(.int 2)) (by rfl) (by rfl))) Xk) Zp)) (Zh (ZE YO (Ze 1) (Zt (d:=(.int 0)) (by rfl) (by rfl))) (Zh (ZE YO (Ze 1) (Zt (d:=(.int 1)) (by rfl) (by rfl))) Zp)))))
 . unfold kc
   exact(QA (c:="Sum") [] (by rfl) (Zh (Ze 0) (Zh (ie (Zh (XR (j8 rfl) (Ze 1) (Xl (Zt (d:=(.int 2)) (by rfl) (by rfl))) Xk) Zp)) (Zh (ZE YO (Ze 1) (Zt (d:=(.int 0)) (by rfl) (by rfl))) (Zh (ZE YO (Ze 1) (Zt (d:=(.int 1)) (by rfl) (by rfl))) Zp)))))
theorem HJ(T:Txt w K mg t):L2.eI P w K mg 4 zr (U2 ⟨t.c,K,be⟩ 1 pz pA):=by
 have GM_QS:∀bb:jX,aO P w K mg bb (bJ P w) 3 t.a_QS t.d_QS ["self", "marks", "mark", "every", "at"] (YE ⟨t.c,K,be⟩ 5 (bQ XW) (bO XW)):=λbb=>(Hv T).mono (by decide)
 refine Jx (ε:=ke) (χ:=kf) Hd (λ_ _ _ _ us hl=>match us,hl with|[_],_=>rfl) (λbase f c cl A outer s H E hr => ?_) rfl rfl rfl;refine⟨_,(Qi T.mk_Turn ((GM_QS base)) hr (by rfl) T.g_Turn T.p_QS.b .nil Jw (Zc (pv 0) (Zc (XD (XE (K:=K)) (pv 1) ZR (λ_ _=>rfl)) (Zc (pv 2) (Zc (pv 3) Zk))))),⟨.cl,?_⟩,?_⟩
 . unfold ke
   exact(Qz (c:="Turn") [] (by rfl) (Zh (Ze 0) (Zh (ZE YO (Ze 1) (Zt (d:=(.int 1)) (by rfl) (by rfl))) (Zh (Ze 2) (Zh (Ze 3) Zp)))))
 . unfold kf
   exact(QA (c:="Turn") [] (by rfl) (Zh (Ze 0) (Zh (ZE YO (Ze 1) (Zt (d:=(.int 1)) (by rfl) (by rfl))) (Zh (Ze 2) (Zh (Ze 3) Zp)))))
theorem HK(T:Txt w K mg t):L2.eI P w K mg 4 zt (U2 ⟨t.c,K,be⟩ 1 pB pC):=by
 have GM_QK:∀bb:jX,aO P w K mg bb (bJ P w) 3 t.a_QK t.d_QK ["self", "marks", "most"] (YE ⟨t.c,K,be⟩ 3 (bQ Vg) (bO Vg)):=λbb=>(Hw T).mono (by decide)
 refine Jx (ε:=kg) (χ:=kh) He (λ_ _ _ _ us hl=>match us,hl with|[_],_=>rfl) (λbase f c cl A outer s H E hr => ?_) rfl rfl rfl;refine⟨_,(Qi T.mk_Alike ((GM_QK base)) hr (by rfl) T.g_Alike T.p_QK.b .nil Jw (Zc (pv 0) (Zc (pv 1) Zk))),⟨.cl,?_⟩,?_⟩
 . unfold kg
   exact(Qz (c:="Alike") [] (by rfl) (Zh (Ze 0) (Zh (Ze 1) Zp)))
 . unfold kh
   exact(QA (c:="Alike") [] (by rfl) (Zh (Ze 0) (Zh (Ze 1) Zp)))
theorem HL(T:Txt w K mg t):aO P w K mg base (cW P w) 6 t.a_QJ t.d_QJ ["page"] (UA ⟨t.c,K,be⟩ 1 (Xp YU) (Y6 YU)):=by
 have LMS:∀m∈Jz ⟨t.c,K,be⟩ bo,L2.eI P w K mg 4 m.1 m.2:=by
  intro m hm;simp only [Jz,bo,jy,Oi,jp,jH,or_false]at hm;rcases hm with rfl|rfl|rfl|rfl|rfl
  . exact(HF T).mono (by decide)
  . exact(HG T).mono (by decide)
  . exact(HI T).mono (by decide)
  . exact(HJ T).mono (by decide)
  . exact(HK T).mono (by decide)
 have GM_Q2:aO P w K mg base (bJ P w) 4 t.a_Q2 t.d_Q2 ["self", "marks", "rules"] (YE ⟨t.c,K,be⟩ 3 (bQ Vh) (bO Vh)):=(Hx T).mono (by decide);have GI_BadRow_init:aO P w K mg base bF 4 t.a_QF t.d_QF ["self", "row"] (QE t.c_BadRow (jE "row")):=(zy T).mono (by decide);have G_QI:=(zD (P:=P) (w:=w) (base:=base) T).mono (k:=5) (by decide);have G_QX:=(zz (P:=P) (w:=w) (base:=base) T).mono (k:=5) (by decide)
 have G_QP:aO P w K mg base (cW P w) 5 t.a_QP t.d_QP ["rows"] (UA ⟨t.c,K,be⟩ 1 (Xp Xg) (Y6 Xg)):=(HE T).mono (by decide);have G_QE:=(zA (P:=P) (w:=w) (base:=base) T).mono (k:=5) (by decide);have G_Q6:=(Hz (P:=P) (w:=w) (base:=base) T).mono (k:=5) (by decide);have G_QN:=(HD (P:=P) (w:=w) (base:=base) T).mono (k:=5) (by decide);have G_QY:=(zB (P:=P) (w:=w) (base:=base) T).mono (k:=5) (by decide)
 have G_QL:=(zC (P:=P) (w:=w) (base:=base) T).mono (k:=5) (by decide);refine xG (r:=pD) T.p_QJ.f GZ (by conv=>lhs;whnf) (by conv=>lhs;whnf) (λcdv A outer s H E hr => ?_) rfl rfl;refine⟨_,(ZC (Y7 (i:=1) gA (by rfl) (by first|exact j8 rfl|exact qg rfl) (Yn (G_Q6) hr (by rfl) T.p_Q6.g T.p_Q6.k T.p_Q6.b .nil Xv (Zc (pv 0) Zk)))
 (ZC (Y7 (i:=2) gA (by rfl) (by first|exact j8 rfl|exact qg rfl) (Yn (G_QP) hr (by rfl) T.p_QP.g T.p_QP.k T.p_QP.b .nil Fw (Zc (pv 1) Zk)))
 (ZC (Y7 (i:=3) gA (by rfl) (by first|exact j8 rfl|exact qg rfl) (UJ Zk))
 (ZC (rX PassesOwn.leaving (by rfl) (UM (K:=K) (lL (mi (K:=K)) (pv 1) (lJ ZR) lI)) (tm (K:=K) (n:=2) (lu (Ui (i:=4) gA) (lu (Ui (i:=5) gA) rR))) (ZC (Y7 (i:=6) gA (by rfl) (by first|exact j8 rfl|exact qg rfl) (Yn (G_QN) hr (by rfl) T.p_QN.g T.p_QN.k T.p_QN.b .nil Xv (Zc (pv 5) Zk)))
 (ZC (Qh (ls (lr (pv 6))) (YR (nE T.xi_BadRow GI_BadRow_init hr (by rfl) T.g_BadRow T.p_QF.b nF (Zc (pv 4) Zk))) Qe)
 (YR (YF (VV (K:=K) yY O8 O6 sT (pv 3) (Zc (pv 6) Zk)))))))
 (YR (Qf (Qi T.mk_All (GM_Q2) hr (by rfl) T.g_All T.p_Q2.b .nil FC (Zc (pv 2) (Zc (F4 F2 (by rfl) (aQ.mk1 (tn:=["maker"]) (cn:=["marks"]) (js:=[2]) (osc:=aA JO) (oN:=["page", "rows", "marks", "makers", "number", "words", "maker"]) (by rfl) (by rfl) (by rfl) (by decide +kernel)) (UM (K:=K) (pv 3)) (λC s₂ H₂ fp xe=>Ui (i:=0) Ho) (λC s₂ H₂ fp xe=>Qk) (λC s₂ H₂ fp xe hX=>(F0 (i:=0) (ms:=Jz ⟨t.c,K,be⟩ bo) LMS hr hX (by rfl) (by first|exact j8 rfl|exact qg (j8 rfl)|exact qg (qg rfl)) (Zc (pv 1) Zk)))) Zk))))))))),[],?_⟩
 unfold pD;exact(V8 (V7 (show VS _ _ [] _ _ _ _ from(Zo 1 (XF [] (by rfl) (Zh (Ze 0) Zp)))))
 (V8 (xF (show VS _ _ [] _ _ _ _ from(Zo 2 (xA [] (by rfl) (Zh (Ze 1) Zp)))) (dz.vx (FN (xv [] (by rfl) (Zh (Ze 1) Zp)))))
 (V8 (V7 (show VS _ _ [3] _ _ _ _ from(Qq 3 (UN Zp))))
 (V8 (Gh (VY (XR (j8 rfl) (Ze 1) (Xl (Zt (d:=(.int 1)) (by rfl) (by rfl))) Xk)) (tT (mE 4 (by rfl) (by rfl) (mE 5 (by rfl) (by rfl) tS))) (V8 (V7 (show VS _ _ [3] _ _ _ _ from(Zo 6 (XF [] (by rfl) (Zh (Ze 5) Zp)))))
 (V8 (nR (mx (mz (Ze 6))) (nS "BadRow" (by rfl) (Zh (Ze 4) Zp)) (V7 Yd))
 (V7 (ik 3 (by rfl) (Ze 6))))))
 (dF.frz (ow1:=[]) 3 (xF (ZW (Qz (c:="All") [] (by rfl) (Zh (Ze 2) (Zh (VF.cl (UP (by rfl) (VY (Ze 3)) (Uu 0) Ur (nQ (tab:=bo) (Zh (Ze 1) Zp)))) Zp)))) (dz.vx (FO (FP (F9 (F8 (F7 (Ze 2) (F5 (E5 (by rfl) (VY (Ze 3)) (Uu 0) Ur (nQ (tab:=bo) (Zh (Ze 1) Zp)) (F1 (tab:=bo) (Zh (Ze 1) Zp)))))) (QA (c:="All") [] (by rfl) (Zh (Ze 2) (Zh (VF.cl (UP (by rfl) (VY (Ze 3)) (Uu 0) Ur (nQ (tab:=bo) (Zh (Ze 1) Zp)))) Zp)))))))) (by rfl) (by rfl) (by rfl) (by rfl))))))
theorem HM(T:Txt w K mg t):aO P w K mg base bF 1 t.a_QC t.d_QC ["script", "k"] (cp ⟨t.c,K,be⟩ 2 U8):=by
 refine Xa (φ:=ki) T.p_QC.f G0 (by conv=>lhs;whnf) (by conv=>lhs;whnf) (λcdv A outer s H E hr => ?_) rfl rfl;refine' cV (b:=[]) ((Zj (Yo ?_ (ZW ?_) Yd) (ZW ?_))) ?_
 ac_rfl
 and_intros
theorem HN(T:Txt w K mg t):aO P w K mg base bF 1 t.a_QO t.d_QO ["cell"] (cp ⟨t.c,K,be⟩ 1 JI):=by
 refine Xa (φ:=pE) T.p_QO.f G1 (by conv=>lhs;whnf) (by conv=>lhs;whnf) (λcdv A outer s H E hr => ?_) rfl rfl;refine' cV (b:=[]) ((Zj (bt (ow1:=[]) (Zo 1 ?_)) (Zj (bt (ow1:=[]) (Zo 2 ?_)) (ZW ?_)))) ?_
 ac_rfl
 and_intros
theorem HP(T:Txt w K mg t):aO P w K mg base bF 7 t.a_QQ t.d_QQ ["page"] (cp ⟨t.c,K,be⟩ 1 X5):=by
 have G_QJ:aO P w K mg base (cW P w) 6 t.a_QJ t.d_QJ ["page"] (UA ⟨t.c,K,be⟩ 1 (Xp YU) (Y6 YU)):=(HL T).mono (by decide);refine Xa (φ:=pG) T.p_QQ.f G2 (by conv=>lhs;whnf) (by conv=>lhs;whnf) (λcdv A outer s H E hr => ?_) rfl rfl;refine⟨_,(ZC (Y7 (i:=1) ee (by rfl) (by first|exact j8 rfl|exact qg rfl) (Yv [114,101,97,100] (by decide +kernel)))
 (ZC (Y7 (i:=2) ee (by rfl) (by first|exact j8 rfl|exact qg rfl) ZR)
 (ZC (Y7 (i:=3) ee (by rfl) (by first|exact j8 rfl|exact qg rfl) (UJ Zk))
 (ZC (FF ⟨rfl,rfl⟩ (λE=>(FA (Fz (G_QJ) hr (by rfl) T.p_QJ.g T.p_QJ.k T.p_QJ.b .nil (λ_ _ z=>z) (Zc (pv 0) Zk)))) (nH (i:=4) (n:="e") ee (by rfl) (by rfl) (by rfl) T.g_BadRow (λea=>(ZC (Y7 (i:=1) ee (by rfl) (by first|exact j8 rfl|exact qg rfl) (Yv [114,111,119] (by decide +kernel)))
 (ZC (Y7 (i:=2) ee (by rfl) (by first|exact j8 rfl|exact qg rfl) (FD (K:=K) (pv 4)))
 (YR (Y7 (i:=3) ee (by rfl) (by first|exact j8 rfl|exact qg rfl) (UJ (Zc (YH (QD (K:=K)) (by rfl) T.n_isinstance qR (Zc (pv 4) (Zc (XY (v:=.ref (t.c "GrooveError")) (by rfl) T.g_GrooveError (by rfl)) Zk))) (Zc (YH (QD (K:=K)) (by rfl) T.n_isinstance qR (Zc (pv 4) (Zc (QV (v:=.ty "ValueError") (by rfl) T.n_ValueError PyProof.Rows.Boot.«ValueError» rfl) Zk))) (Zc (YH (nG (K:=K)) (by rfl) T.n_isinstance qR (Zc (pv 4) (Zc (Q1 (Zc (XY (v:=.ref (t.c "BadMarks")) (by rfl) T.g_BadMarks (by rfl)) (Zc (XY (v:=.ref (t.c "BadRule")) (by rfl) T.g_BadRule (by rfl)) Zk))) Zk))) Zk))))))))) (nH (i:=4) (n:="e") ee (by rfl) (by rfl) (by rfl) T.g_BadMarks (λea=>(ZC (Y7 (i:=1) ee (by rfl) (by first|exact j8 rfl|exact qg rfl) (Yv [109,97,114,107,115] (by decide +kernel)))
 (YR (Y7 (i:=3) ee (by rfl) (by first|exact j8 rfl|exact qg rfl) (UJ (Zc (YH (QD (K:=K)) (by rfl) T.n_isinstance qR (Zc (pv 4) (Zc (XY (v:=.ref (t.c "GrooveError")) (by rfl) T.g_GrooveError (by rfl)) Zk))) (Zc (YH (QD (K:=K)) (by rfl) T.n_isinstance qR (Zc (pv 4) (Zc (QV (v:=.ty "ValueError") (by rfl) T.n_ValueError PyProof.Rows.Boot.«ValueError» rfl) Zk))) (Zc (YH (nG (K:=K)) (by rfl) T.n_isinstance qR (Zc (pv 4) (Zc (Q1 (Zc (XY (v:=.ref (t.c "BadRow")) (by rfl) T.g_BadRow (by rfl)) (Zc (XY (v:=.ref (t.c "BadRule")) (by rfl) T.g_BadRule (by rfl)) Zk))) Zk))) Zk)))))))) (nH (i:=4) (n:="e") ee (by rfl) (by rfl) (by rfl) T.g_BadRule (λea=>(ZC (Y7 (i:=1) ee (by rfl) (by first|exact j8 rfl|exact qg rfl) (Yv [114,117,108,101] (by decide +kernel)))
 (YR (Y7 (i:=3) ee (by rfl) (by first|exact j8 rfl|exact qg rfl) (UJ (Zc (YH (QD (K:=K)) (by rfl) T.n_isinstance qR (Zc (pv 4) (Zc (XY (v:=.ref (t.c "GrooveError")) (by rfl) T.g_GrooveError (by rfl)) Zk))) (Zc (YH (QD (K:=K)) (by rfl) T.n_isinstance qR (Zc (pv 4) (Zc (QV (v:=.ty "ValueError") (by rfl) T.n_ValueError PyProof.Rows.Boot.«ValueError» rfl) Zk))) (Zc (YH (nG (K:=K)) (by rfl) T.n_isinstance qR (Zc (pv 4) (Zc (Q1 (Zc (XY (v:=.ref (t.c "BadMarks")) (by rfl) T.g_BadMarks (by rfl)) (Zc (XY (v:=.ref (t.c "BadRow")) (by rfl) T.g_BadRow (by rfl)) Zk))) Zk))) Zk)))))))) FE))))
 (ZC (Qh (PW.pt (rJ (X9 (Jb (cA:=⟨t.c,K,be⟩) (hr.units)) (pv 1) (Yv [114,101,97,100] (by decide +kernel)) (XO _)) (rG (X9 (Jb (cA:=⟨t.c,K,be⟩) (hr.units)) (pv 3) (UJ (Zc J5 (Zc J5 (Zc J5 Zk)))) (XO _))))) (YR (Y7 (i:=1) ee (by rfl) (by first|exact j8 rfl|exact qg rfl) (Yv [111,116,104,101,114] (by decide +kernel)))) Qe)
 (YR (Qf (Q1 (Zc (pv 1) (Zc (pv 2) Zk)))))))))),[],?_⟩
 unfold pG;exact(Zj (show VS _ _ [] _ _ _ _ from(Zo 1 (Zt (d:=(.str [114,101,97,100])) (by rfl) (by rfl))))
 (Zj (show VS _ _ [] _ _ _ _ from(Zo 2 (Zt (d:=(.int 0)) (by rfl) (by rfl))))
 (Zj (show VS _ _ [] _ _ _ _ from(Zo 3 (VF.cl (UN Zp))))
 (Zj (FV (cl:=["BadMarks", "BadRow", "BadRule"]) T.xc_all (λE=>(tR (xA [] (by rfl) (Zh (Ze 0) Zp)))) (λE=>(FM (xv [] (by rfl) (Zh (Ze 0) Zp)))) (nN (i:=4) (cl:=["BadRow"]) (no:=["BadMarks", "BadRule"]) (by rfl) (by rfl) T.xt_BadRow T.xf_BadRow (Zj (show VS _ _ [] _ _ _ _ from(Zo 1 (Zt (d:=(.str [114,111,119])) (by rfl) (by rfl))))
 (Zj (show VS _ _ [] _ _ _ _ from(Zo 2 (FI T.xr_all (Ze 4))))
 (show VS _ _ [] _ _ _ _ from(Zo 3 (VF.cl (UN (Zh (QF T.ix_GrooveError (Ze 4)) (Zh (QF T.ix_ValueError (Ze 4)) (Zh (nI T.ix_BadMarks (.cons (λc b h=>(T.ix_BadRule c b h).2) .nil) (uz rfl) (Ze 4)) Zp))))))))) (nN (i:=4) (cl:=["BadMarks"]) (no:=["BadRule"]) (by rfl) (by rfl) T.xt_BadMarks T.xf_BadMarks (Zj (show VS _ _ [] _ _ _ _ from(Zo 1 (Zt (d:=(.str [109,97,114,107,115])) (by rfl) (by rfl))))
 (show VS _ _ [] _ _ _ _ from(Zo 3 (VF.cl (UN (Zh (QF T.ix_GrooveError (Ze 4)) (Zh (QF T.ix_ValueError (Ze 4)) (Zh (nI T.ix_BadRow (.cons (λc b h=>(T.ix_BadRule c b h).2) .nil) (uz rfl) (Ze 4)) Zp)))))))) (nN (i:=4) (cl:=["BadRule"]) (no:=[]) (by rfl) (by rfl) T.xt_BadRule T.xf_BadRule (Zj (show VS _ _ [] _ _ _ _ from(Zo 1 (Zt (d:=(.str [114,117,108,101])) (by rfl) (by rfl))))
 (show VS _ _ [] _ _ _ _ from(Zo 3 (VF.cl (UN (Zh (QF T.ix_GrooveError (Ze 4)) (Zh (QF T.ix_ValueError (Ze 4)) (Zh (nI T.ix_BadMarks (.cons (λc b h=>(T.ix_BadRow c b h).2) .nil) (uz rfl) (Ze 4)) Zp)))))))) FT))))
 (Zj (Yo (tI (Qo (ZE Jc (Ze 1) (Zt (d:=(.str [114,101,97,100])) (by rfl) (by rfl)))) (Qo (ZE Jc (Ze 3) (VF.cl (UN (Zh (Zt (d:=(.bl je)) (by rfl) (by rfl)) (Zh (Zt (d:=(.bl je)) (by rfl) (by rfl)) (Zh (Zt (d:=(.bl jj)) (by rfl) (by rfl)) Zp)))))))) (show VS _ _ [] _ _ _ _ from(Zo 1 (Zt (d:=(.str [111,116,104,101,114])) (by rfl) (by rfl)))) Yd)
 (ZW (tL (Zh (Ze 1) (Zh (Ze 2) Zp)))))))))
theorem HQ(T:Txt w K mg t):aO P w K mg base bF 1 t.a_QD t.d_QD ["marks", "cell"] (cp ⟨t.c,K,be⟩ 2 U9):=by
 refine Xa (φ:=x0) T.p_QD.f G3 (by conv=>lhs;whnf) (by conv=>lhs;whnf) (λcdv A outer s H E hr => ?_) rfl rfl;refine' cV (b:=[]) ((Zj (bt (ow1:=[]) (Zo 2 ?_)) (Zj (bt (ow1:=[]) (Zo 3 ?_)) (Zj (bt (ow1:=[]) (Zo 3 ?_)) (Zj (bt (ow1:=[]) (Zo 3 ?_)) (Zj (bt (ow1:=[]) (Zo 3 ?_)) (Zj (bt (ow1:=[]) (Zo 3 ?_)) (Zj (bt (ow1:=[]) (Zo 3 ?_)) (Zj (bt (ow1:=[]) (Zo 3 ?_)) (ZW ?_)))))))))) ?_
 ac_rfl
 and_intros
theorem HR(T:Txt w K mg t):aO P w K mg base bF 1 t.a_QR t.d_QR ["marks", "cell"] (cp ⟨t.c,K,be⟩ 2 pH):=by
 refine Xa (φ:=zc) T.p_QR.f G4 (by conv=>lhs;whnf) (by conv=>lhs;whnf) (λcdv A outer s H E hr => ?_) rfl rfl;refine' cV (b:=[]) ((Zj (bt (ow1:=[]) (Zo 2 ?_)) (ZW ?_))) ?_
 ac_rfl
 and_intros
theorem HS(T:Txt w K mg t):aO P w K mg base bF 2 t.a_QB t.d_QB ["marks", "cell"] (cp ⟨t.c,K,be⟩ 2 pI):=by
 refine Xa (φ:=zd) T.p_QB.f G5 (by conv=>lhs;whnf) (by conv=>lhs;whnf) (λcdv A outer s H E hr => ?_) rfl rfl;refine' cV (b:=[]) ((Zj (bt (ow1:=[]) (Zo 2 ?_)) (Zj (bt (ow1:=[]) (Zo 3 ?_)) (Zj (bt (ow1:=[]) (Zo 4 ?_)) (Zj (bt (ow1:=[]) (Zo 5 ?_)) (Zj (bt (ow1:=[]) (Zo 5 ?_)) (Zj (bt (ow1:=[]) (Zo 5 ?_)) (Zj (bt (ow1:=[]) (Zo 5 ?_)) (Zj (bt (ow1:=[]) (Zo 5 ?_)) (Zj (bt (ow1:=[]) (Zo 5 ?_)) (Zj (bt (ow1:=[]) (Zo 5 ?_)) (Zj (bt (ow1:=[]) (Zo 5 ?_)) (ZW ?_))))))))))))) ?_
 ac_rfl
 and_intros
theorem HU(T:Txt w K mg t):aO P w K mg base bF 1 t.a_QA t.d_QA ["marks", "cells"] (mV ⟨t.c,K,be⟩ 2 pJ):=by
 refine DY (φ:=ze) T.p_QA.f G6 (by conv=>lhs;whnf) (by conv=>lhs;whnf) (λcdv A outer s H E hr => ?_) rfl rfl;refine' zx ((US (bt (ow1:=[]) (Zo 2 ?_)) (US (bt (ow1:=[3]) (Qq 3 ?_)) (US (bt (ow1:=[3]) (Zo 4 ?_)) (US (Eh 3 (by rfl) ?_) (US (ik 3 (by rfl) ?_) (US (bt (ow1:=[]) (VS.frzN 3 (ik 3 (by rfl) ?_) (by rfl) (by rfl) (by rfl) (by rfl))) (US (bt (ow1:=[]) (Zo 5 ?_)) (DW ?_))))))))) ?_
 ac_rfl
 and_intros
theorem HV(T:Txt w K mg t):aO P w K mg base bF 3 t.a_QW t.d_QW ["marks", "cells"] (cp ⟨t.c,K,be⟩ 2 pL):=by
 refine Xa (φ:=zi) T.p_QW.f G7 (by conv=>lhs;whnf) (by conv=>lhs;whnf) (λcdv A outer s H E hr => ?_) rfl rfl;refine' cV (b:=[]) ((Zj (bt (ow1:=[]) (Zo 2 ?_)) (Zj (bt (ow1:=[]) (Zo 3 ?_)) (Zj (bt (ow1:=[4]) (Qq 4 (DX [] (by rfl) ?_))) (Zj (Yo ?_ (Zj (xC 4 (by rfl) ?_ ?_) (VS.frz (ow1:=[]) 4 (bt (ow1:=[]) (Zo 3 ?_)))) (VS.frzN 4 Yd (by rfl) (by rfl) (by rfl) (by rfl))) (Zj (Yo ?_ (Zj (bt (ow1:=[4]) (Qq 4 ?_)) (VS.frz (ow1:=[]) 4 (bt (ow1:=[]) (Zo 3 ?_)))) Yd) (Zj (Yo ?_ (Zj (bt (ow1:=[]) (Zo 2 ?_)) (bt (ow1:=[]) (Zo 3 ?_))) Yd) (Zj (bt (ow1:=[4]) (Qq 4 ?_)) (Zj (Yo ?_ (xC 4 (by rfl) ?_ ?_) Yd) (VS.frz (ow1:=[]) 4 (ZW ?_))))))))))) ?_
 ac_rfl
 and_intros
theorem HW(T:Txt w K mg t):aO P w K mg base bF 2 t.a_QG t.d_QG ["page", "silent", "marks", "cells"] (cp ⟨t.c,K,be⟩ 4 kn):=by
 refine Xa (φ:=zk) T.p_QG.f G8 (by conv=>lhs;whnf) (by conv=>lhs;whnf) (λcdv A outer s H E hr => ?_) rfl rfl;refine' cV (b:=[]) ((Zj (bt (ow1:=[]) (Zo 4 ?_)) (Zj (bt (ow1:=[]) (Zo 5 ?_)) (Zj (io ?_ ?_ (Zj (bt (ow1:=[]) (Zo 7 ?_)) (Zj (bt (ow1:=[]) (Zo 8 ?_)) (Zj (Yo ?_ (Zj (bt (ow1:=[]) (Zo 7 ?_)) (bt (ow1:=[]) (Zo 8 ?_))) (Yo ?_ (Zj (bt (ow1:=[]) (Zo 7 ?_)) (bt (ow1:=[]) (Zo 8 ?_))) Yd)) (Yo ?_ (Zj (bt (ow1:=[]) (Zo 5 ?_)) (bt (ow1:=[]) (Zo 4 ?_))) (bt (ow1:=[]) (Zo 4 ?_))))))) (ZW ?_))))) ?_
 ac_rfl
 and_intros
theorem HX(T:Txt w K mg t):aO P w K mg base bF 8 t.a_Q8 t.d_Q8 ["script"] (cp ⟨t.c,K,be⟩ 1 ko):=by
 refine Xa (φ:=zo) T.p_Q8.f G9 (by conv=>lhs;whnf) (by conv=>lhs;whnf) (λcdv A outer s H E hr => ?_) rfl rfl;refine' cV (b:=[]) ((Zj (bt (ow1:=[]) (Zo 1 ?_)) (Zj (io ?_ ?_ (Zj (bt (ow1:=[]) (Zo 3 ?_)) (Zj (bt (ow1:=[]) (Zo 4 ?_)) (Zj (wH ?_ ?_) (Zj (bt (ow1:=[]) (Zo 8 ?_)) (Zj (Yo ?_ (Zj (wH ?_ ?_) (bt (ow1:=[]) (Zo 8 ?_))) Yd) (Zj (Yo ?_ (Zj (bt (ow1:=[]) (Zo 5 ?_)) (bt (ow1:=[]) (Zo 8 ?_))) Yd) (Zj (bt (ow1:=[]) (Zo 10 ?_)) (Yo ?_ (ZW ?_) Yd))))))))) (ZW ?_)))) ?_
 ac_rfl
 and_intros
end
end K11
namespace K11
open L2
def XI(cs:al Nat):al Nat:=cs.takeWhile λx => !decide (x=35)
def Vm(cs:al Nat):al (al Nat):=(Zz 32 cs).filter λw => !decide (w=[])
def Zs(cs:al Nat):al (al Nat):=Vm (XI cs)
def bM:Nat->al (al Nat)->al (Nat×al (al Nat))
 |_,[]=>[]
 |n,r::rs=>if Zs r=[]then bM (n+1) rs else(n,Zs r)::bM (n+1) rs
theorem zE(c:Nat):∀(a b:al Nat),Zz c (a++c::b)=Zz c a++Zz c b
 | [],b=>by
  have e:Zz c (c::b)=[]::Zz c b:=by rw [Zz,if_pos rfl]
  exact e
 |x::a,b=>by
  show Zz c (x::(a++c::b))=_;have ih:=zE c a b;rw [Zz,Zz,ih]
  by_cases hx:x=c
  . rw [if_pos hx,if_pos hx];rfl
  . rw [if_neg hx,if_neg hx]
    cases h:Zz c a with
    |nil=>exact absurd h (sX c a)
    |cons p ps=>rfl
theorem HY(a b:al Nat):Vm (a++32::b)=Vm a++Vm b:=by
 unfold Vm;rw [zE,List.filter_append]
theorem HZ:Vm []=[]:=by decide
theorem zF{w:al Nat}(h1:w≠[])(h2:32∉w):Vm w=[w]:=by
 unfold Vm;rw [Q6 h2];simp [h1]
def Good(w:al Nat):Prop:=w≠[]/\∀c∈w,c≠32/\c≠35/\c≠10
theorem Good.no32{w:al Nat}(h:Good w):32∉w:=λm=>(h.2 32 m).1 rfl
def Plain(r:al Nat):Prop:=∀c∈r,c≠35/\c≠10
theorem Plain.nil:Plain []:=λ_ h=>nomatch h
theorem Plain.app{a b:al Nat}(h1:Plain a)(h2:Plain b):Plain (a++b):=λc hc=>(qY.mp hc).elim (h1 c) (h2 c)
theorem Good.plain{w:al Nat}(h:Good w):Plain w:=λc hc=>(h.2 c hc).2
theorem Ia{r:al Nat}(h:Plain r):XI r=r:=by
 unfold XI;have:=List.takeWhile_append_of_pos (p:=λx => !decide (x=35)) (l₁:=r) (l₂:=[]) (λx hx=>by simpa using(h x hx).1);simpa using this
end K11
namespace K11
open DL L2
theorem Ib(row:al Nat):(Yw 35 row).1=XI row:=by
 unfold Yw XI
 have key:∀l:al Nat,l.takeWhile (λx => !decide (x=35))=if 0<=VU 35 l then l.take (VU 35 l).toNat else l:=by
  intro l
  induction l with
  |nil=>rfl
  |cons x l ih=>
   unfold VU at ih ⊢;rw [List.findIdx?_cons]
   by_cases hx:x=35
   . subst hx
     simp
   . have h1:(x == 35)=false:=by simpa using hx
     rw [h1,List.takeWhile_cons_of_pos (by simpa using hx),ih];cases l.findIdx? (· == 35)with
     |none=>simp
     |some i=>
      have e1:(0:Int)<=(i:Int):=by omega
      have e2:(0:Int)<=((i+1:Nat):Int):=by omega
      simp only [Option.map_some,e1,e2,if_true,yj,uH,Bool.false_eq_true,if_false]
 rw [key]
 split<;>rfl
def kO:D->Bool
 | .str w => !decide (w=[])
 |_=>jj
theorem ff{row:al Nat}(hl:row.length<=1000000):iZ [.str row]=ja (.lst ((Zs row).map D.str)):=by
 have hp:=Ib row;have hz:row.length<=16777216:=by omega
 have hn:(XI row).length<=1000000:=by
  unfold XI;exact jK (List.takeWhile_sublist _).length_le hl
 have hz2:(XI row).length+2<=16777216:=by omega
 have hc:YD (Zw 0) (xB (aB bU (Za 0) (eC (.str [])))) (Za 0) [none] ((Zz 32 (XI row)).map D.str)=ja ((((Zz 32 (XI row)).map D.str).filter kO).map id):=by
  refine nV kO id _ ?_;intro x hx;obtain⟨w,_,rfl⟩:=qf.mp hx;refine⟨_,rfl,?_,λ_=>rfl⟩;simp [Zw,kO,DL.run,DL.fA,Zf,bp,Zm,Ye,aL,Zg,ZP,ZB,Z1,Yg,xB,bD,ZK,ZG,bz,Za,eC,aB,ZS,bZ,ZT,b9,ZD,Z6,ZO,ZX,bY,ZV,az,Zb,Zl,ZH,aU,aM,bj,bn,Zi,ZN,Yi,ZU,bq,xP,aS,aE,bi,bc,aJ,aK,Zv,aP,cr,bH,ZI,ZY,kind,aF,ZZ,Z4,Yj,Z8,Z9,Yb,Z5,Z0,Yk,Yl,Ym,jG,ZM,a3,jo,jd]
 have he:((Zz 32 (XI row)).map D.str).filter kO=(Zs row).map D.str:=by
  unfold Zs Vm;rw [Wm];rfl
 rw [he,vA]at hc
 have hw:((Zs row).map D.str).length<=16777216:=by
  rw [jk];unfold Zs Vm;have a:=vn (λw:al Nat => !decide (w=[])) (Zz 32 (XI row));have b:=iD 32 (XI row);omega
 have hw2:(Zs row).length<=16777216:=by rw [jk]at hw;exact hw
 generalize hA:cR [D.str (Yw 35 row).1,D.str (Yw 35 row).2.1,D.str (Yw 35 row).2.2] 0=z at *;have hz0:z=ja (.str (XI row)):=by rw [<-hA,<-hp];rfl
 subst hz0;simp [iZ,pe,bW,cE,hA,hz,hz2,Yr,Z2,Y9,hc,hw2,DL.run,DL.fA,Zf,bp,Zm,Ye,aL,Zg,ZP,ZB,Z1,Yg,xB,bD,ZK,ZG,bz,Za,eC,aB,ZS,bZ,ZT,b9,ZD,Z6,ZO,ZX,bY,ZV,az,Zb,Zl,ZH,aU,aM,bj,bn,Zi,ZN,Yi,ZU,bq,xP,aS,aE,bi,bc,aJ,aK,Zv,aP,cr,bH,ZI,ZY,kind,aF,ZZ,Z4,Yj,Z8,Z9,Yb,Z5,Z0,Yk,Yl,Ym,jG,ZM,a3,jo,jd]
theorem Ic(ns:al Int)(k:Nat):U8 [.lst (ns.map D.int),.int k]=ja (.int (ns.getD k 0)):=by
 by_cases h:k<ns.length
 . have hz : cR (ns.map D.int) (k : Int) = ja (.int (ns.getD k 0)) := by
    refine gY ?_;rw [j9,jQ h,qu,jQ h];rfl
   simp [U8,ki,h,hz,DL.run,DL.fA,Zf,bp,Zm,Ye,aL,Zg,ZP,ZB,Z1,Yg,xB,bD,ZK,ZG,bz,Za,eC,aB,ZS,bZ,ZT,b9,ZD,Z6,ZO,ZX,bY,ZV,az,Zb,Zl,ZH,aU,aM,bj,bn,Zi,ZN,Yi,ZU,bq,xP,aS,aE,bi,bc,aJ,aK,Zv,aP,cr,bH,ZI,ZY,kind,aF,ZZ,Z4,Yj,Z8,Z9,Yb,Z5,Z0,Yk,Yl,Ym,jG,ZM,a3,jo,jd]
 . have hz:ns.getD k 0=0:=by rw [qu,On (by omega)];rfl
   simp [U8,ki,h,hz,DL.run,DL.fA,Zf,bp,Zm,Ye,aL,Zg,ZP,ZB,Z1,Yg,xB,bD,ZK,ZG,bz,Za,eC,aB,ZS,bZ,ZT,b9,ZD,Z6,ZO,ZX,bY,ZV,az,Zb,Zl,ZH,aU,aM,bj,bn,Zi,ZN,Yi,ZU,bq,xP,aS,aE,bi,bc,aJ,aK,Zv,aP,cr,bH,ZI,ZY,kind,aF,ZZ,Z4,Yj,Z8,Z9,Yb,Z5,Z0,Yk,Yl,Ym,jG,ZM,a3,jo,jd]
theorem JU{r s:EN->am RO}{δ δ':EN}(h:r δ=ja (.ok (.nx δ'))):ZL r s δ=s δ':=by unfold ZL;rw [h]
theorem pP{r s:EN->am RO}{δ:EN}{c:String}(h:r δ=ja (.error c)):ZL r s δ=ja (.error c):=by unfold ZL;rw [h]
theorem kQ{φ:EN->am aT}{δ:EN}{o:aT}(h:φ δ=ja o):c8 φ δ=ja (.ok o):=by unfold c8;rw [h];rfl
theorem Ie{τ:EN->am Bool}{r s:EN->am RO}{δ:EN}(h:τ δ=ja je):fF τ r s δ=r δ:=by unfold fF;rw [h]
theorem Ig{τ:EN->am Bool}{r s:EN->am RO}{δ:EN}(h:τ δ=ja jj):fF τ r s δ=s δ:=by unfold fF;rw [h]
theorem eV{c:EN->am D}{δ:EN}{b:Bool}(h:c δ=ja (.bl b)):Z7 c δ=if b then ja (.ok (.nx δ))else ja (.error "BadRule"):=by unfold Z7;rw [h];cases b<;>rfl
theorem pQ{i n:Nat}{rr:al D->am RD}{α:EN->am (al D)}{δ:EN}{d d':D}{ds:al D}(h1:Za i δ=ja d)(h2:α δ=ja ds)(hn:ds.length+1=n)(h3:rr (d::ds)=ja (.ok d')):YJ i n rr [] α δ=ja (.ok (.nx (δ.set i (ja d')))):=by
 unfold YJ;rw [h1,h2];dsimp only;rw [qh,if_pos (show(d::ds).length=n from hn),h3]
theorem Ih{i n:Nat}{rr:al D->am RD}{α:EN->am (al D)}{δ:EN}{d:D}{c:String}{ds:al D}(h1:Za i δ=ja d)(h2:α δ=ja ds)(hn:ds.length+1=n)(h3:rr (d::ds)=ja (.error c)):YJ i n rr [] α δ=ja (.error c):=by
 unfold YJ;rw [h1,h2];dsimp only;rw [qh,if_pos (show(d::ds).length=n from hn),h3]
theorem zG{n:Nat}{f:EN->am RO}{vs:al D}{δ δ':EN}{d:D}(h1:(vs.map ja++jd (n-vs.length) none)=δ)(h2:f δ=ja (.ok (.nx δ')))(h3:Za 0 δ'=ja d):Ys n f vs=ja (.ok d):=by unfold Ys;rw [h1,h2];dsimp only;rw [h3];rfl
theorem pR{n:Nat}{f:EN->am RO}{vs:al D}{δ:EN}{c:String}(h1:(vs.map ja++jd (n-vs.length) none)=δ)(h2:f δ=ja (.error c)):Ys n f vs=ja (.error c):=by unfold Ys;rw [h1,h2]
def XJ(w:al Nat):Bool:=decide (2<=w.length)&&decide (w.length<=4)&&w.all λc=>decide (c∈aI)&&decide (w.count c=1)
theorem zH(w:al Nat)(hl:w.length<=1000):UG [.str w]=ja (.bl (XJ w)):=by
 have hc:YD (Zw 0) (λ_=>ja je) (ZS (aB (dD jj) (Za 0) (eC (.str aI))) (aB bA (bH cJ (Za 1) (Zb (Za 0) az)) (eC (.int 1)))) [none,ja (.str w)] (w.map λc => .str [c])=ja (w.map λc => .bl (decide (c∈aI)&&decide (w.count c=1))):=by
  rw [iN (λd=>match d with | .str [c] => .bl (decide (c∈aI)&&decide (w.count c=1))|_ => .non)]
  . rw [qM];rfl
  . intro x hx
    obtain⟨c,hcm,rfl⟩:=qf.mp hx;refine⟨_,rfl,?_⟩
    by_cases h3:c∈aI
    . simp [Zw,dD,cJ,h3,DL.run,DL.fA,Zf,bp,Zm,Ye,aL,Zg,ZP,ZB,Z1,Yg,xB,bD,ZK,ZG,bz,Za,eC,aB,ZS,bZ,ZT,b9,ZD,Z6,ZO,ZX,bY,ZV,az,Zb,Zl,ZH,aU,aM,bj,bn,Zi,ZN,Yi,ZU,bq,xP,aS,aE,bi,bc,aJ,aK,Zv,aP,cr,bH,ZI,ZY,kind,aF,ZZ,Z4,Yj,Z8,Z9,Yb,Z5,Z0,Yk,Yl,Ym,jG,ZM,a3,jo,jd]
      omega
    . simp [Zw,dD,cJ,h3,DL.run,DL.fA,Zf,bp,Zm,Ye,aL,Zg,ZP,ZB,Z1,Yg,xB,bD,ZK,ZG,bz,Za,eC,aB,ZS,bZ,ZT,b9,ZD,Z6,ZO,ZX,bY,ZV,az,Zb,Zl,ZH,aU,aM,bj,bn,Zi,ZN,Yi,ZU,bq,xP,aS,aE,bi,bc,aJ,aK,Zv,aP,cr,bH,ZI,ZY,kind,aF,ZZ,Z4,Yj,Z8,Z9,Yb,Z5,Z0,Yk,Yl,Ym,jG,ZM,a3,jo,jd]
 have hb:Vt (w.map λc=>D.bl (decide (c∈aI)&&decide (w.count c=1)))=ja (w.map λc=>(decide (c∈aI)&&decide (w.count c=1))):=by
  have:=tO (w.map λc=>(decide (c∈aI)&&decide (w.count c=1)));rw [qM]at this;exact this
 have hz:w.length<=16777216:=by omega
 have ha:(w.map λc=>(decide (c∈aI)&&decide (w.count c=1))).all id=w.all λc=>(decide (c∈aI)&&decide (w.count c=1)):=by rw [yV];rfl
 unfold XJ
 by_cases g1:2<=w.length
 . by_cases g2:w.length<=4
   . have g1':¬(w.length:Int)<2:=by omega
     have g2':¬(4:Int)<w.length:=by omega
     rw [decide_eq_true g1,decide_eq_true g2,yZ,yZ,<-ha];generalize (w.map λc=>(decide (c∈aI)&&decide (w.count c=1)))=bs at hb ⊢;simp [UG,JE,Yr,Z2,Y9,hc,hb,Vu,hz,g1',g2',DL.run,DL.fA,Zf,bp,Zm,Ye,aL,Zg,ZP,ZB,Z1,Yg,xB,bD,ZK,ZG,bz,Za,eC,aB,ZS,bZ,ZT,b9,ZD,Z6,ZO,ZX,bY,ZV,az,Zb,Zl,ZH,aU,aM,bj,bn,Zi,ZN,Yi,ZU,bq,xP,aS,aE,bi,bc,aJ,aK,Zv,aP,cr,bH,ZI,ZY,kind,aF,ZZ,Z4,Yj,Z8,Z9,Yb,Z5,Z0,Yk,Yl,Ym,jG,ZM,a3,jo,jd]
   . have g1':¬(w.length:Int)<2:=by omega
     have g2':(4:Int)<w.length:=by omega
     simp [UG,JE,hz,g1',g2',g2,DL.run,DL.fA,Zf,bp,Zm,Ye,aL,Zg,ZP,ZB,Z1,Yg,xB,bD,ZK,ZG,bz,Za,eC,aB,ZS,bZ,ZT,b9,ZD,Z6,ZO,ZX,bY,ZV,az,Zb,Zl,ZH,aU,aM,bj,bn,Zi,ZN,Yi,ZU,bq,xP,aS,aE,bi,bc,aJ,aK,Zv,aP,cr,bH,ZI,ZY,kind,aF,ZZ,Z4,Yj,Z8,Z9,Yb,Z5,Z0,Yk,Yl,Ym,jG,ZM,a3,jo,jd]
 . have g1':(w.length:Int)<2:=by omega
   simp [UG,JE,hz,g1',g1,DL.run,DL.fA,Zf,bp,Zm,Ye,aL,Zg,ZP,ZB,Z1,Yg,xB,bD,ZK,ZG,bz,Za,eC,aB,ZS,bZ,ZT,b9,ZD,Z6,ZO,ZX,bY,ZV,az,Zb,Zl,ZH,aU,aM,bj,bn,Zi,ZN,Yi,ZU,bq,xP,aS,aE,bi,bc,aJ,aK,Zv,aP,cr,bH,ZI,ZY,kind,aF,ZZ,Z4,Yj,Z8,Z9,Yb,Z5,Z0,Yk,Yl,Ym,jG,ZM,a3,jo,jd]
structure Ms(ms:List Nat):Prop where
 lo:2<=ms.length
 hi:ms.length<=4
 sg:∀x∈ms,x∈aI
 nd:ms.Nodup
theorem Ms.st{ms:al Nat}(M:Ms ms):XJ ms=true:=by
 unfold XJ;rw [decide_eq_true M.lo,decide_eq_true M.hi];simp only [yZ,jR,jF,decide_eq_true_eq];exact λx hx=>⟨M.sg x hx,M.nd.count.trans (if_pos hx)⟩
noncomputable def SG:al Nat:=[97,98,99,100,101,102,103,104,105,106,107,108,109,110,111,112,113,114,115,116,117,118,119,120,121,122,48,49,50,51,52,53,54,55,56,57]
def XM(c:Int):Nat:=2+(c / 396 % 3).toNat
def fG(c:Int)(k:Nat):Nat:=SG.getD ((c+k*(1+c / 36 % 11)) % 36).toNat 0
def VL(c:Int):al Nat:=(qG (XM c)).map (fG c)
theorem Ii{i:Int}(h0:0<=i)(h1:i<36):cR SG i=ja (SG.getD i.toNat 0):=by
 obtain⟨x,h2,h3⟩:=nU (xs:=SG) h0 (by simpa [SG]using h1);rw [h2,qu,h3];rfl
theorem zI:SG.length=36:=rfl
theorem kR{f:D->D->am D}{a b:Env->am D}{x y:D}{r:am D}(ha:a δ=ja x)(hb:b δ=ja y)(h:f x y=r):aB f a b δ=r:=by
 unfold aB;rw [ha,hb];exact h
noncomputable def zJ(sg:al Nat)(c:Int):D->D
 | .int k => .str [sg.getD ((c+k*(1+c / 36 % 11)) % 36).toNat 0]
 |_ => .non
theorem Ij{sg:al Nat}{c s k x:Int}{z:Nat}(hk:a3 k s)(hs:sg.length<=jv)(hz:cR sg ((c+k*s) % 36)=ja z):aB aP (Za 1) (aB aK (aB aE (Za 2) (aB bc (Za 0) (Za 3))) (eC (.int 36))) [ja (.int k),ja (.str sg),ja (.int c),ja (.int s)]=ja (.str [z]):=
 kR (x:=.str sg) (y:=.int ((c+k*s) % 36)) rfl (kR (x:=.int (c+k*s)) (y:=.int 36) (kR (x:=.int c) (y:=.int (k*s)) rfl (kR (x:=.int k) (y:=.int s) rfl rfl (Gp hk)) rfl) rfl (xL (by omega))) (xN hs hz)
theorem Ik(c:Int):YD (Zw 0) (λ_=>ja je) (aB aP (Za 1) (aB aK (aB aE (Za 2) (aB bc (Za 0) (Za 3))) (eC (.int 36)))) [none,ja (.str SG),ja (.int c),ja (.int (1+c / 36 % 11))] (YC 0 1 (XM c))=ja ((qG (XM c)).map λk => .str [fG c k]):=by
 rw [iN (zJ SG c)]
 . unfold YC
   rw [qM]
   congr 1
   refine uI λk _ => ?_
   have e:(0+(k:Int)*1)=k:=by omega
   show zJ SG c (.int (0+(k:Int)*1))=_;rw [e];rfl
 . intro x hx
   obtain⟨i,hi,rfl⟩:=xI hx;have hi4:i<5:=by unfold XM at hi;omega
   have e:(0+(i:Int)*1)=i:=by omega
   rw [e];exact⟨_,rfl,Ij (x:=0) (Gq (by omega) (by omega)) (by rw [zI,jo];omega) (Ii (by omega) (by omega))⟩
theorem Il(c:Int):JI [.int c]=ja (.str (VL c)):=by
 have hm:(2+c / 396 % 3).toNat=XM c:=by unfold XM;omega
 have hb : -(2 ^ 62)<=2+c / 396 % 3/\2+c / 396 % 3<2 ^ 62:=by omega
 have hc:=Ik c;have hj:=xK (fG c) (qG (XM c)) (by rw [uh,jo];unfold XM;omega);have hl:(qG (XM c)).length<=jv:=by rw [uh,jo];unfold XM;omega
 have e0:[97,98,99,100,101,102,103,104,105,106,107,108,109,110,111,112,113,114,115,116,117,118,119,120,121,122,48,49,50,51,52,53,54,55,56,57]=SG:=rfl;have d1:ZM c 36:=⟨by omega,by omega⟩
 have d2:ZM c 396:=⟨by omega,by omega⟩
 have e1:VL c=(qG (XM c)).map (fG c):=rfl;rw [e1];unfold JI pE;rw [e0];generalize SG=sg at hc ⊢;generalize fG c=sg2 at hc hj ⊢;simp only [DL.run,Zf,Zg,eC,aB,aE,aK,aJ,Za,Zm,bH,Zb,az,Yr,Y8,jy,Oi,jh,yi,q5,ub,Nat.reduceAdd,Nat.reduceSub,jd,List.set_cons_zero,List.set_cons_succ,List.getElem?_cons_zero,u2,if_pos d1,if_pos d2,if_pos (show(0:Int)<11 by omega),if_pos (show(0:Int)<3 by omega),if_pos hb,hm,Y9,Option.getD_some,hc,jk,if_pos hl,hj]
theorem Im:∀i j:Fin 36,SG.getD i.val 0=SG.getD j.val 0->i=j:=by decide
theorem Io(c:Int){i j:Nat}(hi:i<4)(hj:j<4)(h:fG c i=fG c j):i=j:=by
 unfold fG at h;have h1:((c+i*(1+c / 36 % 11)) % 36).toNat<36:=by omega
 have h2:((c+j*(1+c / 36 % 11)) % 36).toNat<36:=by omega
 have:=Im ⟨_,h1⟩ ⟨_,h2⟩ h;have e:((c+i*(1+c / 36 % 11)) % 36).toNat=((c+j*(1+c / 36 % 11)) % 36).toNat:=congrArg Fin.val this;have hs:∃t:Int,c / 36 % 11=t/\0<=t/\t<=10:=⟨_,rfl,by omega,by omega⟩
 obtain⟨t,ht,ht0,ht1⟩:=hs;rw [ht]at e;rcases(show i=0\/i=1\/i=2\/i=3 by omega)with rfl|rfl|rfl|rfl<;>rcases(show j=0\/j=1\/j=2\/j=3 by omega)with rfl|rfl|rfl|rfl<;>first|rfl|(exfalso;omega)
theorem zK(c:Int):2<=(VL c).length/\(VL c).length<=4:=by
 unfold VL XM;rw [jk,uh];omega
theorem zL{α β:Type}{f:α->β}:∀{l:al α},l.Nodup->(∀x∈l,∀y∈l,f x=f y->x=y)->(l.map f).Nodup
 | [],_,_=>List.nodup_nil
 |a::l,h,hf=>by
  rw [jy,yh];obtain⟨h1,h2⟩:=yh.mp h;refine⟨λhm => ?_,zL h2 λx hx y hy=>hf x (jq _ hx) y (jq _ hy)⟩;obtain⟨b,hb,e⟩:=qf.mp hm;have:=hf b (jq _ hb) a jr e;exact h1 (this▸hb)
theorem Ip(c:Int):(VL c).Nodup:=by
 have hl:XM c<=4:=by unfold XM;omega
 refine zL List.nodup_range λx hx y hy h=>Io c ?_ ?_ h
 . have:=yz.mp hx;omega
 . have:=yz.mp hy;omega
theorem Iq(c:Int):∀x∈VL c,x∈aI:=by
 intro x hx;obtain⟨k,_,rfl⟩:=qf.mp hx;unfold fG;have h:((c+k*(1+c / 36 % 11)) % 36).toNat<36:=by omega
 generalize ((c+k*(1+c / 36 % 11)) % 36).toNat=i at h;have:∀i:Fin 36,SG.getD i.val 0∈aI:=by decide
 exact this ⟨i,h⟩
theorem Ir(c:Int):Ms (VL c):=⟨(zK c).1,(zK c).2,Iq c,Ip c⟩
theorem Iu{α:Type}(r:al α)(j:Nat):bB r none (ja ((j:Int)+1))=r.take (j+1):=by
 unfold bB YA;have e:¬((j:Int)+1<0):=by omega
 have e2:((j:Int)+1).toNat=j+1:=by omega
 simp only [e,if_false,e2,Ov,WW]
 by_cases h:j+1<=r.length
 . rw [oh h]
 . rw [O1 (by omega),qx (jz _),qx (by omega)]
theorem Iv{ms:al Nat}(hm:0<ms.length)(i:Int):∃z,cR ms (i % ms.length)=ja z/\z∈ms:=by
 obtain⟨x,h1,h2⟩:=nU (xs:=ms) (i:=i % ms.length) (oi _ (by omega)) (OL _ (by omega));exact⟨x,h1,qK h2⟩
noncomputable def eJ(ms:al Nat):al Nat->Bool
 | [c]=>decide (c∈ms)
 |_=>jj
theorem dm(ms:al Nat):∀w:al Nat,w.length<=1000->Uc [.str ms,.str w]=ja (.bl (eJ ms w))
 | [],_=>by simp [Uc,JF,eJ,DL.run,DL.fA,Zf,bp,Zm,Ye,aL,Zg,ZP,ZB,Z1,Yg,xB,bD,ZK,ZG,bz,Za,eC,aB,ZS,bZ,ZT,b9,ZD,Z6,ZO,ZX,bY,ZV,az,Zb,Zl,ZH,aU,aM,bj,bn,Zi,ZN,Yi,ZU,bq,xP,aS,aE,bi,bc,aJ,aK,Zv,aP,cr,bH,ZI,ZY,kind,aF,ZZ,Z4,Yj,Z8,Z9,Yb,Z5,Z0,Yk,Yl,Ym,jG,ZM,a3,jo,jd]
 | [c],_=>by simp [Uc,JF,dD,eJ,DL.run,DL.fA,Zf,bp,Zm,Ye,aL,Zg,ZP,ZB,Z1,Yg,xB,bD,ZK,ZG,bz,Za,eC,aB,ZS,bZ,ZT,b9,ZD,Z6,ZO,ZX,bY,ZV,az,Zb,Zl,ZH,aU,aM,bj,bn,Zi,ZN,Yi,ZU,bq,xP,aS,aE,bi,bc,aJ,aK,Zv,aP,cr,bH,ZI,ZY,kind,aF,ZZ,Z4,Yj,Z8,Z9,Yb,Z5,Z0,Yk,Yl,Ym,jG,ZM,a3,jo,jd]
 |a::b::r,h=>by
  have e:¬(((a::b::r).length:Int)=1):=by rw [jh,jh];omega
  have hz:(a::b::r).length<=16777216:=by omega
  have e2:eJ ms (a::b::r)=false:=rfl;rw [e2];generalize (a::b::r)=w at e hz ⊢;simp [Uc,JF,e,hz,DL.run,DL.fA,Zf,bp,Zm,Ye,aL,Zg,ZP,ZB,Z1,Yg,xB,bD,ZK,ZG,bz,Za,eC,aB,ZS,bZ,ZT,b9,ZD,Z6,ZO,ZX,bY,ZV,az,Zb,Zl,ZH,aU,aM,bj,bn,Zi,ZN,Yi,ZU,bq,xP,aS,aE,bi,bc,aJ,aK,Zv,aP,cr,bH,ZI,ZY,kind,aF,ZZ,Z4,Yj,Z8,Z9,Yb,Z5,Z0,Yk,Yl,Ym,jG,ZM,a3,jo,jd]
theorem bE(i lo hi:Int):XV [.int i,.int lo,.int hi]=ja (.bl (decide (lo<=i/\i<=hi))):=by
 by_cases h:lo<=i<;>simp [XV,n8,JD,JC,h,DL.run,DL.fA,Zf,bp,Zm,Ye,aL,Zg,ZP,ZB,Z1,Yg,xB,bD,ZK,ZG,bz,Za,eC,aB,ZS,bZ,ZT,b9,ZD,Z6,ZO,ZX,bY,ZV,az,Zb,Zl,ZH,aU,aM,bj,bn,Zi,ZN,Yi,ZU,bq,xP,aS,aE,bi,bc,aJ,aK,Zv,aP,cr,bH,ZI,ZY,kind,aF,ZZ,Z4,Yj,Z8,Z9,Yb,Z5,Z0,Yk,Yl,Ym,jG,ZM,a3,jo,jd]
noncomputable def XX:am Int->D
 |none => .non
 |some i => .int i
structure Tx(w:List Nat):Prop where
 ln:w.length<=5
 cd:w.all (λc=>decide (c<65536))=je
theorem Iw(W:Tx w)(h:XJ w=jj)(d:D):YN [d,.str w]=ja (.error "BadMarks"):=by
 refine pR rfl ?_;have hl:w.length<=1000:=jK W.ln (by decide);have e0:Zi 1 UG [] (Zb (Za 1) az) [ja d,ja (.str w)]=ja (.bl jj):=by rw [<-h];exact(Yy rfl rfl).trans (zH w hl)
 refine pP ((Ie (nW (Yt e0))).trans ?_);have hrl:=wm w W.cd;have hn:=W.ln
 have e1:Jh Jg (Za 1) [ja d,ja (.str w)]=ja (.str (X3 w)):=by
  show(if w.length<=1000/\w.all (λc=>decide (c<65536))=je then ja (D.str (X3 w))else none)=_;rw [if_pos ⟨hl,W.cd⟩]
 generalize X3 w=s at e1 hrl;generalize Jh Jg (Za 1)=ef at e1;have hs:s.length<=52:=by omega
 unfold QK Qs
 have e2:∀t:al Nat,t.length<=100->∃u,Ji [(eC (.str t)),ef] [ja d,ja (.str w)]=ja u:=λt ht=>by
  refine⟨.str ([]++t++s),?_⟩;unfold Ji fB;show(match(if([]++t).length<=jv then fB [ef] ([]++t) [ja d,ja (.str w)]else none)with|some cs=>ja (D.str cs)|none=>none)=_;rw [if_pos (by rw [jo,ub];omega)];unfold fB;rw [e1];show(match(if([]++t++s).length<=jv then fB [] ([]++t++s) [ja d,ja (.str w)]else none)with|some cs=>ja (D.str cs)|none=>none)=_
  rw [if_pos (by rw [jo,jt,ub];omega)];rfl
 obtain⟨u,hu⟩:=e2 [109,97,114,107,115,32,97,114,101,32,50,32,116,111,32,52,32,117,110,108,105,107,101,32,115,109,97,108,108,32,108,101,116,116,101,114,115,32,111,114,32,102,105,103,117,114,101,115,44,32,110,111,116,32] (by decide);rw [Zd hu aC];rfl
theorem QR(M:Ms ms)(c:String)(h:aY.contains c=je):YN [.obj c [] [],.str ms]=ja (.ok (.obj c ["marks"] [.str ms])):=by
 have hl:ms.length<=1000:=jK M.hi (by decide);have e0:Zi 1 UG [] (Zb (Za 1) az) [ja (.obj c [] []),ja (.str ms)]=ja (.bl je):=by rw [<-M.st];exact(Yy rfl rfl).trans (zH ms hl)
 refine zG rfl ((JU ((Ig (nW (Yt e0))).trans rfl)).trans (kQ (o:=.nx [ja (.obj c ["marks"] [.str ms]),ja (.str ms)]) ?_)) rfl;have h':c∈aY:=by simpa using h
 simp [ZB,h',DL.run,DL.fA,Zf,bp,Zm,Ye,aL,Zg,ZP,ZB,Z1,Yg,xB,bD,ZK,ZG,bz,Za,eC,aB,ZS,bZ,ZT,b9,ZD,Z6,ZO,ZX,bY,ZV,az,Zb,Zl,ZH,aU,aM,bj,bn,Zi,ZN,Yi,ZU,bq,xP,aS,aE,bi,bc,aJ,aK,Zv,aP,cr,bH,ZI,ZY,kind,aF,ZZ,Z4,Yj,Z8,Z9,Yb,Z5,Z0,Yk,Yl,Ym,jG,ZM,a3,jo,jd]
theorem QS(W:Tx w)(h:XJ w=jj){n:Nat}{s:EN->am RO}{vs:al D}{d:D}{r:al D}(hv:vs=d :: .str w::r):Ys n (ZL (YJ 0 2 YN [] (Zb (Za 1) az)) s) vs=ja (.error "BadMarks"):=by
 subst hv;refine pR rfl (pP (Ih (ds:=[.str w]) rfl (Zd rfl aC) rfl (Iw W h d)))
theorem Ix(W:Tx w)(h:XJ w=jj)(d:D)(r:al D):XH (d :: .str w::r)=ja (.error "BadMarks"):=QS W h rfl
theorem Iy(W:Tx w)(h:XJ w=jj)(d:D)(r:al D):Ud (d :: .str w::r)=ja (.error "BadMarks"):=QS W h rfl
theorem Iz(W:Tx w)(h:XJ w=jj)(d:D)(r:al D):Ue (d :: .str w::r)=ja (.error "BadMarks"):=QS W h rfl
theorem IA(W:Tx w)(h:XJ w=jj)(d:D)(r:al D):XW (d :: .str w::r)=ja (.error "BadMarks"):=QS W h rfl
theorem IB(W:Tx w)(h:XJ w=jj)(d:D)(r:al D):Vg (d :: .str w::r)=ja (.error "BadMarks"):=QS W h rfl
theorem IC(W:Tx w)(h:XJ w=jj)(d:D)(r:al D):Vh (d :: .str w::r)=ja (.error "BadMarks"):=QS W h rfl
def bX:am RD:=ja (.error "BadRule")
theorem ID{ms mk:al Nat}(M:Ms ms)(hk:mk.length<=1000)(lo:Int)(mo:am Int) :
 XH [.obj "Gap" [] [],.str ms,.str mk,.int lo,XX mo]=if eJ ms mk&&decide (0<=lo/\lo<=8)&&(match mo with|none=>je|some m=>decide (lo<=m/\m<=8))then ja (.ok (.obj "Gap" ["marks", "mark", "least", "most"] [.str ms,.str mk,.int lo,XX mo]))else bX:=by
 have hm:=dm ms mk hk;have hr:=QR M "Gap" (by decide);generalize eJ ms mk=b at hm ⊢;have w1:=bE lo 0 8;have w2:∀m,XV [.int m,.int lo,.int 8]=ja (.bl (decide (lo<=m/\m<=8))):=λm=>bE m lo 8
 cases b with
 |false=>simp [XH,f_QZ,Ys,ZL,YJ,Z7,hr,hm,bX,DL.run,DL.fA,Zf,bp,Zm,Ye,aL,Zg,ZP,ZB,Z1,Yg,xB,bD,ZK,ZG,bz,Za,eC,aB,ZS,bZ,ZT,b9,ZD,Z6,ZO,ZX,bY,ZV,az,Zb,Zl,ZH,aU,aM,bj,bn,Zi,ZN,Yi,ZU,bq,xP,aS,aE,bi,bc,aJ,aK,Zv,aP,cr,bH,ZI,ZY,kind,aF,ZZ,Z4,Yj,Z8,Z9,Yb,Z5,Z0,Yk,Yl,Ym,jG,ZM,a3,jo,jd]
 |true=>
  by_cases h1:0<=lo/\lo<=8
  . cases mo with
    |none=>simp [XH,f_QZ,Ys,ZL,YJ,Z7,c8,hr,hm,w1,h1,XX,UE,QN,UF,bX,DL.run,DL.fA,Zf,bp,Zm,Ye,aL,Zg,ZP,ZB,Z1,Yg,xB,bD,ZK,ZG,bz,Za,eC,aB,ZS,bZ,ZT,b9,ZD,Z6,ZO,ZX,bY,ZV,az,Zb,Zl,ZH,aU,aM,bj,bn,Zi,ZN,Yi,ZU,bq,xP,aS,aE,bi,bc,aJ,aK,Zv,aP,cr,bH,ZI,ZY,kind,aF,ZZ,Z4,Yj,Z8,Z9,Yb,Z5,Z0,Yk,Yl,Ym,jG,ZM,a3,jo,jd]
    |some m=>
     by_cases h2:lo<=m/\m<=8
     . simp [XH,f_QZ,Ys,ZL,YJ,Z7,c8,hr,hm,w1,h1,w2,h2,XX,UE,QN,UF,bX,DL.run,DL.fA,Zf,bp,Zm,Ye,aL,Zg,ZP,ZB,Z1,Yg,xB,bD,ZK,ZG,bz,Za,eC,aB,ZS,bZ,ZT,b9,ZD,Z6,ZO,ZX,bY,ZV,az,Zb,Zl,ZH,aU,aM,bj,bn,Zi,ZN,Yi,ZU,bq,xP,aS,aE,bi,bc,aJ,aK,Zv,aP,cr,bH,ZI,ZY,kind,aF,ZZ,Z4,Yj,Z8,Z9,Yb,Z5,Z0,Yk,Yl,Ym,jG,ZM,a3,jo,jd]
     . simp [XH,f_QZ,Ys,ZL,YJ,Z7,c8,hr,hm,w1,h1,w2,h2,XX,UE,QN,UF,bX,DL.run,DL.fA,Zf,bp,Zm,Ye,aL,Zg,ZP,ZB,Z1,Yg,xB,bD,ZK,ZG,bz,Za,eC,aB,ZS,bZ,ZT,b9,ZD,Z6,ZO,ZX,bY,ZV,az,Zb,Zl,ZH,aU,aM,bj,bn,Zi,ZN,Yi,ZU,bq,xP,aS,aE,bi,bc,aJ,aK,Zv,aP,cr,bH,ZI,ZY,kind,aF,ZZ,Z4,Yj,Z8,Z9,Yb,Z5,Z0,Yk,Yl,Ym,jG,ZM,a3,jo,jd]
  . simp [XH,f_QZ,Ys,ZL,YJ,Z7,hr,hm,w1,h1,bX,DL.run,DL.fA,Zf,bp,Zm,Ye,aL,Zg,ZP,ZB,Z1,Yg,xB,bD,ZK,ZG,bz,Za,eC,aB,ZS,bZ,ZT,b9,ZD,Z6,ZO,ZX,bY,ZV,az,Zb,Zl,ZH,aU,aM,bj,bn,Zi,ZN,Yi,ZU,bq,xP,aS,aE,bi,bc,aJ,aK,Zv,aP,cr,bH,ZI,ZY,kind,aF,ZZ,Z4,Yj,Z8,Z9,Yb,Z5,Z0,Yk,Yl,Ym,jG,ZM,a3,jo,jd]
theorem kS{α:Type}{ε:EN->am D}{δ0:EN}(g:α->D)(p:α->Bool)(xs:al α)(h:∀a∈xs,∃δ1,Zw 0 (g a) δ0=ja δ1/\ε δ1=ja (.bl (p a))):YD (Zw 0) (λ_=>ja je) ε δ0 (xs.map g)=ja (xs.map λa => .bl (p a)):=by
 induction xs with
 |nil=>rfl
 |cons a r ih=>
  obtain⟨δ1,h1,h2⟩:=h a jr;have:=ih λb hb=>h b (jq _ hb)
  rw [jy,jy];show(match Zw 0 (g a) δ0 with|none=>none|some δ1=>match ε δ1 with|none=>none|some d=>match YD (Zw 0) (λ_=>ja je) ε δ0 (r.map g)with|none=>none|some ds=>ja (d::ds))=_;rw [h1];dsimp only;rw [h2,this]
theorem kT{α:Type}(p:α->Bool)(f:al Bool->Bool)(xs:al α):Vu f [.lst (xs.map λa => .bl (p a))]=ja (.bl (f (xs.map p))):=by
 have:=tO (xs.map p);rw [qM]at this;show(match Vt (xs.map (D.bl∘p))with|some bs=>ja (D.bl (f bs))|none=>none)=_;rw [this]
theorem Ug{c:EN->am D}{s:EN->am RO}{δ:EN}{b:Bool}{y:am RO}(h:c δ=ja (.bl b))(h2:s δ=y):ZL (Z7 c) s δ=if b then y else ja (.error "BadRule"):=by
 cases b with
 |true=>rw [JU (eV h),h2];rfl
 |false=>rw [pP (eV h)];rfl
theorem pS {n:Nat} {f:EN->am RO} {vs:al D} {δ δ':EN} {d:D} {b:Bool} (h1:(vs.map ja++jd (n-vs.length) none)=δ) (h2:f δ=if b then ja (.ok (.nx δ'))else ja (.error "BadRule")) (h3:Za 0 δ'=ja d):Ys n f vs=if b then ja (.ok d)else bX:=by
 cases b with
 |true=>exact zG h1 h2 h3
 |false=>exact pR h1 h2
theorem QT{α:Type}(a b:Bool)(x y:α):(if a then(if b then x else y)else y)=if(a&&b)then x else y:=by cases a<;>rfl
theorem IE{ms wd:al Nat}(M:Ms ms)(hw:wd.length<=1000) :
 Ud [.obj "Never" [] [],.str ms,.str wd]=if decide (1<=wd.length/\wd.length<=6)&&wd.all (λc=>decide (c∈ms))then ja (.ok (.obj "Never" ["marks", "word"] [.str ms,.str wd]))else bX:=by
 have hz:wd.length<=16777216:=by omega
 have hc:=kS (ε:=Zi 2 Uc [] (Zb (Za 1) (Zb (Za 0) az))) (δ0:=[none,ja (.str ms)]) (λc=>D.str [c]) (λc=>decide (c∈ms)) wd (λc _=>⟨_,rfl,(Yy rfl rfl).trans (dm ms [c] (by simp))⟩);have ha:=kT (λc=>decide (c∈ms)) (λbs=>bs.all id) wd;rw [yV]at ha;refine pS rfl ((JU (pQ (ds:=[.str ms]) rfl (Zd rfl aC) rfl (QR M "Never" (by decide)))).trans ((Ug (b:=decide (1<=wd.length/\wd.length<=6)) ?_ (Ug (b:=wd.all λc=>decide (c∈ms)) ?_ (kQ (o:=.nx [ja (.obj "Never" ["marks", "word"] [.str ms,.str wd]),ja (.str ms),ja (.str wd)]) ?_))).trans (QT _ _ _ _))) rfl
 . by_cases h1:(1:Int)<=wd.length
   . by_cases h2:(wd.length:Int)<=6
     . have e:1<=wd.length/\wd.length<=6:=by omega
       simp [hz,h1,h2,e,DL.run,DL.fA,Zf,bp,Zm,Ye,aL,Zg,ZP,ZB,Z1,Yg,xB,bD,ZK,ZG,bz,Za,eC,aB,ZS,bZ,ZT,b9,ZD,Z6,ZO,ZX,bY,ZV,az,Zb,Zl,ZH,aU,aM,bj,bn,Zi,ZN,Yi,ZU,bq,xP,aS,aE,bi,bc,aJ,aK,Zv,aP,cr,bH,ZI,ZY,kind,aF,ZZ,Z4,Yj,Z8,Z9,Yb,Z5,Z0,Yk,Yl,Ym,jG,ZM,a3,jo,jd]
     . have e:¬(1<=wd.length/\wd.length<=6):=by omega
       rw [decide_eq_false e];simp [hz,h1,h2,DL.run,DL.fA,Zf,bp,Zm,Ye,aL,Zg,ZP,ZB,Z1,Yg,xB,bD,ZK,ZG,bz,Za,eC,aB,ZS,bZ,ZT,b9,ZD,Z6,ZO,ZX,bY,ZV,az,Zb,Zl,ZH,aU,aM,bj,bn,Zi,ZN,Yi,ZU,bq,xP,aS,aE,bi,bc,aJ,aK,Zv,aP,cr,bH,ZI,ZY,kind,aF,ZZ,Z4,Yj,Z8,Z9,Yb,Z5,Z0,Yk,Yl,Ym,jG,ZM,a3,jo,jd]
   . have e:¬(1<=wd.length/\wd.length<=6):=by omega
     rw [decide_eq_false e];simp [hz,h1,DL.run,DL.fA,Zf,bp,Zm,Ye,aL,Zg,ZP,ZB,Z1,Yg,xB,bD,ZK,ZG,bz,Za,eC,aB,ZS,bZ,ZT,b9,ZD,Z6,ZO,ZX,bY,ZV,az,Zb,Zl,ZH,aU,aM,bj,bn,Zi,ZN,Yi,ZU,bq,xP,aS,aE,bi,bc,aJ,aK,Zv,aP,cr,bH,ZI,ZY,kind,aF,ZZ,Z4,Yj,Z8,Z9,Yb,Z5,Z0,Yk,Yl,Ym,jG,ZM,a3,jo,jd]
 . exact(YT (Zd (VD rfl rfl hc (by rw [jk];omega)) aC)).trans ha
 . simp [ZB,iW,DL.run,DL.fA,Zf,bp,Zm,Ye,aL,Zg,ZP,ZB,Z1,Yg,xB,bD,ZK,ZG,bz,Za,eC,aB,ZS,bZ,ZT,b9,ZD,Z6,ZO,ZX,bY,ZV,az,Zb,Zl,ZH,aU,aM,bj,bn,Zi,ZN,Yi,ZU,bq,xP,aS,aE,bi,bc,aJ,aK,Zv,aP,cr,bH,ZI,ZY,kind,aF,ZZ,Z4,Yj,Z8,Z9,Yb,Z5,Z0,Yk,Yl,Ym,jG,ZM,a3,jo,jd]
theorem IF{ms mk:al Nat}(M:Ms ms)(hk:mk.length<=1000)(ev at_:Int) :
 XW [.obj "Turn" [] [],.str ms,.str mk,.int ev,.int at_]=if eJ ms mk&&decide (1<=ev/\ev<=6)&&decide (0<=at_/\at_<=ev-1)then ja (.ok (.obj "Turn" ["marks", "mark", "every", "at"] [.str ms,.str mk,.int ev,.int at_]))else bX:=by
 have hm:=dm ms mk hk;have hr:=QR M "Turn" (by decide);generalize eJ ms mk=b at hm ⊢;have w1:=bE ev 1 6;have w2:=bE at_ 0 (ev-1);cases b with
 |false=>simp [XW,U7,Ys,ZL,YJ,Z7,hr,hm,bX,DL.run,DL.fA,Zf,bp,Zm,Ye,aL,Zg,ZP,ZB,Z1,Yg,xB,bD,ZK,ZG,bz,Za,eC,aB,ZS,bZ,ZT,b9,ZD,Z6,ZO,ZX,bY,ZV,az,Zb,Zl,ZH,aU,aM,bj,bn,Zi,ZN,Yi,ZU,bq,xP,aS,aE,bi,bc,aJ,aK,Zv,aP,cr,bH,ZI,ZY,kind,aF,ZZ,Z4,Yj,Z8,Z9,Yb,Z5,Z0,Yk,Yl,Ym,jG,ZM,a3,jo,jd]
 |true=>
  by_cases h1:1<=ev/\ev<=6
  . by_cases h2:0<=at_/\at_<=ev-1
    . simp [XW,U7,Ys,ZL,YJ,Z7,c8,hr,hm,w1,h1,w2,h2,UE,iS,iR,bX,DL.run,DL.fA,Zf,bp,Zm,Ye,aL,Zg,ZP,ZB,Z1,Yg,xB,bD,ZK,ZG,bz,Za,eC,aB,ZS,bZ,ZT,b9,ZD,Z6,ZO,ZX,bY,ZV,az,Zb,Zl,ZH,aU,aM,bj,bn,Zi,ZN,Yi,ZU,bq,xP,aS,aE,bi,bc,aJ,aK,Zv,aP,cr,bH,ZI,ZY,kind,aF,ZZ,Z4,Yj,Z8,Z9,Yb,Z5,Z0,Yk,Yl,Ym,jG,ZM,a3,jo,jd]
    . simp [XW,U7,Ys,ZL,YJ,Z7,c8,hr,hm,w1,h1,w2,h2,bX,DL.run,DL.fA,Zf,bp,Zm,Ye,aL,Zg,ZP,ZB,Z1,Yg,xB,bD,ZK,ZG,bz,Za,eC,aB,ZS,bZ,ZT,b9,ZD,Z6,ZO,ZX,bY,ZV,az,Zb,Zl,ZH,aU,aM,bj,bn,Zi,ZN,Yi,ZU,bq,xP,aS,aE,bi,bc,aJ,aK,Zv,aP,cr,bH,ZI,ZY,kind,aF,ZZ,Z4,Yj,Z8,Z9,Yb,Z5,Z0,Yk,Yl,Ym,jG,ZM,a3,jo,jd]
  . simp [XW,U7,Ys,ZL,YJ,Z7,hr,hm,w1,h1,bX,DL.run,DL.fA,Zf,bp,Zm,Ye,aL,Zg,ZP,ZB,Z1,Yg,xB,bD,ZK,ZG,bz,Za,eC,aB,ZS,bZ,ZT,b9,ZD,Z6,ZO,ZX,bY,ZV,az,Zb,Zl,ZH,aU,aM,bj,bn,Zi,ZN,Yi,ZU,bq,xP,aS,aE,bi,bc,aJ,aK,Zv,aP,cr,bH,ZI,ZY,kind,aF,ZZ,Z4,Yj,Z8,Z9,Yb,Z5,Z0,Yk,Yl,Ym,jG,ZM,a3,jo,jd]
theorem IG(M:Ms ms)(mo:Int) :
 Vg [.obj "Alike" [] [],.str ms,.int mo]=if decide (1<=mo/\mo<=6)then ja (.ok (.obj "Alike" ["marks", "most"] [.str ms,.int mo]))else bX:=by
 have hr:=QR M "Alike" (by decide);have w1:=bE mo 1 6
 by_cases h1:1<=mo/\mo<=6
 . simp [Vg,JG,Ys,ZL,YJ,Z7,c8,hr,w1,h1,UF,bX,DL.run,DL.fA,Zf,bp,Zm,Ye,aL,Zg,ZP,ZB,Z1,Yg,xB,bD,ZK,ZG,bz,Za,eC,aB,ZS,bZ,ZT,b9,ZD,Z6,ZO,ZX,bY,ZV,az,Zb,Zl,ZH,aU,aM,bj,bn,Zi,ZN,Yi,ZU,bq,xP,aS,aE,bi,bc,aJ,aK,Zv,aP,cr,bH,ZI,ZY,kind,aF,ZZ,Z4,Yj,Z8,Z9,Yb,Z5,Z0,Yk,Yl,Ym,jG,ZM,a3,jo,jd]
 . simp [Vg,JG,Ys,ZL,YJ,Z7,hr,w1,h1,bX,DL.run,DL.fA,Zf,bp,Zm,Ye,aL,Zg,ZP,ZB,Z1,Yg,xB,bD,ZK,ZG,bz,Za,eC,aB,ZS,bZ,ZT,b9,ZD,Z6,ZO,ZX,bY,ZV,az,Zb,Zl,ZH,aU,aM,bj,bn,Zi,ZN,Yi,ZU,bq,xP,aS,aE,bi,bc,aJ,aK,Zv,aP,cr,bH,ZI,ZY,kind,aF,ZZ,Z4,Yj,Z8,Z9,Yb,Z5,Z0,Yk,Yl,Ym,jG,ZM,a3,jo,jd]
theorem IH{ms:al Nat}{ws:al Int}(M:Ms ms)(hw:ws.length<=1000)(lo hi:Int) :
 Ue [.obj "Sum" [] [],.str ms,.tup (ws.map D.int),.int lo,.int hi]=if decide (ws.length=ms.length)&&(ws.all (λv=>decide (-3<=v/\v<=3))&&(decide (-8<=lo/\lo<=0)&&decide (0<=hi/\hi<=8)))then ja (.ok (.obj "Sum" ["marks", "worths", "low", "high"] [.str ms,.tup (ws.map D.int),.int lo,.int hi]))else bX:=by
 have hz:ms.length<=16777216:=by have:=M.hi;omega
 have hc:=kS (ε:=Zi 3 XV [] (Zb (Za 0) (Zb (bY ZV (eC (.int 3))) (Zb (eC (.int 3)) az)))) (δ0:=[none]) D.int (λv=>decide (-3<=v/\v<=3)) ws (λv _=>⟨_,rfl,(Yy rfl rfl).trans (bE v (-3) 3)⟩);have ha:=kT (λv:Int=>decide (-3<=v/\v<=3)) (λbs=>bs.all id) ws;rw [yV]at ha;refine pS rfl ((JU (pQ (ds:=[.str ms]) rfl (Zd rfl aC) rfl (QR M "Sum" (by decide)))).trans ((Ug (b:=decide (ws.length=ms.length)) ?_ ((Ug (b:=ws.all λv=>decide (-3<=v/\v<=3)) ?_ ((Ug (b:=decide (-8<=lo/\lo<=0)) ?_ (Ug (b:=decide (0<=hi/\hi<=8)) ?_ (kQ (o:=.nx [ja (.obj "Sum" ["marks", "worths", "low", "high"] [.str ms,.tup (ws.map D.int),.int lo,.int hi]),ja (.str ms),ja (.tup (ws.map D.int)),ja (.int lo),ja (.int hi)]) ?_))).trans (QT _ _ _ _))).trans (QT _ _ _ _))).trans (QT _ _ _ _))) rfl
 . have e:decide (((ws.map D.int).length:Int)=ms.length)=decide (ws.length=ms.length):=by rw [jk];exact decide_eq_decide.mpr ⟨by omega,by omega⟩
   refine(Zq (x:=.int (ws.map D.int).length) (y:=.int ms.length) rfl ((YT (Zd rfl aC)).trans (len_str (by have:=M.hi;omega)))).trans ((ZZ _ _).trans ?_);rw [e]
 . exact(YT (Zd (VD rfl rfl hc (by rw [jk];omega)) aC)).trans ha
 . exact(Yy rfl rfl).trans (bE lo (-8) 0)
 . exact(Yy rfl rfl).trans (bE hi 0 8)
 . generalize ws.map D.int=wd
   simp [ZB,iX,iU,iT,Vv,DL.run,DL.fA,Zf,bp,Zm,Ye,aL,Zg,ZP,ZB,Z1,Yg,xB,bD,ZK,ZG,bz,Za,eC,aB,ZS,bZ,ZT,b9,ZD,Z6,ZO,ZX,bY,ZV,az,Zb,Zl,ZH,aU,aM,bj,bn,Zi,ZN,Yi,ZU,bq,xP,aS,aE,bi,bc,aJ,aK,Zv,aP,cr,bH,ZI,ZY,kind,aF,ZZ,Z4,Yj,Z8,Z9,Yb,Z5,Z0,Yk,Yl,Ym,jG,ZM,a3,jo,jd]
theorem II{e:EN->am D}{δ:EN}{b:Bool}(h:e δ=ja (.bl b)):ZT e δ=ja (.bl (!b)):=by unfold ZT;rw [h]
structure Ru where
 c:String
 ms:List Nat
 ks:List String
 xs:List D
def Ru.d(r:Ru):D := .obj r.c ("marks" :: r.ks) (.str r.ms::r.xs)
theorem IJ{a:EN->am D}{δ:EN}{r:Ru}(hc:aY.contains r.c=je)(h:a δ=ja r.d):ZU aY "marks" a δ=ja (.str r.ms):=by
 have hc':r.c∈aY:=by simpa using hc
 simp [ZU,h,Ru.d,hc',DL.run,DL.fA,Zf,bp,Zm,Ye,aL,Zg,ZP,ZB,Z1,Yg,xB,bD,ZK,ZG,bz,Za,eC,aB,ZS,bZ,ZT,b9,ZD,Z6,ZO,ZX,bY,ZV,az,Zb,Zl,ZH,aU,aM,bj,bn,Zi,ZN,Yi,ZU,bq,xP,aS,aE,bi,bc,aJ,aK,Zv,aP,cr,bH,ZI,ZY,kind,aF,ZZ,Z4,Yj,Z8,Z9,Yb,Z5,Z0,Yk,Yl,Ym,jG,ZM,a3,jo,jd]
theorem isi_All{a:EN->am D}{δ:EN}{r:Ru}(hc:aY.contains r.c=je)(h:a δ=ja r.d):ZI JB a δ=ja (.bl (decide (r.c = "All"))):=by
 refine n5 h ?_;have hc':r.c∈aY:=by simpa using hc
 obtain⟨c,mk,ks,xs⟩:=r;simp only [aY,jp,jH,or_false]at hc';rcases hc' with rfl|rfl|rfl|rfl|rfl|rfl|rfl<;>rfl
theorem fH{α:Type}(p:α->Bool)(xs:al α):(xs.map p).any id=xs.any p:=by rw [List.any_map];rfl
theorem IK{ms:al Nat}{rs:al Ru}(M:Ms ms)(hc:∀r∈rs,aY.contains r.c=je)(hl:rs.length<=1000) :
 Vh [.obj "All" [] [],.str ms,.lst (rs.map Ru.d)]=if decide (rs.length<=6)&&(!(rs.any λr=>decide (r.c = "All"))&&rs.all λr=>decide (r.ms=ms))then ja (.ok (.obj "All" ["marks", "rules"] [.str ms,.tup (rs.map Ru.d)]))else bX:=by
 have h1:=kS (ε:=ZI JB (Za 0)) (δ0:=[none]) Ru.d (λr=>decide (r.c = "All")) rs (λr hr=>⟨_,rfl,isi_All (hc r hr) rfl⟩);have h2:=kS (ε:=aB bA (ZU aY "marks" (Za 0)) (Za 1)) (δ0:=[none,ja (.str ms)]) Ru.d (λr=>decide (r.ms=ms)) rs (λr hr=>⟨_,rfl,(Zq (IJ (hc r hr) rfl) rfl).trans (Z4 _ _)⟩);have a1:=kT (λr:Ru=>decide (r.c = "All")) (λbs=>bs.any id) rs
 have a2:=kT (λr:Ru=>decide (r.ms=ms)) (λbs=>bs.all id) rs;rw [fH]at a1;rw [yV]at a2;refine pS rfl ((JU (pQ (ds:=[.str ms]) rfl (Zd rfl aC) rfl (QR M "All" (by decide)))).trans ((Ug (b:=decide (rs.length<=6)) ?_ ((Ug (b:=!(rs.any λr=>decide (r.c = "All"))) ?_ (Ug (b:=rs.all λr=>decide (r.ms=ms)) ?_ (kQ (o:=.nx [ja (.obj "All" ["marks", "rules"] [.str ms,.tup (rs.map Ru.d)]),ja (.str ms),ja (.lst (rs.map Ru.d))]) ?_))).trans (QT _ _ _ _))).trans (QT _ _ _ _))) rfl
 . have e:decide (((rs.map Ru.d).length:Int)<=6)=decide (rs.length<=6):=by rw [jk];exact decide_eq_decide.mpr ⟨by omega,by omega⟩
   refine(Zq (x:=.int (rs.map Ru.d).length) (y:=.int 6) rfl rfl).trans ?_;rw [<-e];rfl
 . exact II ((YT (Zd (VD rfl rfl h1 (by rw [jk];omega)) aC)).trans a1)
 . exact(YT (Zd (VD rfl rfl h2 (by rw [jk];omega)) aC)).trans a2
 . have hl2:(rs.map Ru.d).length<=1000:=by rw [jk];exact hl
   generalize rs.map Ru.d=wd at hl2;simp [ZB,iV,Vv,DL.run,DL.fA,Zf,bp,Zm,Ye,aL,Zg,ZP,ZB,Z1,Yg,xB,bD,ZK,ZG,bz,Za,eC,aB,ZS,bZ,ZT,b9,ZD,Z6,ZO,ZX,bY,ZV,az,Zb,Zl,ZH,aU,aM,bj,bn,Zi,ZN,Yi,ZU,bq,xP,aS,aE,bi,bc,aJ,aK,Zv,aP,cr,bH,ZI,ZY,kind,aF,ZZ,Z4,Yj,Z8,Z9,Yb,Z5,Z0,Yk,Yl,Ym,jG,ZM,a3,jo,jd]
theorem Xz{a:EN->am D}{δ:EN}{i j:Int}(h:a δ=ja (.int i))(h1:0<j)(h2:j<1000000):aB aJ a (eC (.int j)) δ=ja (.int (i / j)):=(Zq h rfl).trans (xM (xO h1 h2))
theorem Yu{a b:EN->am D}{δ:EN}{i j:Int}(h:a δ=ja (.int i))(hb:b δ=ja (.int j))(h1:0<j):aB aK a b δ=ja (.int (i % j)):=(Zq h hb).trans (xL h1)
theorem zM{xs:al D}{a b:EN->am D}{δ:EN}{i m:Int}(ha:a δ=ja (.lst xs))(hb:b δ=ja (.int (i % m)))(hn:(xs.length:Int)=m)(h0:0<m):∃x∈xs,xs[(i % m).toNat]? = ja x/\aB aP a b δ=ja x:=by
 have h1:=oi i (show m≠0 by omega);have h2:=OL i h0;obtain⟨x,h3,h4⟩:=nU (xs:=xs) h1 (by rw [hn];exact h2);exact⟨x,qK h4,h4,(Zq ha hb).trans h3⟩
theorem kU{P:D->Prop}{xs:al D}{a b:EN->am D}{δ:EN}{i m:Int}(ha:a δ=ja (.lst xs))(hb:b δ=ja (.int (i % m)))(hn:(xs.length:Int)=m)(h0:0<m)(hP:∀x∈xs,P x):∃x,aB aP a b δ=ja x/\P x:=by
 obtain⟨x,h1,_,h2⟩:=zM ha hb hn h0;exact⟨x,h2,hP x h1⟩
theorem zN:∀{l ms:al Nat},l.Nodup->(∀x∈l,x∈ms)->l.length<=ms.length
 | [],_,_,_=>yr _
 |a::l,ms,hn,h=>by
  have ha:=h a jr;have h1:=zN (l:=l) (ms:=ms.erase a) (yh.mp hn).2 λx hx=>(List.mem_erase_of_ne (λ(e:x=a)=>(yh.mp hn).1 (e▸hx))).mpr (h x (jq _ hx))
  have h2:=List.length_pos_of_mem ha;rw [List.length_erase_of_mem ha]at h1;rw [jh];omega
theorem IL(ms:al Nat)(xs:al Nat):YD (Zw 0) (xB (aB (dD je) (Za 0) (Za 1))) (Za 0) [none,ja (.str ms)] (xs.map λc => .str [c])=ja ((xs.filter λc=>decide (c∉ms)).map λc => .str [c]):=by
 rw [nV (λd=>match d with | .str [c]=>decide (c∉ms)|_=>jj) id]
 . rw [vA,Wm]
   rfl
 . intro x hx
   obtain⟨c,hc,rfl⟩:=qf.mp hx;refine⟨_,rfl,Yt ((Zq rfl rfl).trans ?_),λ_=>rfl⟩;show ja (D.bl (je != decide (c∈ms)))=_
   by_cases h:c∈ms<;>simp [h]
theorem IM{ms:al Nat}(M:Ms ms):0<(SG.filter λc=>decide (c∉ms)).length:=by
 have h1:∀(l:al Nat)(p:Nat->Bool),l.length<=(l.filter p).length+(l.filter λc => !p c).length:=λl p=>by
  induction l with
  |nil=>simp
  |cons a l ih=>by_cases h:p a=je<;>simp [List.filter_cons,h]<;>omega
 have h2:=h1 SG λc=>decide (c∉ms)
 have h3:(SG.filter λc => !decide (c∉ms)).length<=ms.length:=by
  refine zN (List.Nodup.sublist List.filter_sublist (by decide)) λx hx => ?_
  have:=(O3.mp hx).2;simpa using this
 have:=M.hi;rw [zI]at h2;omega
theorem QU{α:Type}(r:al α)(j:Nat):bB r none (ja (j:Int))=r.take j:=by
 cases j with
 |zero=>
  unfold bB YA;simp
 |succ j=>exact Iu r j
theorem IN{a:EN->am D}{δ:EN}{w:al Nat}{n:Nat}{k:Int}(h:a δ=ja (.str w))(hl:w.length<=1000)(hk:k=(n:Nat)):bq a aS (xP (eC (.int k))) δ=ja (.str (w.take n)):=by
 subst hk;unfold bq;rw [h];show(if w.length<=jv then ja (D.str (bB w none (ja (n:Int))))else none)=_;rw [if_pos (by rw [jo];omega),QU]
theorem Xb{a b:EN->am D}{δ:EN}{x y:al Nat}(h1:a δ=ja (.str x))(h2:b δ=ja (.str y))(h:x.length+y.length<=1000):aB aE a b δ=ja (.str (x++y)):=by
 refine(Zq h1 h2).trans ?_;show(if x.length+y.length<=jv then _ else _)=_;rw [if_pos (by rw [jo];omega)]
theorem zO{a b:EN->am D}{δ:EN}{ms:al Nat}{i m:Int}(ha:a δ=ja (.str ms))(hb:b δ=ja (.int (i % m)))(hn:(ms.length:Int)=m)(h0:0<m)(hl:ms.length<=1000):∃z,aB aP a b δ=ja (.str [z])/\z∈ms:=by
 subst hn;obtain⟨z,h1,h2⟩:=Iv (ms:=ms) (by omega) i;exact⟨z,(Zq ha hb).trans (xN (by rw [jo];omega) h1),h2⟩
theorem UH{a b:EN->am D}{δ:EN}{x y:al D}(h1:a δ=ja (.lst x))(h2:b δ=ja (.lst y))(h:x.length+y.length<=100000):aB Yx a b δ=ja (.lst (x++y)):=(Zq h1 h2).trans (Gs h)
def Bd(w:al Nat):Prop:=Tx w/\XJ w=jj
theorem Bd.of{w:al Nat}(h:(decide (w.length<=5)&&w.all (λc=>decide (c<65536)) && !XJ w)=je):Bd w:=by
 simp only [jF,decide_eq_true_eq,ul]at h;exact⟨⟨h.1.1,h.1.2⟩,h.2⟩
theorem VM{i:Int}(h:i∈([0,1,2,3,4,5,6,7,8,9,10,12,20,99]:al Int)):VH [.str (Zu i)]=ja (.int i)/\Good (Zu i)/\(Zu i).length<=8:=by
 simp only [jp,yU,or_false]at h;rcases h with h|h|h|h|h|h|h|h|h|h|h|h|h|h<;>subst h<;>exact⟨rfl,⟨by decide,by decide⟩,by decide⟩
theorem Qa{i:Int}(h1 : -9<=i)(h2:i<=9):JH [.str (Zu i)]=ja (.int i)/\Good (Zu i)/\(Zu i).length<=8:=by
 have h:i∈([-9,-8,-7,-6,-5,-4,-3,-2,-1,0,1,2,3,4,5,6,7,8,9]:al Int):=by simp only [jp,yU,or_false];omega
 simp only [jp,yU,or_false]at h;rcases h with h|h|h|h|h|h|h|h|h|h|h|h|h|h|h|h|h|h|h<;>subst h<;>exact⟨rfl,⟨by decide,by decide⟩,by decide⟩
inductive R
 |gap (mk:List Nat) (lo:Int) (mo:Option Int)
 |never (w:List Nat)
 |sum (ws:List Int) (lo hi:Int)
 |turn (mk:List Nat) (ev at_:Int)
 |alike (mo:Int)
def Nu(i:Int):Prop:=i∈([0,1,2,3,4,5,6,7,8,9,10,12,20,99]:al Int)
theorem Nu.of{i:Int}(h0:0<=i)(h9:i<=9):Nu i:=by
 unfold Nu;simp only [jp,yU,or_false];omega
def Gw(w:al Nat):Prop:=Good w/\w.length<=8
def R.Wd:R->Prop
 | .gap mk lo mo=>Gw mk/\Nu lo/\∀m,mo=ja m->Nu m
 | .never w=>Gw w
 | .sum ws lo hi=>ws.length<=6/\∀i∈lo::hi::ws,-9<=i/\i<=9
 | .turn mk ev at_=>Gw mk/\Nu ev/\Nu at_
 | .alike mo=>Nu mo
def fg:am Int->al Nat
 |none=>[97,110,121]
 |some m=>Zu m
def R.words:R->al (al Nat)
 | .gap mk lo mo=>[[103,97,112],mk,Zu lo,fg mo]
 | .never w=>[[110,101,118,101,114],w]
 | .sum ws lo hi=>[115,117,109]::Zu lo::Zu hi::ws.map Zu
 | .turn mk ev at_=>[[116,117,114,110],mk,Zu ev,Zu at_]
 | .alike mo=>[[97,108,105,107,101],Zu mo]
def R.okB(ms:al Nat):R->Bool
 | .gap mk lo mo=>eJ ms mk&&decide (0<=lo/\lo<=8)&&(match mo with|none=>je|some m=>decide (lo<=m/\m<=8))
 | .never w=>decide (1<=w.length/\w.length<=6)&&w.all (λc=>decide (c∈ms))
 | .sum ws lo hi=>decide (ws.length=ms.length)&&(ws.all (λv=>decide (-3<=v/\v<=3))&&(decide (-8<=lo/\lo<=0)&&decide (0<=hi/\hi<=8)))
 | .turn mk ev at_=>eJ ms mk&&decide (1<=ev/\ev<=6)&&decide (0<=at_/\at_<=ev-1)
 | .alike mo=>decide (1<=mo/\mo<=6)
def R.ru(ms:al Nat):R->Ru
 | .gap mk lo mo=>⟨"Gap",ms,["mark", "least", "most"],[.str mk,.int lo,XX mo]⟩
 | .never w=>⟨"Never",ms,["word"],[.str w]⟩
 | .sum ws lo hi=>⟨"Sum",ms,["worths", "low", "high"],[.tup (ws.map D.int),.int lo,.int hi]⟩
 | .turn mk ev at_=>⟨"Turn",ms,["mark", "every", "at"],[.str mk,.int ev,.int at_]⟩
 | .alike mo=>⟨"Alike",ms,["most"],[.int mo]⟩
theorem R.cls(ms:al Nat)(r:R):aY.contains (r.ru ms).c=je/\decide ((r.ru ms).c = "All")=jj/\(r.ru ms).ms=ms:=by cases r<;>exact⟨rfl,rfl,rfl⟩
theorem R.good{r:R}(o:r.Wd):r.words.length<=9/\∀w∈r.words,Gw w:=by
 cases r with
 |gap mk lo mo=>
  obtain⟨a,b,d⟩:=o;refine⟨show 4<=9 by decide,?_⟩
  have e:Gw (fg mo):=by
   cases mo with
   |none=>exact⟨⟨by decide,by decide⟩,by decide⟩
   |some m=>exact(VM (d m rfl)).2
  simp only [R.words,qt];exact⟨⟨⟨by decide,by decide⟩,by decide⟩,a,(VM b).2,e,λ_ z=>nomatch z⟩
 |never w=>
  refine⟨show 2<=9 by decide,?_⟩;simp only [R.words,qt];exact⟨⟨⟨by decide,by decide⟩,by decide⟩,o,λ_ z=>nomatch z⟩
 |sum ws lo hi=>
  obtain⟨a,b⟩:=o;refine⟨by simp only [R.words,jh,jk];omega,?_⟩;have hs:∀i∈lo::hi::ws,Gw (Zu i):=λi hi=>(Qa (b i hi).1 (b i hi).2).2
  simp only [qt]at hs;simp only [R.words,qt];refine⟨⟨⟨by decide,by decide⟩,by decide⟩,hs.1,hs.2.1,λw hw => ?_⟩;obtain⟨i,hi,rfl⟩:=qf.mp hw;exact hs.2.2 i hi
 |turn mk ev at_=>
  obtain⟨a,b,c⟩:=o;refine⟨show 4<=9 by decide,?_⟩;simp only [R.words,qt];exact⟨⟨⟨by decide,by decide⟩,by decide⟩,a,(VM b).2,(VM c).2,λ_ z=>nomatch z⟩
 |alike mo=>
  refine⟨show 2<=9 by decide,?_⟩;simp only [R.words,qt];exact⟨⟨⟨by decide,by decide⟩,by decide⟩,(VM (i:=mo) o).2,λ_ z=>nomatch z⟩
theorem R.ne{r:R}:r.words≠[]:=by cases r<;>exact λz=>nomatch z
structure Mk(d:D)(r:R):Prop where
 nn:ZO d=jj
 cl:∀{ms},Ms ms->Jy 0 bo (Zb (Za 1) az) [ja d,ja (.str ms)]=(if r.okB ms then ja (r.ru ms).d else none)/\QI 0 bo (Zb (Za 1) az) [ja d,ja (.str ms)]=if r.okB ms then none else ja "BadRule"
 bad:∀{w},Bd w->QI 0 bo (Zb (Za 1) az) [ja d,ja (.str w)]=ja "BadMarks"
theorem fh {k:Nat} {xs:al D} {m:al D->am D} {x:al D->am String} {q:al D->am RD} {a:al Nat->al D} {r:R} (h1:bo.find? (·.1 == k)=ja (k,1,m,x)) (h2:YQ xs=je)
 (h3:∀w,m (.str w::xs)=bQ q (a w)/\x (.str w::xs)=bO q (a w)) (h4:∀{ms},Ms ms->q (a ms)=if r.okB ms then ja (.ok (r.ru ms).d)else bX) (h5:∀{w},Bd w->q (a w)=ja (.error "BadMarks")):Mk (.clo k xs) r:=by
 have e1:∀w,Jy 0 bo (Zb (Za 1) az) [ja (.clo k xs),ja (.str w)]=bQ q (a w):=λw=>by
  show(match bo.find? (·.1 == k)with
   |some (_,n,m,_)=>if 1=n/\YQ [D.str w]=je/\YQ xs=je then m ([D.str w]++xs)else none
   |none=>none)=_
  rw [h1];dsimp only;rw [if_pos ⟨rfl,rfl,h2⟩];exact(h3 w).1
 have e2:∀w,QI 0 bo (Zb (Za 1) az) [ja (.clo k xs),ja (.str w)]=bO q (a w):=λw=>by
  show(match bo.find? (·.1 == k)with
   |some (_,n,_,x)=>if 1=n/\YQ [D.str w]=je/\YQ xs=je then x ([D.str w]++xs)else none
   |none=>none)=_
  rw [h1];dsimp only;rw [if_pos ⟨rfl,rfl,h2⟩];exact(h3 w).2
 refine⟨rfl,λ{ms} M => ?_,λ{w} W => ?_⟩
 . rw [e1,e2]
   unfold bQ bO;rw [h4 M];cases r.okB ms<;>exact⟨rfl,rfl⟩
 . rw [e2]
   unfold bO;rw [h5 W]
theorem gk{c:String}{n:Nat}{q:al D->am RD}{α:EN->am (al D)}{ε:EN->am D}{χ:EN->am String}{ds:al D}(δ:EN)(e1:ε=ZN c n (bQ q) [] α)(e2:χ=Vd c n (bO q) [] α)(h:α δ=ja ds)(hn:ds.length+1=n):ε δ=bQ q (.obj c [] []::ds)/\χ δ=bO q (.obj c [] []::ds):=by
 rw [e1,e2];unfold ZN Vd;rw [h];dsimp only;rw [qh];exact⟨if_pos hn,if_pos hn⟩
theorem JV{c:al Nat}{m:al D->am D}{ws:al D}{d:D}(h1:bh.find? (·.1 == c)=ja (c,1,m))(h2:m [.lst (.str c::ws)]=ja d):Xy [.lst (.str c::ws)]=ja d:=by
 have e0:aB aP (Za 0) (eC (.int 0)) [ja (.lst (.str c::ws)),none]=ja (.str c):=(Zq rfl rfl).trans (Xf (a:=0) rfl)
 have t:xB (Jo bh (aB aP (Za 0) (eC (.int 0)))) [ja (.lst (.str c::ws)),none]=ja false:=by
  refine Yt ?_;unfold Jo;rw [e0];dsimp only;rw [h1];rfl
 have h:i6 [ja (.lst (.str c::ws)),none]=ja (.rt d):=by
  refine(Zx (δ':=[ja (.lst (.str c::ws)),none]) ((YK t).trans rfl)).trans ?_;unfold iG;rw [e0];dsimp only;rw [h1];show(if 1<2/\1=1 then(m [.lst (.str c::ws)]).map aT.rt else none)=_;rw [if_pos ⟨by decide,rfl⟩,h2];rfl
 exact Ub rfl h
theorem JW{N k:Nat}{φ:EN->am aT}{ds xs:al D}{δ δ':EN}(h1:ds.map ja++jd (N-ds.length) none=δ)(h2:φ δ=ja (.nx δ'))(h3:cM δ' js=ja xs):Vx N φ k js ds=ja (.clo k xs):=by
 unfold Vx;rw [h1,h2];dsimp only;rw [h3];rfl
theorem zP:∀ws:al Int,YQ (ws.map D.int)=je
 | []=>rfl
 |i::ws=>by
  have:=zP ws;simp [YQ,eZ,this]
theorem kW{e:EN->am D}{δ:EN}{d:D}(h:e δ=ja d):ZD e δ=ja (.bl (ZO d)):=by
 unfold ZD;rw [h]
theorem JX{e:EN->am D}{δ:EN}{d:D}(h:e δ=ja d)(hn:ZO d=jj):xB (ZD e) δ=ja false:=Yt ((kW h).trans (by rw [hn]))
theorem neN(i j:Int)(h:i=j):bU (.int i) (.int j)=ja (.bl jj):=by
 rw [Z5];simp [h]
theorem IP(i j:al Nat)(h:i=j):bU (.str i) (.str j)=ja (.bl jj):=by
 rw [Z0];simp [h]
theorem cG{α:Type}(r:al α)(j:Nat):bB r (ja (j:Int)) none=r.drop j:=by
 unfold bB YA;have e:¬((j:Int)<0):=by omega
 have e2:((j:Int)).toNat=j:=by omega
 simp only [e,if_false,e2]
 by_cases h:j<=r.length
 . rw [oh h]
   exact qx (by simp)
 . rw [O1 (by omega),o6 (jz _),o6 (by omega)]
   simp
theorem pT{a:EN->am D}{δ:EN}{xs:al D}(h:a δ=ja (.lst xs)):Z2 a δ=ja xs:=by
 unfold Z2;rw [h]
theorem zQ{γ:D->EN->am EN}{ε:EN->am D}{δ δ1:EN}{x y:D}{xs ys:al D}(h1:γ x δ=ja δ1)(h2:ε δ1=ja y)(h3:YD γ (λ_=>ja je) ε δ xs=ja ys):YD γ (λ_=>ja je) ε δ (x::xs)=ja (y::ys):=by
 unfold YD;rw [h1];dsimp only;rw [h2,h3]
theorem zR:∀is:al Int,eN .non ((is.map D.int).map bP)=jj
 | []=>rfl
 |i::is=>by
  unfold eN;rw [jy,jy,oJ];have:=zR is;unfold eN at this;rw [this];rfl
theorem zS:∀is:al Int,(is.map D.int).all ZA=je
 | []=>rfl
 |i::is=>by rw [jy,yw,zS is];rfl
theorem pU{a:EN->am D}{δ:EN}{xs:al D}(j:Nat)(h:a δ=ja (.lst xs)):bq a (xP (eC (.int (j:Int)))) aS δ=ja (.lst (xs.drop j)):=by
 unfold bq;rw [h];show ja (D.lst (bB xs (ja (j:Int)) none))=_;rw [cG]
theorem eL{lo:Int}{mo:am Int}(o:(R.gap mk lo mo).Wd):∃d,Xy [.lst ((R.gap mk lo mo).words.map D.str)]=ja d/\Mk d (R.gap mk lo mo):=by
 obtain⟨a,b,d⟩:=o;have n1:=(VM b).1
 have n2:VH [.str (fg mo)]=ja (XX mo):=by
  cases mo with
  |none=>exact rfl
  |some m=>exact(VM (d m rfl)).1
 have n3:ZO (XX mo)=je->fg mo=[97,110,121]:=by
  cases mo with
  |none=>exact λ_=>rfl
  |some m=>exact λz=>nomatch z
 have hk:mk.length<=1000:=jK a.2 (by decide);refine⟨.clo 0 [.lst ((R.gap mk lo mo).words.map D.str),.int lo,XX mo],JV (ws:=[.str mk,.str (Zu lo),.str (fg mo)]) (m:=i4) rfl ?_,fh (m:=pp) (x:=pq) (q:=XH) (a:=λw=>[.obj "Gap" [] [],.str w,.str mk,.int lo,XX mo]) rfl ?_ (λw=>gk (ε:=i7) (χ:=i8) [ja (.str w),ja (.lst [.str [103,97,112],.str mk,.str (Zu lo),.str (fg mo)]),ja (.int lo),ja (XX mo)] rfl rfl (Zd rfl (Zd ((Zq rfl rfl).trans (Xf (a:=1) rfl)) (Zd rfl (Zd rfl aC)))) rfl) (λM=>ID M hk lo mo) λW=>Ix W.1 W.2 _ _⟩
 . show i4 [.lst [.str [103,97,112],.str mk,.str (Zu lo),.str (fg mo)]]=ja (.clo 0 [.lst [.str [103,97,112],.str mk,.str (Zu lo),.str (fg mo)],.int lo,XX mo])
   generalize Zu lo=x at *;generalize fg mo=y at *;generalize XX mo=z at *;have t1:xB (aB bU (aU aM (Zb (Za 0) az)) (eC (.int 4))) [ja (.lst [.str [103,97,112],.str mk,.str x,.str y]),none,none]=ja false:=Yt ((Zq (x:=.int 4) rfl rfl).trans (neN _ _ rfl))
   have t2:bz (xB (ZD (Za 1))) (ZG (xB (ZD (Za 2))) (xB (aB bU (aB aP (Za 0) (eC (.int 3))) (eC (.str [97,110,121]))))) [ja (.lst [.str [103,97,112],.str mk,.str x,.str y]),ja (.int lo),ja z]=ja false:=by
    refine UC (JX rfl rfl) ?_;cases hz:ZO z with
    |false=>exact nY (Yt ((kW rfl).trans (by rw [hz])))
    |true=>exact iO (Yt ((kW rfl).trans (by rw [hz]))) (Yt ((Zq (x:=.str y) ((Zq rfl rfl).trans (Xf (a:=3) rfl)) rfl).trans (IP _ _ (n3 hz))))
   refine JW rfl (δ':=[ja (.lst [.str [103,97,112],.str mk,.str x,.str y]),ja (.int lo),ja z]) ?_ rfl;refine(Zx ((YK t1).trans rfl)).trans ((Zx (Zy ((Yy (Zd ((Zq rfl rfl).trans (Xf (a:=2) rfl)) aC) rfl).trans n1))).trans ((Zx (Zy ((Yy (Zd ((Zq rfl rfl).trans (Xf (a:=3) rfl)) aC) rfl).trans n2))).trans ((YK t2).trans rfl)))
 . cases mo<;>rfl
theorem dA(o:(R.never w).Wd):∃d,Xy [.lst ((R.never w).words.map D.str)]=ja d/\Mk d (R.never w):=by
 have hk:w.length<=1000:=jK o.2 (by decide);refine⟨.clo 1 [.lst ((R.never w).words.map D.str)],JV (ws:=[.str w]) (m:=ph) rfl ?_,fh (m:=pr) (x:=pw) (q:=Ud) (a:=λt=>[.obj "Never" [] [],.str t,.str w]) rfl rfl (λt=>gk (ε:=i9) (χ:=ka) [ja (.str t),ja (.lst [.str [110,101,118,101,114],.str w])] rfl rfl (Zd rfl (Zd ((Zq rfl rfl).trans (Xf (a:=1) rfl)) aC)) rfl) (λM=>IE M hk) λW=>Iy W.1 W.2 _ _⟩
 have t1:xB (aB bU (aU aM (Zb (Za 0) az)) (eC (.int 2))) [ja (.lst [.str [110,101,118,101,114],.str w])]=ja false:=Yt ((Zq (x:=.int 2) rfl rfl).trans (neN _ _ rfl));exact JW rfl (δ':=[ja (.lst [.str [110,101,118,101,114],.str w])]) ((YK t1).trans rfl) rfl
theorem dP{ev at_:Int}(o:(R.turn mk ev at_).Wd):∃d,Xy [.lst ((R.turn mk ev at_).words.map D.str)]=ja d/\Mk d (R.turn mk ev at_):=by
 obtain⟨a,b,c⟩:=o;have n1:=(VM b).1;have n2:=(VM c).1;have hk:mk.length<=1000:=jK a.2 (by decide);refine⟨.clo 3 [.lst ((R.turn mk ev at_).words.map D.str),.int ev,.int at_],JV (ws:=[.str mk,.str (Zu ev),.str (Zu at_)]) (m:=i5) rfl ?_,fh (m:=pz) (x:=pA) (q:=XW) (a:=λw=>[.obj "Turn" [] [],.str w,.str mk,.int ev,.int at_]) rfl rfl (λw=>gk (ε:=ke) (χ:=kf) [ja (.str w),ja (.lst [.str [116,117,114,110],.str mk,.str (Zu ev),.str (Zu at_)]),ja (.int ev),ja (.int at_)] rfl rfl (Zd rfl (Zd ((Zq rfl rfl).trans (Xf (a:=1) rfl)) (Zd rfl (Zd rfl aC)))) rfl) (λM=>IF M hk ev at_) λW=>IA W.1 W.2 _ _⟩
 show i5 [.lst [.str [116,117,114,110],.str mk,.str (Zu ev),.str (Zu at_)]]=ja (.clo 3 [.lst [.str [116,117,114,110],.str mk,.str (Zu ev),.str (Zu at_)],.int ev,.int at_]);generalize Zu ev=x at *;generalize Zu at_=y at *;have t1:xB (aB bU (aU aM (Zb (Za 0) az)) (eC (.int 4))) [ja (.lst [.str [116,117,114,110],.str mk,.str x,.str y]),none,none]=ja false:=Yt ((Zq (x:=.int 4) rfl rfl).trans (neN _ _ rfl))
 refine JW rfl (δ':=[ja (.lst [.str [116,117,114,110],.str mk,.str x,.str y]),ja (.int ev),ja (.int at_)]) ?_ rfl;exact(Zx ((YK t1).trans rfl)).trans ((Zx (Zy ((Yy (Zd ((Zq rfl rfl).trans (Xf (a:=2) rfl)) aC) rfl).trans n1))).trans ((Zx (Zy ((Yy (Zd ((Zq rfl rfl).trans (Xf (a:=3) rfl)) aC) rfl).trans n2))).trans ((YK (UC (JX rfl rfl) (JX rfl rfl))).trans rfl)))
theorem dB{mo:Int}(o:(R.alike mo).Wd):∃d,Xy [.lst ((R.alike mo).words.map D.str)]=ja d/\Mk d (R.alike mo):=by
 have n1:=(VM (i:=mo) o).1;refine⟨.clo 4 [.int mo],JV (ws:=[.str (Zu mo)]) (m:=pj) rfl ?_,fh (m:=pB) (x:=pC) (q:=Vg) (a:=λw=>[.obj "Alike" [] [],.str w,.int mo]) rfl rfl (λw=>gk (ε:=kg) (χ:=kh) [ja (.str w),ja (.int mo)] rfl rfl (Zd rfl (Zd rfl aC)) rfl) (λM=>IG M mo) λW=>IB W.1 W.2 _ _⟩;generalize Zu mo=x at *;have t1:xB (aB bU (aU aM (Zb (Za 0) az)) (eC (.int 2))) [ja (.lst [.str [97,108,105,107,101],.str x]),none]=ja false:=Yt ((Zq (x:=.int 2) rfl rfl).trans (neN _ _ rfl))
 exact JW rfl (δ':=[ja (.lst [.str [97,108,105,107,101],.str x]),ja (.int mo)]) ((Zx ((YK t1).trans rfl)).trans ((Zx (Zy ((Yy (Zd ((Zq rfl rfl).trans (Xf (a:=1) rfl)) aC) rfl).trans n1))).trans ((YK (JX rfl rfl)).trans rfl))) rfl
theorem eM{ws:al Int}{lo hi:Int}(o:(R.sum ws lo hi).Wd):∃d,Xy [.lst ((R.sum ws lo hi).words.map D.str)]=ja d/\Mk d (R.sum ws lo hi):=by
 obtain⟨a,hb⟩:=o;have hl:(lo::hi::ws).length<=8:=by simp only [jh];omega
 have hl2:2<=(lo::hi::ws).length:=by simp only [jh];omega
 have hw:(R.sum ws lo hi).words.map D.str = .str [115,117,109]::((lo::hi::ws).map λi=>D.str (Zu i)):=by
  simp only [R.words,jy,qM];rfl
 rw [hw];refine⟨.clo 2 [.lst ((lo::hi::ws).map D.int)],JV (m:=pi) rfl ?_,fh (m:=px) (x:=py) (q:=Ue) (a:=λw=>[.obj "Sum" [] [],.str w,.tup (ws.map D.int),.int lo,.int hi]) rfl (by simp [YQ,eZ,zP]) (λw=>gk (ε:=kb) (χ:=kc) [ja (.str w),ja (.lst (.int lo :: .int hi::ws.map D.int))] rfl rfl (Zd rfl (Zd ((YT (Zd (pU (xs:=.int lo :: .int hi::ws.map D.int) 2 rfl) aC)).trans rfl) (Zd ((Zq rfl rfl).trans (Xf (a:=0) rfl)) (Zd ((Zq rfl rfl).trans (Xf (a:=1) rfl)) aC)))) rfl) (λM=>IH M (by omega) lo hi) λW=>Iz W.1 W.2 _ _⟩
 generalize hi':lo::hi::ws=is at *
 have t1:xB (aB (Zv λi j=>decide (i<j)) (aU aM (Zb (Za 0) az)) (eC (.int 3))) [ja (.lst (.str [115,117,109]::(is.map λi=>D.str (Zu i)))),none]=ja false:=by
  refine Yt ((Zq ((YT (Zd rfl aC)).trans bR) rfl).trans ?_);show ja (D.bl (decide ((((D.str [115,117,109]::(is.map λi=>D.str (Zu i))).length:Nat):Int)<3)))=_;rw [decide_eq_false (by rw [jh,jk];omega)]
 have t2:Yr (Z2 (bq (Za 0) (xP (eC (.int 1))) aS)) (Zw 0) (λ_=>ja je) (Zi 1 JH [] (Zb (Za 0) az)) 1 [] [ja (.lst (.str [115,117,109]::(is.map λi=>D.str (Zu i)))),none]=ja (.lst (is.map D.int)):=by
  refine VD (xs:=is.map λi=>D.str (Zu i)) (pT (pU (xs:=.str [115,117,109]::(is.map λi=>D.str (Zu i))) 1 rfl)) rfl ?_ (by rw [jk];omega)
  have key:∀js:al Int,(∀i∈js,-9<=i/\i<=9)->YD (Zw 0) (λ_=>ja je) (Zi 1 JH [] (Zb (Za 0) az)) [none] (js.map λi=>D.str (Zu i))=ja (js.map D.int):=by
   intro js
   induction js with
   |nil=>exact λ_=>rfl
   |cons i js ih=>
    intro hj;have e1:=(Qa (hj i jr).1 (hj i jr).2).1;have e2:=ih λx hx=>hj x (jq _ hx)
    rw [jy,jy];exact zQ rfl ((Yy (Zd rfl aC) rfl).trans e1) e2
  exact key is hb
 have t3:xB (aB (dD jj) (eC .non) (Za 1)) [ja (.lst (.str [115,117,109]::(is.map λi=>D.str (Zu i)))),ja (.lst (is.map D.int))]=ja false:=by
  refine Yt ((Zq rfl rfl).trans ?_);show(if ZA .non&&(is.map D.int).all ZA then ja (D.bl (eN .non ((is.map D.int).map bP)))else none)=_;rw [zS,zR];rfl
 exact JW rfl ((Zx ((YK t1).trans rfl)).trans ((Zx (Zy t2)).trans ((YK t3).trans rfl))) rfl
theorem gP{r:R}(o:r.Wd):∃d,Xy [.lst (r.words.map D.str)]=ja d/\Mk d r:=by
 cases r with
 |gap=>exact eL o
 |never=>exact dA o
 |sum=>exact eM o
 |turn=>exact dP o
 |alike=>exact dB o
def cw(p:Nat×al (al Nat)):D := .tup [.int (p.1:Nat),.lst (p.2.map D.str)]
theorem IQ{pg v4:am D}{acc:al D}{k:Nat}{row:al Nat}(hr:row.length<=1000000)(ha:acc.length<=1000000):∃v4',pf [pg,ja (.lst acc),ja (.int (k:Nat)),ja (.str row),v4]=ja (.nx [pg,ja (.lst (acc++if Zs row=[]then []else [cw (k,Zs row)])),ja (.int (k:Nat)),ja (.str row),v4']):=by
 have h1:=ff hr;refine⟨ja (.lst ((Zs row).map D.str)),?_⟩;have t:xB (aB (Zv λi j=>decide (j<i)) (aU aM (Zb (Za 4) az)) (eC (.int 0))) [pg,ja (.lst acc),ja (.int (k:Nat)),ja (.str row),ja (.lst ((Zs row).map D.str))]=ja (decide ((0:Int)<(((Zs row).map D.str).length:Nat))):=Yt ((Zq ((YT (Zd rfl aC)).trans bR) rfl).trans rfl);refine(Zx (Zy ((Yy (Zd rfl aC) rfl).trans h1))).trans ?_
 rw [jk]at t
 by_cases h:Zs row=[]
 . rw [if_pos h,qh]
   exact(YK (t.trans (by rw [h];rfl))).trans rfl
 . rw [if_neg h]
   have hp:0<(Zs row).length:=List.length_pos_iff.mpr h;exact(VC (t.trans (by rw [decide_eq_true (by omega)]))).trans (iP rfl (UD (Zd rfl (Zd rfl aC)) (show 2<=1000 by decide)) ha)
theorem JY{γ:D->EN->am EN}{φ:EN->am aT}{x:D}{r:al D}{δ δ1 δ2:EN}(h1:γ x δ=ja δ1)(h2:φ δ1=ja (.nx δ2)):YY γ φ (x::r) δ=YY γ φ r δ2:=by
 conv=>lhs;unfold YY
 rw [h1];dsimp only;rw [h2]
theorem zT(pg:am D):∀(ps:al (al Nat))(k:Nat)(acc:al D)(v2 v3 v4:am D),(∀p∈ps,p.length<=1000000)->acc.length+ps.length<=1000000->∃v2' v3' v4',YY (Xd 2 (Yh 2 (Yh 3 bG))) pf (XG k (ps.map D.str)) [pg,ja (.lst acc),v2,v3,v4]=ja (.nx [pg,ja (.lst (acc++(bM k ps).map cw)),v2',v3',v4'])
 | [],k,acc,v2,v3,v4,_,_=>⟨v2,v3,v4,by rw [show(bM k []).map cw=[]from rfl,qh];rfl⟩
 |p::ps,k,acc,v2,v3,v4,h,hl=>by
  rw [jh]at hl;obtain⟨w4,e⟩:=IQ (pg:=pg) (v4:=v4) (acc:=acc) (k:=k) (h p jr) (by omega)
  have hlen:(acc++if Zs p=[]then []else [cw (k,Zs p)]).length<=acc.length+1:=by
   rw [jt]
   split<;>simp
  obtain⟨a,b,c,ih⟩:=zT pg ps (k+1) (acc++if Zs p=[]then []else [cw (k,Zs p)]) (ja (.int (k:Nat))) (ja (.str p)) w4 (λq hq=>h q (jq _ hq)) (by omega);refine⟨a,b,c,?_⟩
  have ht:acc++(bM k (p::ps)).map cw=(acc++if Zs p=[]then []else [cw (k,Zs p)])++(bM (k+1) ps).map cw:=by
   rw [bM]
   split<;>simp
  rw [ht,<-ih,jy,XG];exact JY (δ1:=[pg,ja (.lst acc),ja (.int (k:Nat)),ja (.str p),v4]) rfl e
theorem zU(c:Nat):∀(a p:al Nat),p∈Zz c a->p.length<=a.length
 | [],p,h=>by
  have:p=[]:=by simpa [Zz]using h
  rw [this];exact jz _
 |x::a,p,h=>by
  rw [Zz]at h;have ih:=zU c a
  split at h
  . rcases jp.mp h with rfl|h
    . exact yr _
    . have:=ih p h
      rw [jh];omega
  . cases hs:Zz c a with
    |nil=>exact(sX c a hs).elim
    |cons q qs=>
     rw [hs]at h ih;rcases jp.mp h with rfl|h
     . have:=ih q jr
       rw [jh,jh];omega
     . have:=ih p (jq _ h)
       rw [jh];omega
theorem fJ{page:al Nat}(hl:page.length<=900000):i0 [.str page]=ja (.lst ((bM 1 (Zz 10 page)).map cw)):=by
 have hn:=iD 10 page;obtain⟨a,b,c,e⟩:=zT (ja (.str page)) (Zz 10 page) 1 [] none none none (λp hp=>jK (zU 10 page p hp) (by omega)) (by simp;omega);rw [ub]at e
 have hi:Jk (bH cE (Za 0) (Zb (eC (.str [10])) az)) [ja (.str page),ja (.lst []),none,none,none]=ja (XG 1 ((Zz 10 page).map D.str)):=by
  have:bH cE (Za 0) (Zb (eC (.str [10])) az) [ja (.str page),ja (.lst []),none,none,none]=ja (.lst ((Zz 10 page).map D.str)):=by
   refine(n4 rfl (Zd rfl aC)).trans ?_;exact if_pos (by rw [jo];omega)
  unfold Jk;rw [this]
 refine Ub rfl (((Zx (Zy (Xq aC (by decide)))).trans ((Zx (iQ hi e)).trans rfl)))
theorem IR{R:al (al Nat)}(h:∀r∈R,10∉r):bM 1 (Zz 10 (Zr [10] R))=bM 1 R:=by
 by_cases hR:R=[]
 . subst hR
   decide
 . rw [s0 10 R hR h]
abbrev Yp:al Nat:=[109,97,114,107,115]
theorem Vn{r s:EN->am cu}{δ δ':EN}(h:r δ=ja (.ok (.nx δ'))):YS r s δ=s δ':=by unfold YS;rw [h]
theorem JZ{r s:EN->am cu}{δ:EN}{c:XC}(h:r δ=ja (.error c)):YS r s δ=ja (.error c):=by unfold YS;rw [h]
theorem Vo{φ:EN->am aT}{δ:EN}{o:aT}(h:φ δ=ja o):Xx φ δ=ja (.ok o):=by unfold Xx;rw [h];rfl
theorem pV{τ:EN->am Bool}{r s:EN->am cu}{δ:EN}(h:τ δ=ja je):VB τ r s δ=r δ:=by unfold VB;rw [h]
theorem pW{τ:EN->am Bool}{r s:EN->am cu}{δ:EN}(h:τ δ=ja jj):VB τ r s δ=s δ:=by unfold VB;rw [h]
theorem pX{c:String}{α:EN->am (al D)}{δ:EN}{n:Nat}(h:α δ=ja [.int (n:Nat)])(hn:n<=1000000):UB c α δ=ja (.error (c,ja (n:Nat))):=by
 unfold UB QG;rw [h];dsimp only;rw [if_pos (by have:(10:Int) ^ 10=10000000000:=rfl;omega)];rfl
theorem zV{φ:EN->am aT}{χ:EN->am XC}{δ:EN}{o:aT}(h:χ δ=none)(h2:φ δ=ja o):X4 φ χ δ=ja (.ok o):=by unfold X4;rw [h,h2];rfl
theorem kX{φ:EN->am aT}{χ:EN->am XC}{δ:EN}{c:XC}(h:χ δ=ja c):X4 φ χ δ=ja (.error c):=by unfold X4;rw [h]
theorem pY{n:Nat}{f:EN->am cu}{vs:al D}{δ:EN}{x:eQ}(h1:(vs.map ja++jd (n-vs.length) none)=δ)(h2:f δ=ja (x.map aT.rt)):Ua n f vs=ja x:=by
 unfold Ua;rw [h1,h2];cases x<;>rfl
theorem zW{q:al D->am eQ}{d:D}(h:q vs=ja (.ok d)):Xp q vs=ja d:=by unfold Xp;rw [h]
theorem zX{q:al D->am eQ}(h:q vs=ja (.ok d)):Y6 q vs=none:=by unfold Y6;rw [h]
theorem zY{q:al D->am eQ}{c:XC}(h:q vs=ja (.error c)):Y6 q vs=ja c:=by unfold Y6;rw [h]
theorem pZ{n:Nat}{x:al D->am XC}{α:EN->am (al D)}{δ:EN}{ds:al D}(h:α δ=ja ds)(hn:ds.length=n):Ve n x [] α δ=x ds:=by
 unfold Ve;rw [h];dsimp only;rw [qh];exact if_pos hn
section
variable{γ:D->EN->am EN}{r:EN->am cu}{ι:EN->am (al D)}{x:D}{xs:al D}{δ δ1 δ2:EN}{c:XC}
theorem IS(h1:γ x δ=ja δ1)(h2:r δ1=ja (.ok (.nx δ2))):Xe γ (ZQ r) (YM r) (x::xs) δ=Xe γ (ZQ r) (YM r) xs δ2/\YY γ (ZQ r) (x::xs) δ=YY γ (ZQ r) xs δ2:=by
 refine⟨?_,JY h1 (by unfold ZQ;rw [h2])⟩
 conv=>lhs;unfold Xe
 rw [h1];unfold YM ZQ;dsimp only;rw [h2]
theorem IT(h1:γ x δ=ja δ1)(h2:r δ1=ja (.error c)):Xe γ (ZQ r) (YM r) (x::xs) δ=ja c:=by
 unfold Xe;rw [h1];unfold YM;dsimp only;rw [h2]
theorem IU(h:ι δ=ja xs)(h1:Xe γ (ZQ r) (YM r) xs δ=none)(h2:YY γ (ZQ r) xs δ=ja (.nx δ2)):V9 ι γ r δ=ja (.ok (.nx δ2)):=by
 unfold V9 Ju;rw [h];dsimp only;rw [h1,iQ h h2];rfl
theorem IV(h:ι δ=ja xs)(h1:Xe γ (ZQ r) (YM r) xs δ=ja c):V9 ι γ r δ=ja (.error c):=by
 unfold V9 Ju;rw [h];dsimp only;rw [h1]
end
theorem IW:Xg [.lst []]=ja (.error ("BadRow",ja 1)):=pY rfl (JZ (pV (δ:=[ja (.lst []),none]) (Yt ((Zq ((YT (Zd rfl aC)).trans bR) rfl).trans rfl)) |>.trans (pX (n:=1) (Zd rfl aC) (by decide))))
theorem cT{n:Nat}{w:al Nat}{ws:al (al Nat)}(xs:al D)(hn:n<=1000000):Xg [.lst (cw (n,w::ws)::xs)]=ja (if w=Yp/\ws.length=1 then .ok (.str (ws.headD []))else .error ("BadRow",ja n)):=by
 have t1:xB (aB bA (aU aM (Zb (Za 0) az)) (eC (.int 0))) [ja (.lst (cw (n,w::ws)::xs)),none]=ja false:=by
  refine Yt ((Zq ((YT (Zd rfl aC)).trans bR) rfl).trans ?_);rw [ZZ,decide_eq_false (by rw [jh];omega)]
 have e0:aB aP (Za 0) (eC (.int 0)) [ja (.lst (cw (n,w::ws)::xs)),none]=ja (cw (n,w::ws)):=(Zq rfl rfl).trans (Xf (a:=0) rfl);have e1:aB aP (aB aP (Za 0) (eC (.int 0))) (eC (.int 1)) [ja (.lst (cw (n,w::ws)::xs)),none]=ja (.lst (.str w::ws.map D.str)):=(Zq e0 rfl).trans (cS (a:=1) rfl)
 have t2:bz (xB (aB bU (aB aP (Za 1) (eC (.int 0))) (eC (.str [109,97,114,107,115])))) (xB (aB bU (aU aM (Zb (Za 1) az)) (eC (.int 2)))) [ja (.lst (cw (n,w::ws)::xs)),ja (.lst (.str w::ws.map D.str))]=ja (!decide (w=Yp/\ws.length=1)):=by
  have a1:xB (aB bU (aB aP (Za 1) (eC (.int 0))) (eC (.str [109,97,114,107,115]))) [ja (.lst (cw (n,w::ws)::xs)),ja (.lst (.str w::ws.map D.str))]=ja (!decide (w=Yp)):=Yt ((Zq ((Zq rfl rfl).trans (Xf (a:=0) rfl)) rfl).trans (Z0 _ _))
  have a2:xB (aB bU (aU aM (Zb (Za 1) az)) (eC (.int 2))) [ja (.lst (cw (n,w::ws)::xs)),ja (.lst (.str w::ws.map D.str))]=ja (!decide (ws.length=1)):=by
   refine Yt ((Zq ((YT (Zd rfl aC)).trans bR) rfl).trans ((Z5 _ _).trans ?_));rw [jh,jk]
   by_cases h:ws.length=1
   . rw [decide_eq_true h,decide_eq_true (by omega)]
   . rw [decide_eq_false h,decide_eq_false (by omega)]
  by_cases h:w=Yp
  . rw [decide_eq_true h]at a1
    refine(UC a1 a2).trans ?_
    by_cases h2:ws.length=1
    . rw [decide_eq_true h2,decide_eq_true ⟨h,h2⟩]
    . rw [decide_eq_false h2,decide_eq_false λz=>h2 z.2]
  . rw [decide_eq_false h]at a1
    rw [decide_eq_false λz=>h z.1];exact nX a1
 refine pY rfl ((Vn ((pW t1).trans (Vo rfl))).trans ((Vn (Vo (Zy e1))).trans ?_))
 by_cases h:w=Yp/\ws.length=1
 . rw [if_pos h]
   rw [decide_eq_true h]at t2;obtain⟨rfl,h2⟩:=h;obtain⟨m,rfl⟩:∃m,ws=[m]:=List.length_eq_one_iff.mp h2;exact(Vn ((pW t2).trans (Vo rfl))).trans (Vo (Vf ((Zq rfl rfl).trans (Xf (a:=1) rfl))))
 . rw [if_neg h]
   rw [decide_eq_false h]at t2;exact JZ ((pV t2).trans (pX (Zd ((Zq ((Zq rfl rfl).trans (Xf (a:=0) rfl)) rfl).trans (cS (a:=0) rfl)) aC) hn))
def A2:al D->al R->Prop
 | [],[]=>True
 |d::ds,r::rs=>Mk d r/\A2 ds rs
 |_,_=>False
theorem A2.len:∀{ds:al D}{rs:al R},A2 ds rs->ds.length=rs.length
 | [],[],_=>rfl
 |_::_,_::_,h=>congrArg Nat.succ (A2.len h.2)
 | [],_::_,h=>h.elim
 |_::_,[],h=>h.elim
theorem p3(v0 v1 v2:am D):∀(rs:al R)(T:al (Nat×al (al Nat)))(acc:al D)(v4 v5 v6:am D),(∀r∈rs,r.Wd)->T.map Prod.snd=rs.map R.words->acc.length+rs.length<=1000->∃ds v4' v5' v6',A2 ds rs/\∀rest,
 Xe (Xd 2 (Yh 4 (Yh 5 bG))) (ZQ fb) (YM fb) (T.map cw++rest) [v0,v1,v2,ja (.lst acc),v4,v5,v6]=Xe (Xd 2 (Yh 4 (Yh 5 bG))) (ZQ fb) (YM fb) rest [v0,v1,v2,ja (.lst (acc++ds)),v4',v5',v6'] /\
 YY (Xd 2 (Yh 4 (Yh 5 bG))) (ZQ fb) (T.map cw++rest) [v0,v1,v2,ja (.lst acc),v4,v5,v6]=YY (Xd 2 (Yh 4 (Yh 5 bG))) (ZQ fb) rest [v0,v1,v2,ja (.lst (acc++ds)),v4',v5',v6']
 | [],[],acc,v4,v5,v6,_,_,_=>⟨[],v4,v5,v6,trivial,λrest=>by rw [qh];exact⟨rfl,rfl⟩⟩
 | [],_::_,_,_,_,_,_,h,_=>nomatch h
 |_::_,[],_,_,_,_,_,h,_=>nomatch h
 |r::rs,(n,ws)::T,acc,v4,v5,v6,ho,h,hl=>by
  rw [jy,jy]at h;obtain⟨h1,h2⟩:=List.cons.inj h;cases(show ws=r.words from h1);obtain⟨d,hd,K⟩:=gP (ho r jr);obtain⟨ds,a,b,c,e1,e2⟩:=p3 v0 v1 v2 rs T (acc++[d]) (ja (.int (n:Nat))) (ja (.lst (r.words.map D.str))) (ja d) (λx hx=>ho x (jq _ hx)) h2 (by rw [jt,qo];rw [jh]at hl;omega)
  refine⟨d::ds,a,b,c,⟨K,e1⟩,λrest => ?_⟩;have e:=IS (γ:=Xd 2 (Yh 4 (Yh 5 bG))) (r:=fb) (x:=cw (n,r.words)) (xs:=T.map cw++rest) (δ:=[v0,v1,v2,ja (.lst acc),v4,v5,v6]) (δ1:=[v0,v1,v2,ja (.lst acc),ja (.int (n:Nat)),ja (.lst (r.words.map D.str)),v6]) (δ2:=[v0,v1,v2,ja (.lst (acc++[d])),ja (.int (n:Nat)),ja (.lst (r.words.map D.str)),ja d]) rfl ((Vn (Vo (Zy ((Yy (Zd rfl aC) rfl).trans hd)))).trans ((Vn ((pW (JX rfl K.nn)).trans (Vo rfl))).trans (Vo (iP rfl rfl (by rw [jh]at hl;omega)))))
  rw [show acc++d::ds=(acc++[d])++ds by simp,<-(e2 rest).1,<-(e2 rest).2];exact e
theorem IX{v0 v1 v2 v3 v4 v5 v6:am D}{n:Nat}{ws:al (al Nat)}(rest:al D)(hw:Xy [.lst (ws.map D.str)]=ja .non)(hn:n<=1000000):Xe (Xd 2 (Yh 4 (Yh 5 bG))) (ZQ fb) (YM fb) (cw (n,ws)::rest) [v0,v1,v2,v3,v4,v5,v6]=ja (("BadRow",ja ((n:Nat):Int)):XC):=
 IT (δ1:=[v0,v1,v2,v3,ja (.int (n:Nat)),ja (.lst (ws.map D.str)),v6]) rfl ((Vn (Vo (Zy ((Yy (Zd rfl aC) rfl).trans hw)))).trans (JZ ((pV (Yt (kW (d:=.non) rfl))).trans (pX (n:=n) (δ:=[v0,v1,v2,v3,ja (.int (n:Nat)),ja (.lst (ws.map D.str)),ja .non]) (Zd rfl aC) hn))))
theorem zZ(M:Ms ms):∀{ds:al D}{rs:al R},A2 ds rs->Vy (Zw 0) (λ_=>ja je) dN fe [none,ja (.str ms)] ds=(if rs.all (R.okB ms)then none else ja "BadRule")/\(rs.all (R.okB ms)=je->YD (Zw 0) (λ_=>ja je) dN [none,ja (.str ms)] ds=ja ((rs.map (R.ru ms)).map Ru.d))
 | [],[],_=>⟨rfl,λ_=>rfl⟩
 |d::ds,r::rs,h=>by
  obtain⟨i1,i2⟩:=zZ M h.2;obtain⟨c1,c2⟩:=h.1.cl M;have g:Zw 0 d [none,ja (.str ms)]=ja [ja d,ja (.str ms)]:=rfl;rw [yw];unfold Vy;rw [g];dsimp only;rw [show fe [ja d,ja (.str ms)]=_ from c2,show dN [ja d,ja (.str ms)]=_ from c1];cases hr:r.okB ms with
  |false=>exact⟨rfl,λz=>nomatch z⟩
  |true=>
   rw [hr]at c1;exact⟨i1,λz=>zQ g c1 (i2 z)⟩
 | [],_::_,h=>h.elim
 |_::_,[],h=>h.elim
theorem IY(W:Bd w){d:D}{ds:al D}{r:R}(h:Mk d r):Vy (Zw 0) (λ_=>ja je) dN fe [none,ja (.str w)] (d::ds)=ja "BadMarks" := by
 unfold Vy;rw [show Zw 0 d [none,ja (.str w)]=ja [ja d,ja (.str w)]from rfl];dsimp only;rw [show fe [ja d,ja (.str w)]=_ from h.bad W]
section
variable{v0 v1 v4 v5 v6:am D}{w ms:al Nat}{ds:al D}{rs:al R}
theorem z0{δ:EN}(h:Z2 (Za 3) δ=ja ds)(hb:Y9 1 δ [2]=[none,ja (.str w)])(hl:ds.length<=1000):V3 (Z2 (Za 3)) (Zw 0) (λ_=>ja je) dN fe 1 [2] δ=Vy (Zw 0) (λ_=>ja je) dN fe [none,ja (.str w)] ds:=by
 unfold V3;rw [h];dsimp only;rw [if_pos (by rw [jo];omega),hb]
theorem p4{χ:EN->am String}{δ:EN}{c:String}(h:χ δ=ja c):gx χ δ=ja (c,none):=by unfold gx;rw [h];rfl
theorem IZ(W:Bd w)(a:A2 ds rs)(hl:rs.length<=1000):gN [v0,v1,ja (.str w),ja (.lst ds),v4,v5,v6]=ja (.error ("BadMarks",none)):=by
 have hx:=z0 (δ:=[v0,v1,ja (.str w),ja (.lst ds),v4,v5,v6]) (ds:=ds) (w:=w) rfl rfl (by rw [a.len];exact hl);refine kX (p4 ?_);unfold U4 U3;show(match V3 (Z2 (Za 3)) (Zw 0) (λ_=>ja je) dN fe 1 [2] _ with|some c=>ja c|none=>_)=_;rw [hx];cases ds with
 |nil=>
  show Vd "All" 3 (bO Vh) [] (Zb (Za 2) (Zb (Yr (Z2 (Za 3)) (Zw 0) (λ_=>ja je) dN 1 [2]) az)) _=_;refine(gk (c:="All") (n:=3) (q:=Vh) (ds:=[.str w,.lst []]) _ rfl rfl (Zd rfl (Zd (VD (xs:=[]) rfl rfl rfl (by decide)) aC)) rfl).2.trans ?_;unfold bO;rw [IC W.1 W.2]
 |cons d ds=>
  cases rs with
  |nil=>exact a.elim
  |cons r rs=>rw [IY W a.1]
theorem z5(M:Ms ms)(a:A2 ds rs)(hl:rs.length<=1000):gN [v0,v1,ja (.str ms),ja (.lst ds),v4,v5,v6]=ja (if rs.all (R.okB ms)&&decide (rs.length<=6)then .ok (.rt (.obj "All" ["marks", "rules"] [.str ms,.tup ((rs.map (R.ru ms)).map Ru.d)]))else .error ("BadRule",none)):=by
 have hx:=z0 (δ:=[v0,v1,ja (.str ms),ja (.lst ds),v4,v5,v6]) (ds:=ds) (w:=ms) rfl rfl (by rw [a.len];exact hl);obtain⟨c1,c2⟩:=zZ M a;rw [c1]at hx;cases hb:rs.all (R.okB ms)with
 |false=>
  rw [hb]at hx;refine kX (p4 ?_);unfold U4 U3;show(match V3 (Z2 (Za 3)) (Zw 0) (λ_=>ja je) dN fe 1 [2] _ with|some c=>ja c|none=>_)=_;rw [hx];rfl
 |true=>
  rw [hb]at hx;have A:=IK (rs:=rs.map (R.ru ms)) M (λr hr=>by obtain⟨r',_,rfl⟩:=qf.mp hr;exact(r'.cls ms).1) (by rw [jk];exact hl)
  have h1:((rs.map (R.ru ms)).any λr=>decide (r.c = "All"))=false:=by
   rw [vX];intro r hr;obtain⟨r',_,rfl⟩:=qf.mp hr;rw [(r'.cls ms).2.1]
   decide
  have h2:((rs.map (R.ru ms)).all λr=>decide (r.ms=ms))=true:=by
   rw [jR];intro r hr;obtain⟨r',_,rfl⟩:=qf.mp hr;exact decide_eq_true (r'.cls ms).2.2
  rw [h1,h2,jk,Bool.not_false,oK,oK]at A;obtain⟨m1,m2⟩:=gk (c:="All") (n:=3) (q:=Vh) (α:=Zb (Za 2) (Zb (Yr (Z2 (Za 3)) (Zw 0) (λ_=>ja je) dN 1 [2]) az)) (ds:=[.str ms,.lst ((rs.map (R.ru ms)).map Ru.d)]) [v0,v1,ja (.str ms),ja (.lst ds),v4,v5,v6] rfl rfl (Zd rfl (Zd (VD (xs:=ds) (pT rfl) rfl (c2 hb) (by rw [jk,jk];omega)) aC)) rfl
  unfold bQ at m1;unfold bO at m2;rw [A]at m1 m2;rw [yZ];cases hc:decide (rs.length<=6)with
  |true=>
   rw [hc]at m1 m2;refine zV ?_ (Vf m1);unfold gx U4 U3;show WP _ (match V3 (Z2 (Za 3)) (Zw 0) (λ_=>ja je) dN fe 1 [2] _ with|some c=>ja c|none=>_)=_;rw [hx,if_pos rfl];exact congrArg _ m2
  |false=>
   rw [hc]at m1 m2;refine kX (p4 ?_);unfold U4 U3;show(match V3 (Z2 (Za 3)) (Zw 0) (λ_=>ja je) dN fe 1 [2] _ with|some c=>ja c|none=>_)=_;rw [hx];exact m2
end
def Sh(t:al Nat):Prop:=10∉t/\t.length<=200
inductive RL:List (List Nat)->List R->Prop
 |nil:RL [] []
 |rule {t:List Nat} {r:R} {l:List (List Nat)} {rs:List R} (s:Sh t) (o:r.Wd) (h:Zs t=r.words) (k:RL l rs):RL (t::l) (r::rs)
 |sil {t:List Nat} {l:List (List Nat)} {rs:List R} (s:Sh t) (h:Zs t=[]) (k:RL l rs):RL (t::l) rs
theorem p5{pre:al (al Nat)}(h:∀t∈pre,Zs t=[])(l:al (al Nat)):∀n,bM n (pre++l)=bM (n+pre.length) l:=by
 induction pre with
 |nil=>exact λn=>rfl
 |cons t pre ih=>
  intro n;rw [q5,bM,if_pos (h t jr),ih (λx hx=>h x (jq _ hx)) (n+1),jh,oU,Om 1]
theorem kY{t:al Nat}(h:Zs t≠[])(l:al (al Nat))(n:Nat):bM n (t::l)=(n,Zs t)::bM (n+1) l:=by rw [bM,if_neg h]
theorem RL.told{l:al (al Nat)}{rs:al R}(k:RL l rs):(∀r∈rs,r.Wd)/\(∀t∈l,Sh t)/\∀n,∃T,T.map Prod.snd=rs.map R.words/\∀b,K11.bM n (l++b)=T++K11.bM (n+l.length) b:=by
 induction k with
 |nil=>exact⟨λ_ z=>(nomatch z),λ_ z=>(nomatch z),λn=>⟨[],rfl,λb=>rfl⟩⟩
 | @rule t r l rs s o h k ih=>
  obtain⟨i1,i2,i3⟩:=ih;refine⟨λx hx => ?_,λx hx => ?_,λn => ?_⟩
  . rcases jp.mp hx with rfl|hx
    . exact o
    . exact i1 x hx
  . rcases jp.mp hx with rfl|hx
    . exact s
    . exact i2 x hx
  . obtain⟨T,e1,e2⟩:=i3 (n+1)
    refine⟨(n,r.words)::T,by rw [jy,jy,e1],λb => ?_⟩;rw [q5,kY (by rw [h];exact R.ne),e2 b,h,q5,jh,oU,Om 1]
 |sil s h k ih=>
  obtain⟨i1,i2,i3⟩:=ih;refine⟨i1,λx hx => ?_,λn => ?_⟩
  . rcases jp.mp hx with rfl|hx
    . exact s
    . exact i2 x hx
  . obtain⟨T,e1,e2⟩:=i3 (n+1)
    refine⟨T,e1,λb => ?_⟩;rw [q5,K11.bM,if_pos h,e2 b,jh,oU,Om 1]
theorem RL.app{a b:al (al Nat)}{ra rb:al R}(h:RL a ra)(k:RL b rb):RL (a++b) (ra++rb):=by
 induction h with
 |nil=>exact k
 |rule s o h _ ih=>exact .rule s o h ih
 |sil s h _ ih=>exact .sil s h ih
theorem RL.split{l:al (al Nat)}{rs:al R}(k:RL l rs):∀j,∃ra rb,rs=ra++rb/\RL (l.take j) ra/\RL (l.drop j) rb:=by
 induction k with
 |nil=>exact λj=>⟨[],[],rfl,by rw [List.take_nil];exact .nil,by rw [List.drop_nil];exact .nil⟩
 |rule s o h k ih=>
  intro j;cases j with
  |zero=>exact⟨[],_,rfl,.nil,.rule s o h k⟩
  |succ j=>
   obtain⟨ra,rb,e,k1,k2⟩:=ih j;exact⟨_::ra,rb,by rw [e];rfl,.rule s o h k1,k2⟩
 |sil s h k ih=>
  intro j;cases j with
  |zero=>exact⟨[],_,rfl,.nil,.sil s h k⟩
  |succ j=>
   obtain⟨ra,rb,e,k1,k2⟩:=ih j;exact⟨ra,rb,e,.sil s h k1,k2⟩
theorem RL.ins{l:al (al Nat)}{rs:al R}(k:RL l rs)(j:Nat){t:al Nat}(s:Sh t)(h:Zs t=[]):RL (l.take j++t::l.drop j) rs:=by
 obtain⟨ra,rb,e,k1,k2⟩:=k.split j;rw [e];exact k1.app (.sil s h k2)
def bT(r:R):al Nat:=Zr [32] r.words
theorem p6:∀(ws:al (al Nat)),(∀w∈ws,Gw w)->Zs (Zr [32] ws)=ws/\10∉Zr [32] ws/\(Zr [32] ws).length<=9*ws.length:=by
 have key:∀(ws:al (al Nat)),(∀w∈ws,Gw w)->Vm (Zr [32] ws)=ws/\Plain (Zr [32] ws)/\(Zr [32] ws).length<=9*ws.length:=λws=>by
  induction ws with
  |nil=>exact λ_=>⟨HZ,Plain.nil,yr _⟩
  |cons w ws ih=>
   intro h;obtain⟨g,l⟩:=h w jr;obtain⟨e1,e2,e3⟩:=ih λx hx=>h x (jq _ hx)
   cases ws with
   |nil=>exact⟨zF g.1 g.no32,g.plain,jK l (show 8<=9*1 by decide)⟩
   |cons v ws=>
    rw [show Zr [32] (w::v::ws)=w++32::Zr [32] (v::ws)from by simp [Zr]];refine⟨by rw [HY,zF g.1 g.no32,e1];rfl,g.plain.app λc hc => ?_,?_⟩
    . rcases jp.mp hc with rfl|hc
      . decide
      . exact e2 c hc
    . rw [jt,jh]
      simp only [jh]at e3 ⊢;omega
 intro ws h;obtain⟨a,b,c⟩:=key ws h;refine⟨?_,λz=>(b 10 z).2 rfl,c⟩;unfold Zs;rw [Ia b,a]
theorem z6{r:R}(o:r.Wd):Sh (bT r)/\Zs (bT r)=r.words:=by
 obtain⟨h1,h2⟩:=R.good o;obtain⟨a,b,c⟩:=p6 r.words h2;exact⟨⟨b,by unfold bT;omega⟩,a⟩
theorem RL.map:∀{rs:al R},(∀r∈rs,r.Wd)->RL (rs.map bT) rs
 | [],_ => .nil
 |r::rs,h => .rule (z6 (h r jr)).1 (h r jr) (z6 (h r jr)).2 (RL.map λx hx=>h x (jq _ hx))
theorem Aa:∀(R:al (al Nat)),(∀t∈R,Sh t)->(Zr [10] R).length<=201*R.length
 | [],_=>yr _
 | [t],h=>by
  have:=(h t jr).2;show t.length<=_;rw [qo];omega
 |t::u::R,h=>by
  have:=(h t jr).2;have ih:=Aa (u::R) λx hx=>h x (jq _ hx)
  rw [show Zr [10] (t::u::R)=t++10::Zr [10] (u::R)from by simp [Zr],jt,jh];simp only [jh]at ih ⊢;omega
theorem Ka{R:al (al Nat)}(h:∀t∈R,Sh t)(hl:R.length<=100):i0 [.str (Zr [10] R)]=ja (.lst ((bM 1 R).map cw)):=by
 have:=Aa R h;rw [fJ (by omega),IR λr hr=>(h r hr).1]
section
variable{R:al (al Nat)}{x:eQ}
theorem kZ(h:∀t∈R,Sh t)(hl:R.length<=100)(e:YS (X4 (Zg 2 (Zi 1 (Xp Xg) [] (Zb (Za 1) az))) (Ve 1 (Y6 Xg) [] (Zb (Za 1) az))) (YS (Xx (Zg 3 (Zl az))) (YS (V9 (Z2 (bq (Za 1) (xP (eC (.int 1))) aS)) (Xd 2 (Yh 4 (Yh 5 bG))) fb) gN)) [ja (.str (Zr [10] R)),ja (.lst ((bM 1 R).map cw)),none,none,none,none,none]=ja (x.map aT.rt)):YU [.str (Zr [10] R)]=ja x:=
 pY rfl (((Vn (Vo (Zy ((Yy (Zd rfl aC) rfl).trans (Ka h hl))))).trans e))
theorem Ab{c:XC}{v0 v2 v3 v4 v5 v6:am D}{s:EN->am cu}(h:Xg [.lst xs]=ja (.error c)):YS (X4 (Zg 2 (Zi 1 (Xp Xg) [] (Zb (Za 1) az))) (Ve 1 (Y6 Xg) [] (Zb (Za 1) az))) s [v0,ja (.lst xs),v2,v3,v4,v5,v6]=ja (.error c):=JZ (kX ((pZ (Zd rfl aC) rfl).trans (zY h)))
theorem Ac{v0 v2 v3 v4 v5 v6:am D}{s:EN->am cu}(h:Xg [.lst xs]=ja (.ok (.str w))):YS (X4 (Zg 2 (Zi 1 (Xp Xg) [] (Zb (Za 1) az))) (Ve 1 (Y6 Xg) [] (Zb (Za 1) az))) s [v0,ja (.lst xs),v2,v3,v4,v5,v6]=s [v0,ja (.lst xs),ja (.str w),v3,v4,v5,v6]:=Vn (zV ((pZ (Zd rfl aC) rfl).trans (zX h)) (Zy ((Yy (Zd rfl aC) rfl).trans (zW h))))
theorem Kb(h:∀t∈R,Sh t)(hl:R.length<=100)(hs:∀t∈R,Zs t=[]):YU [.str (Zr [10] R)]=ja (.error ("BadRow",ja ((1:Nat):Int))):=by
 refine kZ h hl (Ab ?_);have:=p5 hs [] 1;rw [qh]at this;rw [this];exact IW
end
section
variable{pre mid post:al (al Nat)}{t b w:al Nat}{rs:al R}
theorem Kc(h:∀t∈pre++b::post,Sh t)(hl:(pre++b::post).length<=100)(hs:∀t∈pre,Zs t=[]){v:al Nat}{vs:al (al Nat)}(hb:Zs b=v::vs)(hv:¬(v=Yp/\vs.length=1)):YU [.str (Zr [10] (pre++b::post))]=ja (.error ("BadRow",ja ((pre.length+1:Nat):Int))):=by
 refine kZ h hl (Ab ?_);rw [p5 hs,kY (by rw [hb];exact λz=>nomatch z),hb,jy];have:=cT (n:=1+pre.length) (w:=v) (ws:=vs) ((bM (1+pre.length+1) post).map cw) (by rw [jt,jh]at hl;omega);rw [if_neg hv]at this;rw [this,Om]
theorem Ad(hs:∀t∈pre,Zs t=[])(hb:Zs t=[Yp,w])(hl:pre.length<=100):bM 1 (pre++t::post)=(1+pre.length,[Yp,w])::bM (1+pre.length+1) post/\∀xs,Xg [.lst (cw (1+pre.length,[Yp,w])::xs)]=ja (.ok (.str w)):=by
 refine⟨by rw [p5 hs,kY (by rw [hb];exact λz=>nomatch z),hb],λxs => ?_⟩;exact(cT (n:=1+pre.length) (w:=Yp) (ws:=[w]) xs (by omega)).trans (by rw [if_pos ⟨rfl,rfl⟩];rfl)
theorem Ae{a:D}{xs:al D}{v0 v2 v3 v4 v5 v6:am D}:Z2 (bq (Za 1) (xP (eC (.int 1))) aS) [v0,ja (.lst (a::xs)),v2,v3,v4,v5,v6]=ja xs:=pT (pU (xs:=a::xs) 1 rfl)
theorem Kd(h:∀u∈pre++t::(mid++b::post),Sh u)(hl:(pre++t::(mid++b::post)).length<=100)(hs:∀t∈pre,Zs t=[])(ht:Zs t=[Yp,w])(k:RL mid rs)(hr:rs.length<=100)(hb:Zs b≠[])(hm:Xy [.lst ((Zs b).map D.str)]=ja .non):YU [.str (Zr [10] (pre++t::(mid++b::post)))]=ja (.error ("BadRow",ja ((pre.length+1+mid.length+1:Nat):Int))):=by
 have hl':=hl;rw [jt,jh,jt,jh]at hl';obtain⟨e1,e2⟩:=Ad (post:=mid++b::post) hs ht (by omega);obtain⟨k1,k2,k3⟩:=k.told;obtain⟨T,t1,t2⟩:=k3 (1+pre.length+1);refine kZ h hl ?_;rw [e1,t2,kY hb,jy,qZ,jy];rw [Ac (e2 _)];obtain⟨ds,a,b',c,_,f⟩:=p3 (ja (.str (Zr [10] (pre++t::(mid++b::post))))) (ja (.lst (cw (1+pre.length,[Yp,w])::(T.map cw++cw (1+pre.length+1+mid.length,Zs b)::(bM (1+pre.length+1+mid.length+1) post).map cw)))) (ja (.str w)) rs T [] none none none k1 t1 (by simp;omega)
 refine(Vn (Vo (Zy (Xq aC (by decide))))).trans (JZ (IV Ae ((f _).1.trans ((IX _ hm (by omega)).trans ?_))));rw [show 1+pre.length+1+mid.length=pre.length+1+mid.length+1 by omega]
theorem p7(h:∀u∈pre++t::mid,Sh u)(hl:(pre++t::mid).length<=100)(hs:∀t∈pre,Zs t=[])(ht:Zs t=[Yp,w])(k:RL mid rs)(hr:rs.length<=100){x:eQ}(hx:∀{ds v0 v1 v4 v5 v6},A2 ds rs->gN [v0,v1,ja (.str w),ja (.lst ds),v4,v5,v6]=ja (x.map aT.rt)):YU [.str (Zr [10] (pre++t::mid))]=ja x:=by
 have hl':=hl;rw [jt,jh]at hl';obtain⟨e1,e2⟩:=Ad (post:=mid) hs ht (by omega);obtain⟨k1,k2,k3⟩:=k.told;obtain⟨T,t1,t2⟩:=k3 (1+pre.length+1);have t2:=t2 [];rw [qh,show bM (1+pre.length+1+mid.length) []=[]from rfl,qh]at t2;refine kZ h hl ?_;rw [e1,t2,jy];rw [Ac (e2 _)];obtain⟨ds,a,b',c,A,f⟩:=p3 (ja (.str (Zr [10] (pre++t::mid)))) (ja (.lst (cw (1+pre.length,[Yp,w])::T.map cw))) (ja (.str w)) rs T [] none none none k1 t1 (by simp;omega)
 have f:=f [];rw [qh]at f;exact(Vn (Vo (Zy (Xq aC (by decide))))).trans ((Vn (IU Ae (f.1.trans rfl) (f.2.trans rfl))).trans (hx A))
end
abbrev bN:al Nat:=[114,101,97,100]
abbrev k7:al Nat:=[114,111,119]
abbrev cU:al Nat:=[114,117,108,101]
theorem Af {pg:D} {x:D} (h:Zf (QH (ZP (Zi 1 (Xp YU) [] (Zb (Za 0) az))) (Ve 1 (Y6 YU) [] (Zb (Za 0) az)) ["BadMarks", "BadRow", "BadRule"] pF) xZ [ja pg,ja (.str bN),ja (.int 0),ja (.lst []),none]=ja (.rt x)):X5 [pg]=ja x:=
 Ub rfl (((Zx (Zy (d:=.str bN) rfl)).trans ((Zx (Zy (d:=.int 0) rfl)).trans ((Zx (Zy (d:=.lst []) (Xq aC (show 0<=1000 by decide)))).trans h))))
theorem xq{pg:D}{a b c d:am D}:Ve 1 (Y6 YU) [] (Zb (Za 0) az) [ja pg,a,b,c,d]=Y6 YU [pg]:=pZ (Zd rfl aC) rfl
theorem p8 {pg:D} {c:XC} {t:al Nat} {n:Int} (h:YU [pg]=ja (.error c)) (hc:["BadMarks", "BadRow", "BadRule"].contains c.1=je) (hh:pF c [ja pg,ja (.str bN),ja (.int 0),ja (.lst []),none]=ja (.nx [ja pg,ja (.str t),ja (.int n),ja (.lst [.bl je,.bl je,.bl jj]),none])) (ht:decide (t=bN)=jj):X5 [pg]=ja (.tup [.str t,.int n]):=by
 refine Af ((Zx (δ':=[ja pg,ja (.str t),ja (.int n),ja (.lst [.bl je,.bl je,.bl jj]),none]) ?_).trans ?_)
 . unfold QH
   rw [xq,zY h];exact(if_pos hc).trans hh
 . have h1:xB (aB bU (Za 1) (eC (.str [114,101,97,100]))) [ja pg,ja (.str t),ja (.int n),ja (.lst [.bl je,.bl je,.bl jj]),none]=ja true:=Yt ((Zq rfl rfl).trans ((Z0 _ _).trans (by rw [ht];rfl)))
   have h2:xB (aB bU (Za 3) (Zl (Zb (eC (.bl je)) (Zb (eC (.bl je)) (Zb (eC (.bl jj)) az))))) [ja pg,ja (.str t),ja (.int n),ja (.lst [.bl je,.bl je,.bl jj]),none]=ja false:=Yt ((Zq rfl (Xq (Zd rfl (Zd rfl (Zd rfl aC))) (show 3<=1000 by decide))).trans (xR rfl rfl));exact(Zx ((YK (iO h1 h2)).trans rfl)).trans (Vf (UD (Zd rfl (Zd rfl aC)) (show 2<=1000 by decide)))
theorem Ag {pg:D} {n:Int} (h:YU [pg]=ja (.error ("BadRow",ja n))):X5 [pg]=ja (.tup [.str k7,.int n]):=p8 h rfl rfl rfl
theorem Ke {pg:D} (h:YU [pg]=ja (.error ("BadMarks",none))):X5 [pg]=ja (.tup [.str Yp,.int 0]):=p8 h rfl rfl rfl
theorem Kf {pg:D} (h:YU [pg]=ja (.error ("BadRule",none))):X5 [pg]=ja (.tup [.str cU,.int 0]):=p8 h rfl rfl rfl
theorem Kg{pg d:D}(h:YU [pg]=ja (.ok d)):X5 [pg]=ja (.tup [.str bN,.int 0]):=by
 refine Af ((Zx (δ':=[ja pg,ja (.str bN),ja (.int 0),ja (.lst []),none]) ?_).trans ?_)
 . unfold QH
   rw [xq,zX h];show ZP _ _=_;unfold ZP;rw [show Zi 1 (Xp YU) [] (Zb (Za 0) az) [ja pg,ja (.str bN),ja (.int 0),ja (.lst []),none]=ja d from(Yy (Zd rfl aC) rfl).trans (zW h)]
 . have h1:xB (aB bU (Za 1) (eC (.str [114,101,97,100]))) [ja pg,ja (.str bN),ja (.int 0),ja (.lst []),none]=ja false:=Yt ((Zq rfl rfl).trans ((Z0 _ _).trans (by rw [decide_eq_true rfl];rfl)))
   exact(Zx ((YK (nY h1)).trans rfl)).trans (Vf (UD (Zd rfl (Zd rfl aC)) (show 2<=1000 by decide)))
section
variable{pre mid:al (al Nat)}{t w ms:al Nat}{rs:al R}
theorem Kh(h:∀u∈pre++t::mid,Sh u)(hl:(pre++t::mid).length<=100)(hs:∀t∈pre,Zs t=[])(ht:Zs t=[Yp,w])(k:RL mid rs)(hr:rs.length<=100)(W:Bd w):X5 [.str (Zr [10] (pre++t::mid))]=ja (.tup [.str Yp,.int 0]):=
 Ke (p7 h hl hs ht k hr (x:=.error ("BadMarks",none)) λa=>IZ W a (jK hr (by decide)))
theorem Ki(M:Ms ms)(h:∀u∈pre++t::mid,Sh u)(hl:(pre++t::mid).length<=100)(hs:∀t∈pre,Zs t=[])(ht:Zs t=[Yp,ms])(k:RL mid rs)(hr:rs.length<=100)(hb:(rs.all (R.okB ms)&&decide (rs.length<=6))=jj):X5 [.str (Zr [10] (pre++t::mid))]=ja (.tup [.str cU,.int 0]):=
 Kf (p7 h hl hs ht k hr (x:=.error ("BadRule",none)) λa=>(z5 M a (jK hr (by decide))).trans (by rw [hb];rfl))
theorem Kj(M:Ms ms)(h:∀u∈pre++t::mid,Sh u)(hl:(pre++t::mid).length<=100)(hs:∀t∈pre,Zs t=[])(ht:Zs t=[Yp,ms])(k:RL mid rs)(hr:rs.length<=100)(hb:(rs.all (R.okB ms)&&decide (rs.length<=6))=je):X5 [.str (Zr [10] (pre++t::mid))]=ja (.tup [.str bN,.int 0]):=
 Kg (p7 h hl hs ht k hr (x:=.ok (.obj "All" ["marks", "rules"] [.str ms,.tup ((rs.map (R.ru ms)).map Ru.d)])) λa=>(z5 M a (jK hr (by decide))).trans (by rw [hb];rfl))
end
noncomputable def gl(m:Nat):al (al (al Nat)):=[[[109,97,114,107],[48,49]],[[77,97,114,107,115],[48,49]],[[109,97,114,107,115]],[[109,97,114,107,115],[48,49],[97,98]],[[103,97,112]],[[103,97,112],[m]],[[103,97,112],[m],[49]],[[110,101,118,101,114]],[[115,117,109]],[[115,117,109],[48]],[[103,97,112],[m],[49],[50],[51]],[[103,97,112],[m],[120],[50]],[[103,97,112],[m],[49],[65,110,121]],[[103,97,112],[m],[45,49],[50]],[[103,97,112],[m],[48,49],[50]],[[103,97,112],[m],[49],[49,48,48]],[[110,101,118,101,114],[m],[m]],[[115,117,109],[48],[120]],[[115,117,109],[48],[49],[45,45,49]],[[115,117,109],[48],[49],[45,48],[49]],[[115,117,109],[48],[49],[43,49],[49]],[[115,117,109],[48],[49],[49,95,48],[49]],[[116,117,114,110],[m]],[[116,117,114,110],[m],[50]],[[97,108,105,107,101]],[[97,108,105,107,101],[120]],[[116,117,114,110],[m],[50],[48],[48]],[[116,117,114,110],[m],[50],[45,49]],[[97,108,105,107,101],[49],[49]],[[97,108,105,107,101],[48,49]],[[97,108,105,107,101],[49,48,48]],[[97,108,105,107,101],[45,49]],[[97,110,121]],[[48]],[[97,108,108]],[[103,97,112],[m],[97,110,121],[50]]]
def p9(w:al Nat):Bool:=decide (w≠[])&&w.all (λc=>decide (c≠32/\c≠35/\c≠10))&&decide (w.length<=8)
theorem re(h:p9 w=je):Gw w:=by
 unfold p9 at h;simp only [jF,decide_eq_true_eq,jR]at h;exact⟨⟨h.1.1,h.1.2⟩,h.2⟩
def rf:am D->Bool
 |some .non=>je
 |_=>jj
theorem Kk{x:am D}(h:rf x=je):x=ja .non:=by
 unfold rf at h
 split at h
 . rfl
 . cases h
def rg(ws:al (al Nat)):Bool:=ws.all p9&&decide (ws≠[])&&decide (ws.length<=9) && !(decide (ws.headD []=Yp)&&decide (ws.length=2))&&rf (Xy [.lst (ws.map D.str)])
theorem Kl:∀m∈aI,(gl m).all rg=true:=by decide +kernel
structure Bw(t:List Nat):Prop where
 sh:Sh t
 hd:∃v vs,Zs t=v::vs/\¬(v=Yp/\vs.length=1)
 nm:Xy [.lst ((Zs t).map D.str)]=ja .non
theorem Km{ws:al (al Nat)}(h:rg ws=je):Bw (Zr [32] ws):=by
 unfold rg at h;simp only [jF,decide_eq_true_eq,jR,ul,Bool.and_eq_false_iff]at h;obtain⟨⟨⟨⟨h1,h2⟩,h3⟩,h4⟩,h5⟩:=h;obtain⟨a,b,c⟩:=p6 ws λw hw=>re (h1 w hw)
 refine⟨⟨b,by omega⟩,?_,by rw [a];exact Kk h5⟩;rw [a];cases ws with
 |nil=>exact(h2 rfl).elim
 |cons v vs=>
  refine⟨v,vs,rfl,λz => ?_⟩;rcases h4 with h4|h4
  . exact of_decide_eq_false h4 z.1
  . exact of_decide_eq_false h4 (congrArg Nat.succ z.2)
theorem Ah{ms:al Nat}(M:Ms ms):∃m r,ms=m::r/\m∈aI/\((∃a,r=[a])\/(∃a b,r=[a,b])\/∃a b c,r=[a,b,c]):=by
 have h1:=M.lo;have h2:=M.hi;have h3:=M.sg
 match ms,h1,h2,h3 with
 | [m,a],_,_,h3=>exact⟨m,_,rfl,h3 m jr,.inl ⟨a,rfl⟩⟩
 | [m,a,b],_,_,h3=>exact⟨m,_,rfl,h3 m jr,.inr (.inl ⟨a,b,rfl⟩)⟩
 | [m,a,b,c],_,_,h3=>exact⟨m,_,rfl,h3 m jr,.inr (.inr ⟨a,b,c,rfl⟩)⟩
 | [],h,_,_=>exact absurd h (show ¬2<=0 by decide)
 | [_],h,_,_=>exact absurd h (show ¬2<=1 by decide)
 |_::_::_::_::_::_,_,h,_=>simp only [jh]at h;omega
def k8:EN->am aT:=Zm (aB aP (Za 3) (aB aK (Za 1) (aU aM (Zb (Za 3) az))))
theorem Ko(m a:Nat)(c:Int):U9 [.str [m,a],.int c]=run 4 k8 [.str [m,a],.int c,.str [m],.lst ((gl m).map λws => .str (Zr [32] ws))]:=by kernel_rfl
theorem Kp(m a b:Nat)(c:Int):U9 [.str [m,a,b],.int c]=run 4 k8 [.str [m,a,b],.int c,.str [m],.lst ((gl m).map λws => .str (Zr [32] ws))]:=by kernel_rfl
theorem Kq(m a b d:Nat)(c:Int):U9 [.str [m,a,b,d],.int c]=run 4 k8 [.str [m,a,b,d],.int c,.str [m],.lst ((gl m).map λws => .str (Zr [32] ws))]:=by kernel_rfl
theorem Kr(M:Ms ms)(c:Int):∃t,U9 [.str ms,.int c]=ja (.str t)/\Bw t:=by
 obtain⟨m,r,rfl,hm,hr⟩:=Ah M
 have e:U9 [.str (m::r),.int c]=run 4 k8 [.str (m::r),.int c,.str [m],.lst ((gl m).map λws => .str (Zr [32] ws))]:=by
  rcases hr with⟨a,rfl⟩|⟨a,b,rfl⟩|⟨a,b,d,rfl⟩
  . exact Ko m a c
  . exact Kp m a b c
  . exact Kq m a b d c
 have hb:=Kl m hm;have hl:(gl m).length=36:=rfl;generalize gl m=L at e hb hl
 obtain⟨_,h1,t,rfl,h2⟩:∃x,aB aP (Za 3) (aB aK (Za 1) (aU aM (Zb (Za 3) az))) [ja (.str (m::r)),ja (.int c),ja (.str [m]),ja (.lst (L.map λws => .str (Zr [32] ws)))]=ja x/\∃t,x = .str t/\Bw t:=by
  refine kU (i:=c) (m:=36) rfl (Yu rfl ((YT (Zd rfl aC)).trans (bR.trans (by rw [jk,hl];rfl))) (by decide)) (by rw [jk,hl];rfl) (by decide) λx hx => ?_
  obtain⟨ws,hw,rfl⟩:=qf.mp hx;exact⟨_,rfl,Km (jR.mp hb ws hw)⟩
 exact⟨t,e.trans (Ub rfl (Vf h1)),h2⟩
theorem Ks{ms:al Nat}(M:Ms ms)(c:Int):∃o,pH [.str ms,.int c]=ja (.str [o])/\o∉ms/\o∈aI:=by
 have e1:Yr (Z2 (eC (.str SG))) (Zw 0) (xB (aB (dD je) (Za 0) (Za 1))) (Za 0) 1 [0] [ja (.str ms),ja (.int c),none]=ja (.lst ((SG.filter λc=>decide (c∉ms)).map λc => .str [c])):=
  VD rfl rfl (IL ms SG) (by rw [jk];exact jK (vn _ _) (by decide))
 have hp:=IM M
 have hmem:∀x∈(SG.filter λc=>decide (c∉ms)),x∉ms/\x∈aI:=λx hx=>by
  have:=O3.mp hx;exact⟨by simpa using this.2,this.1⟩
 show ∃o,DL.run 3 (Zf (Zg 2 (Yr (Z2 (eC (.str SG))) (Zw 0) (xB (aB (dD je) (Za 0) (Za 1))) (Za 0) 1 [0])) _) _=_/\_;generalize (SG.filter λc=>decide (c∉ms))=l at e1 hp hmem;generalize Yr (Z2 (eC (.str SG))) (Zw 0) (xB (aB (dD je) (Za 0) (Za 1))) (Za 0) 1 [0]=ec at e1;obtain⟨x,h1,_,h2⟩:=zM (xs:=l.map λc=>D.str [c]) (m:=(l.length:Int)) (i:=c) (a:=Za 2) (b:=aB aK (Za 1) (aU aM (Zb (Za 2) az))) (δ:=[ja (.str ms),ja (.int c),ja (.lst (l.map λc => .str [c]))]) rfl (Yu rfl ((YT (Zd rfl aC)).trans (by show ja (D.int ((l.map λc=>D.str [c]).length:Nat))=_;rw [jk])) (by omega)) (by rw [jk]) (by omega)
 obtain⟨z,hz,rfl⟩:=qf.mp h1;exact⟨z,Ub rfl ((Zx (Zy e1)).trans (Vf h2)),hmem z hz⟩
noncomputable def fY(ms:al Nat)(m o:Nat):al R:=[.gap [45] 1 (ja 2),.gap ms 1 (ja 2),.gap [m] 9 none,.gap [m] 3 (ja 2),.gap [m] 1 (ja 9),.never [m,m,m,m,m,m,m],.never [65],.never [m,45],.sum [] 0 1,.sum (jd (ms.length+1) 0) 0 1,.sum (jd ms.length 0) 1 2,.sum (jd ms.length 0) 0 (-1),.sum (jd ms.length 0) (-9) 0,.sum (jd ms.length 0) 0 9,.sum (4::jd (ms.length-1) 0) 0 1,.sum (-4::jd (ms.length-1) 0) 0 1,.turn [45] 2 0,.turn [m] 0 0,.turn [m] 7 0,.turn [m] 2 2,.alike 0,.alike 7,.alike 10,.alike 99,.turn [m] 12 0,.gap [m] 10 (ja 20),.gap [o] 1 (ja 2),.turn [o] 2 0,.never [o],.never [m,o],.gap [o] 0 none,.never [o,m]]
def k9:EN->am aT:=(Zm (aB aP (Za 5) (aB aK (Za 1) (aU aM (Zb (Za 5) az)))))
abbrev rh(n:Nat):D := .str ((jd n [32,48]).flatten)
theorem Kt(m a o:Nat)(c:Int):gO [ja (.str [m,a]),ja (.int c),ja (.str [m]),ja (.str [o]),none,none]=k9 [ja (.str [m,a]),ja (.int c),ja (.str [m]),ja (.str [o]),ja (rh 2),ja (.lst ((fY [m,a] m o).map λr => .str (bT r)))]:=by kernel_rfl
theorem Ku(m a b o:Nat)(c:Int):gO [ja (.str [m,a,b]),ja (.int c),ja (.str [m]),ja (.str [o]),none,none]=k9 [ja (.str [m,a,b]),ja (.int c),ja (.str [m]),ja (.str [o]),ja (rh 3),ja (.lst ((fY [m,a,b] m o).map λr => .str (bT r)))]:=by kernel_rfl
theorem Kv(m a b d o:Nat)(c:Int):gO [ja (.str [m,a,b,d]),ja (.int c),ja (.str [m]),ja (.str [o]),none,none]=k9 [ja (.str [m,a,b,d]),ja (.int c),ja (.str [m]),ja (.str [o]),ja (rh 4),ja (.lst ((fY [m,a,b,d] m o).map λr => .str (bT r)))]:=by kernel_rfl
theorem la:∀x∈aI,x≠32/\x≠35/\x≠10/\x≠45/\x≠65:=by decide
theorem Kw{ms:al Nat}(M:Ms ms){m o:Nat}{r:al Nat}(e:ms=m::r)(ho:o∉ms)(hs:o∈aI):∀x∈fY ms m o,x.Wd/\x.okB ms=false:=by
 have h1:=M.lo;have h2:=M.hi;have gs:∀c∈ms,c≠32/\c≠35/\c≠10/\c≠45/\c≠65:=λc hc=>la c (M.sg c hc)
 have g45:45∉ms:=λz=>(gs 45 z).2.2.2.1 rfl
 have g65:65∉ms:=λz=>(gs 65 z).2.2.2.2 rfl
 have hm:m∈ms:=by rw [e];exact jr
 obtain⟨m1,m2,m3,_,_⟩:=gs m hm;obtain⟨o1,o2,o3,_,_⟩:=la o hs;have gm:Gw ms:=⟨⟨λz=>by rw [z]at h1;exact absurd h1 (by decide),λc hc=>⟨(gs c hc).1,(gs c hc).2.1,(gs c hc).2.2.1⟩⟩,by omega⟩
 have im:eJ ms ms=false:=by
  rcases ms with _|⟨_,_|⟨_,_⟩⟩
  . rfl
  . exact absurd h1 (show ¬2<=1 by decide)
  . rfl
 intro x hx;simp only [fY,jp,yU,or_false]at hx
 rcases hx with rfl|rfl|rfl|rfl|rfl|rfl|rfl|rfl|rfl|rfl|rfl|rfl|rfl|rfl|rfl|rfl|rfl|rfl|rfl|rfl|rfl|rfl|rfl|rfl|rfl|rfl|rfl|rfl|rfl|rfl|rfl|rfl<;>refine⟨?_,?_⟩<;>first
  |(simp [R.Wd,Nu,Gw,Good,m1,m2,m3,o1,o2,o3];done)
  |(simp [R.okB,eJ,g45,g65,ho,im];done)
  |(simp [R.okB];omega)
  |exact⟨gm,by simp [Nu],by simp [Nu]⟩
  | (refine ⟨by simp only [jh, jP, yi]; omega, fun i hi => ?_⟩
     simp only [jp,OF,yU,or_false]at hi;omega)
theorem Kx(M:Ms ms)(c:Int):∃r:R,pI [.str ms,.int c]=ja (.str (bT r))/\r.Wd/\r.okB ms=false:=by
 obtain⟨o,e1,ho,hs⟩:=Ks M (c / 60);obtain⟨m,r,rfl,hm,hr⟩:=Ah M;have hl:(m::r).length<=1000:=jK M.hi (by decide);have e0:bq (Za 0) aS (xP (eC (.int 1))) [ja (.str (m::r)),ja (.int c),none,none,none,none]=ja (.str [m]):=IN (n:=1) rfl hl rfl;have hP:=Kw M rfl ho hs
 have e2:∃z,gO [ja (.str (m::r)),ja (.int c),ja (.str [m]),ja (.str [o]),none,none]=k9 [ja (.str (m::r)),ja (.int c),ja (.str [m]),ja (.str [o]),z,ja (.lst ((fY (m::r) m o).map λr => .str (bT r)))]:=by
  rcases hr with⟨a,rfl⟩|⟨a,b,rfl⟩|⟨a,b,d,rfl⟩
  . exact⟨_,Kt m a o c⟩
  . exact⟨_,Ku m a b o c⟩
  . exact⟨_,Kv m a b d o c⟩
 obtain⟨z,e2⟩:=e2;have hn:(fY (m::r) m o).length=32:=rfl;generalize fY (m::r) m o=L at e2 hP hn
 obtain⟨_,h1,u,rfl,h2⟩:∃x,aB aP (Za 5) (aB aK (Za 1) (aU aM (Zb (Za 5) az))) [ja (.str (m::r)),ja (.int c),ja (.str [m]),ja (.str [o]),z,ja (.lst (L.map λr => .str (bT r)))]=ja x/\∃u:R,x = .str (bT u)/\u.Wd/\u.okB (m::r)=false:=by
  refine kU (i:=c) (m:=32) rfl (Yu rfl ((YT (Zd rfl aC)).trans (bR.trans (by rw [jk,hn];rfl))) (by decide)) (by rw [jk,hn];rfl) (by decide) λx hx => ?_
  obtain⟨u,hu,rfl⟩:=qf.mp hx;exact⟨u,rfl,hP u hu⟩
 exact⟨u,Ub rfl (((Zx (Zy e0)).trans ((Zx (Zy ((Yy (Zd rfl (Zd (Xz rfl (by decide) (by decide)) aC)) rfl).trans e1))).trans (e2.trans (Vf h1))))),h2⟩
theorem Ai{ε:EN->am D}{δ0:EN}(P:D->Prop):∀(n:Nat)(xs:al Nat),(∀k∈xs,k<n)->(∀k,k<n->∃δ1,Zw 0 (.int (k:Nat)) δ0=ja δ1/\∃d,ε δ1=ja d/\P d)->∃ds,YD (Zw 0) (λ_=>ja je) ε δ0 (xs.map λk => .int (k:Nat))=ja ds/\ds.length=xs.length/\∀d∈ds,P d
 |n,[],_,_=>⟨[],rfl,rfl,λ_ h=>nomatch h⟩
 |n,k::xs,hx,h=>by
  obtain⟨δ1,h1,d,h2,h3⟩:=h k (hx k jr);obtain⟨ds,h4,h5,h6⟩:=Ai P n xs (λj hj=>hx j (jq _ hj)) h;refine⟨d::ds,?_,by rw [jh,jh,h5],λx hx => ?_⟩
  . rw [jy]
    show(match Zw 0 (D.int (k:Nat)) δ0 with|none=>none|some δ1=>match ε δ1 with|none=>none|some d=>match YD (Zw 0) (λ_=>ja je) ε δ0 (xs.map λk=>D.int (k:Nat))with|none=>none|some ds=>ja (d::ds))=_;rw [h1];dsimp only;rw [h2,h4]
  . rcases jp.mp hx with rfl|hx
    . exact h3
    . exact h6 x hx
theorem Aj(n:Nat):YC 0 1 n=(qG n).map λk => .int (k:Nat):=by
 unfold YC;refine uI λk _ => ?_
 congr 1
 omega
theorem cH{P:Nat->Prop}:∀{ds:al D},(∀d∈ds,∃z,d = .str [z]/\P z)->∃zs:al Nat,ds=zs.map (λz => .str [z])/\∀z∈zs,P z
 | [],_=>⟨[],rfl,λ_ h=>nomatch h⟩
 |d::ds,h=>by
  obtain⟨v,rfl,hv⟩:=h d jr;obtain⟨ws,rfl,hw⟩:=cH λx hx=>h x (jq _ hx)
  refine⟨v::ws,rfl,λx hx => ?_⟩;rcases jp.mp hx with rfl|hx
  . exact hv
  . exact hw x hx
theorem Ky{i:Int}(h1 : -8<=i)(h2:i<=8):dk [.int i]=ja (.str (Zu i)):=if_pos (by have:(10:Nat) ^ 10=10000000000:=rfl;omega)
theorem J0{e:EN->am D}{δ:EN}{i:Int}(h:e δ=ja (.int i))(h1 : -8<=i)(h2:i<=8):aU dk (Zb e az) δ=ja (.str (Zu i)):=(YT (Zd h aC)).trans (Ky h1 h2)
theorem Kz{i:Nat}{ε:EN->am D}{δ:EN}{xs ys:al D}(h1:Za i δ=ja (.lst xs))(h2:ε δ=ja (.lst ys))(hl:xs.length+ys.length<=100000):Jj i ε δ=ja (.nx (δ.set i (ja (.lst (xs++ys))))):=by
 unfold Jj;rw [h1,h2];dsimp only;rw [if_pos (by rw [jo];omega)]
theorem KA{n:Nat}{f:EN->am aT}{vs:al D}{δ:EN}{d:D}(h1:(vs.map ja++jd (n-vs.length) none)=δ)(h2:f δ=ja (.rt d)):DL.gh n f vs=ja d:=by
 unfold DL.gh;rw [h1,h2]
theorem Qb{a b:EN->am aT}{δ δ':EN}(h:a δ=ja (.nx δ')):Vc a b δ=b δ':=by
 unfold Vc;rw [h]
abbrev CL(c0 c1 c2 c3 c4 c5 c6:Int):D := .lst [.int c0,.int c1,.int c2,.int c3,.int c4,.int c5,.int c6]
noncomputable def gQ(ms:al Nat)(z:Nat)(zs:al Nat)(a b c d e:Int):al R:=[.gap [z] a none,.gap [z] 1 (ja b),.alike 2,.never zs,.sum (jd ms.length 1) (-c) d,.turn [z] e 0]
theorem KC{ms zs:al Nat}(M:Ms ms){z:Nat}(hz:z∈ms)(h1:1<=zs.length/\zs.length<=4)(hs:∀z∈zs,z∈ms){a b c d e:Int}(ha:0<=a/\a<=3)(hb:1<=b/\b<=8)(hc:1<=c/\c<=8)(hd:0<=d/\d<=8)(he:1<=e/\e<=6):∀x∈gQ ms z zs a b c d e,x.Wd/\x.okB ms=true:=by
 have hm:=M.hi;have gs:∀c∈ms,c≠32/\c≠35/\c≠10/\c≠45/\c≠65:=λc hc=>la c (M.sg c hc)
 have gz:Gw [z]:=⟨⟨(λy=>nomatch y),λc hc=>by rw [List.mem_singleton]at hc;rw [hc];exact⟨(gs z hz).1,(gs z hz).2.1,(gs z hz).2.2.1⟩⟩,show 1<=8 by decide⟩
 have gzs:Gw zs:=⟨⟨λy=>by rw [y]at h1;exact absurd h1.1 (by decide),λc hc=>⟨(gs c (hs c hc)).1,(gs c (hs c hc)).2.1,(gs c (hs c hc)).2.2.1⟩⟩,by omega⟩
 have iz:eJ ms [z]=true:=decide_eq_true hz;simp only [gQ,qt];refine⟨⟨⟨gz,.of ha.1 (by omega),(λ_ y=>nomatch y)⟩,?_⟩,⟨⟨gz,.of (by decide) (by decide),λm y=>by cases y;exact .of (by omega) (by omega)⟩,?_⟩,⟨Nu.of (by decide) (by decide),rfl⟩,⟨gzs,?_⟩,⟨⟨by rw [jP];omega,λi hi => ?_⟩,?_⟩,⟨⟨gz,.of (by omega) (by omega),.of (by decide) (by decide)⟩,?_⟩,λ_ y=>nomatch y⟩
 . simp only [R.okB,iz,yZ,oK,decide_eq_true_eq];omega
 . simp only [R.okB,iz,yZ,jF,decide_eq_true_eq];omega
 . simp only [R.okB,jF,decide_eq_true_eq,jR]
   exact⟨by omega,hs⟩
 . simp only [jp,OF]at hi
   omega
 . simp only [R.okB,jP,jF,decide_eq_true_eq,jR,OF]
   exact⟨trivial,λx hx=>by omega,by omega,by omega⟩
 . simp only [R.okB,iz,yZ,jF,decide_eq_true_eq];omega
theorem KD{c:Int}(h:1<=c/\c<=8):Zu (-c)=45::Zu c:=by
 rcases(show c=1\/c=2\/c=3\/c=4\/c=5\/c=6\/c=7\/c=8 by omega)with h|h|h|h|h|h|h|h<;>subst h<;>rfl
theorem ri(n:Nat)(w:al Nat):w++(jd n [32,49]).flatten=Zr [32] (w::(jd n (1:Int)).map Zu):=by
 induction n generalizing w with
 |zero=>simp [Zr]
 |succ n ih=>
  rw [qz,qz,qW,jy];rw [show Zr [32] (w::Zu 1::(jd n (1:Int)).map Zu)=w++32::Zr [32] (Zu 1::(jd n (1:Int)).map Zu)from by simp [Zr],<-ih (Zu 1)];rfl
theorem KE{x:al Nat}{a b:EN->am D}{δ:EN}{k:Int}{n:Nat}(h1:a δ=ja (.str x))(h2:b δ=ja (.int k))(hk:k=(n:Nat))(hn:n<=100)(hx:x.length<=2):aB bc a b δ=ja (.str (jd n x).flatten):=by
 have ht:k.toNat=n:=by omega
 have e:aB bc a b δ=ja (.str (Uq x k)):=(Zq h1 h2).trans (if_pos ⟨by omega,by omega,by rw [ht,jo];exact jK (Nat.mul_le_mul hx hn) (show 2*100<=16777216 from uz rfl)⟩);rw [e,Uq,ht]
theorem KG(n:Nat):((jd n [32,49]).flatten:al Nat).length=2*n:=by
 rw [List.length_flatten,vM,List.sum_replicate_nat];exact WX _ _
theorem KH{a b:EN->am D}{δ:EN}{xs:al D}{k:Nat}(h:a δ=ja (.lst xs))(h2:b δ=ja (.int (k:Nat))):V1 a aS (xP b) δ=ja (.lst (xs.take k)):=by
 unfold V1;rw [h];dsimp only;unfold bq xP aS;rw [h,h2];show ja (D.lst (bB xs none (ja (k:Int))))=_;rw [QU]
theorem KI(M:Ms ms)(c0 c1 c2 c3 c4 c5 c6:Int):∃grs:al R,pJ [.str ms,CL c0 c1 c2 c3 c4 c5 c6]=ja (.lst (grs.map λr => .str (bT r)))/\(∀r∈grs,r.Wd/\r.okB ms=je)/\grs.length<=5:=by
 have hlo:=M.lo;have hhi:=M.hi;have len0:∀{a b c d e:am D},aU aM (Zb (Za 0) az) [ja (.str ms),a,b,c,d,e]=ja (.int (ms.length:Nat)):=(YT (Zd rfl aC)).trans (len_str (by omega));obtain⟨z,e2,hz⟩:=zO (a:=Za 0) (b:=aB aK (aB aP (Za 1) (eC (.int 1))) (aU aM (Zb (Za 0) az))) (δ:=[ja (.str ms),ja (CL c0 c1 c2 c3 c4 c5 c6),none,none,none,none]) (ms:=ms) (i:=c1) (m:=ms.length) rfl (Yu rfl len0 (by omega)) rfl (by omega) (by omega)
 have f1:=(Qa (i:=c1 % 4) (by omega) (by omega)).2.2;have f2:=(Qa (i:=1+c1 % 8) (by omega) (by omega)).2.2;have f3:=(Qa (i:=1+c2 % 8) (by omega) (by omega)).2.2;have f4:=(Qa (i:=c1 % 9) (by omega) (by omega)).2.2;have f5:=(Qa (i:=1+c2 % 6) (by omega) (by omega)).2.2;obtain⟨n,hn,h1n,h4n⟩:∃n:Nat,1+c2 % 4=(n:Int)/\1<=n/\n<=4:=⟨(1+c2 % 4).toNat,by omega,by omega,by omega⟩
 obtain⟨ds,h1,h2,h3⟩:=Ai (ε:=aB aP (Za 1) (aB aK (aB aJ (aB aP (Za 2) (eC (.int 2))) (aB aP (Zl (Zb (eC (.int 1)) (Zb (eC (.int 4)) (Zb (eC (.int 16)) (Zb (eC (.int 64)) az))))) (Za 0))) (aU aM (Zb (Za 1) az)))) (δ0:=[none,ja (.str ms),ja (CL c0 c1 c2 c3 c4 c5 c6)]) (λd=>∃z,d = .str [z]/\z∈ms) 4 (qG n) (λk hk=>by have:=yz.mp hk;omega) (λk hk=>by
  refine⟨_,rfl,?_⟩
  have hp:∃p:Int,0<p/\p<1000000/\aB aP (Zl (Zb (eC (.int 1)) (Zb (eC (.int 4)) (Zb (eC (.int 16)) (Zb (eC (.int 64)) az))))) (Za 0) [ja (D.int (k:Nat)),ja (.str ms),ja (CL c0 c1 c2 c3 c4 c5 c6)]=ja (.int p):=by
   have hl:Zl (Zb (eC (.int 1)) (Zb (eC (.int 4)) (Zb (eC (.int 16)) (Zb (eC (.int 64)) az)))) [ja (D.int (k:Nat)),ja (.str ms),ja (CL c0 c1 c2 c3 c4 c5 c6)]=ja (.lst ([1,4,16,64].map D.int)):=Xq (Zd rfl (Zd rfl (Zd rfl (Zd rfl aC)))) (show 4<=1000 by decide);refine⟨[1,4,16,64].getD k 0,?_,?_,(Zq hl rfl).trans (Gv (cs:=[1,4,16,64]) hk)⟩
   all_goals rcases(show k=0\/k=1\/k=2\/k=3 by omega)with rfl|rfl|rfl|rfl<;>decide
  obtain⟨p,p0,p1,e⟩:=hp;obtain⟨z,e2,hz⟩:=zO (a:=Za 1) (b:=aB aK (aB aJ (aB aP (Za 2) (eC (.int 2))) (aB aP (Zl (Zb (eC (.int 1)) (Zb (eC (.int 4)) (Zb (eC (.int 16)) (Zb (eC (.int 64)) az))))) (Za 0))) (aU aM (Zb (Za 1) az))) (δ:=[ja (D.int (k:Nat)),ja (.str ms),ja (CL c0 c1 c2 c3 c4 c5 c6)]) (ms:=ms) (i:=c2 / p) (m:=ms.length) rfl (Yu ((Zq rfl e).trans (xM (xO p0 p1))) ((YT (Zd rfl aC)).trans (len_str (by omega))) (by omega)) rfl (by omega) (by omega)
  exact⟨_,e2,z,rfl,hz⟩)
 obtain⟨zs,rfl,hzs⟩:=cH h3;rw [jk,uh]at h2;have hG:=KC M hz (zs:=zs) ⟨by omega,by omega⟩ hzs (a:=c1 % 4) (b:=1+c1 % 8) (c:=1+c2 % 8) (d:=c1 % 9) (e:=1+c2 % 6) (by omega) (by omega) (by omega) (by omega) (by omega);have hj:=xK id zs (by rw [jo];omega);rw [vA]at hj;have hneg:=KD (c:=1+c2 % 8) (by omega)
 refine⟨(((gQ ms z zs (c1 % 4) (1+c1 % 8) (1+c2 % 8) (c1 % 9) (1+c2 % 6)).drop (c1 / 45 % 6).toNat++(gQ ms z zs (c1 % 4) (1+c1 % 8) (1+c2 % 8) (c1 % 9) (1+c2 % 6)).take (c1 / 45 % 6).toNat).take (1+c1 / 9 % 5).toNat),?_,λr hr => ?_,by rw [jT];omega⟩
 rotate_left
 . rcases qY.mp (qQ hr)with hr|hr
   . exact hG r (Ou hr)
   . exact hG r (qQ hr)
 refine KA rfl ((Qb (Zy e2)).trans ((Qb (Zy (d:=.lst [.str (bT (.gap [z] (c1 % 4) none)),.str (bT (.gap [z] 1 (ja (1+c1 % 8))))]) (Xq (Zd ?_ (Zd ?_ aC)) (show 2<=1000 by decide)))).trans ((Qb (Zy (d:=.lst (zs.map λz => .str [z])) ?_)).trans ((Qb (Kz (ys:=[.str (bT (.alike 2)),.str (bT (.never zs))]) rfl (Xq (Zd rfl (Zd ?_ aC)) (show 2<=1000 by decide)) ?_)).trans ((Qb (iP (d:=.str (bT (.sum (jd ms.length 1) (-(1+c2 % 8)) (c1 % 9)))) rfl ?_ ?_)).trans ((Qb (iP (d:=.str (bT (.turn [z] (1+c2 % 6) 0))) rfl ?_ ?_)).trans ((Qb (Zy (Yu (i:=c1 / 45) (Xz rfl (by decide) (by decide)) rfl (by decide)))).trans (Vf ?_))))))))
 . refine(Xb (Xb (Xb (Xb rfl rfl ?_) rfl ?_) (J0 (i:=c1 % 4) (Yu rfl rfl (by decide)) (by omega) (by omega)) ?_) rfl ?_).trans ?_
   rotate_right
   . simp [bT,R.words,Zr,fg]
   all_goals simp only [jt,jh,yi];omega
 . refine(Xb (Xb (Xb rfl rfl ?_) rfl ?_) (J0 (i:=1+c1 % 8) ((Zq rfl (Yu rfl rfl (by decide))).trans rfl) (by omega) (by omega)) ?_).trans ?_
   rotate_right
   . rw [show bT (.gap [z] 1 (ja (1+c1 % 8)))=[103,97,112,32]++[z]++[32,49,32]++Zu (1+c1 % 8)from by simp [bT,R.words,Zr,fg];rfl]
   all_goals simp only [jt,jh,yi];omega
 . refine VD ?_ rfl h1 (by rw [jk];omega)
   rw [<-Aj];refine(nZ (j:=n) (Zd ((Zq rfl (Yu rfl rfl (by decide))).trans (by rw [<-hn];rfl)) aC) (by omega) (by omega)).trans ?_;rw [yj]
 . refine(Xb (x:=[110,101,118,101,114,32]) rfl ((n4 rfl (Zd rfl aC)).trans hj) (by simp only [jh,yi];omega)).trans ?_
   simp [bT,R.words,Zr]
 . show 2+2<=100000
   decide
 . refine(Xb (Xb (Xb (Xb rfl (J0 (i:=1+c2 % 8) ((Zq rfl (Yu rfl rfl (by decide))).trans rfl) (by omega) (by omega)) ?_) rfl ?_) (J0 (i:=c1 % 9) (Yu rfl rfl (by decide)) (by omega) (by omega)) ?_) (KE rfl len0 rfl (by omega) (by decide)) ?_).trans ?_
   rotate_right
   . rw [ri,show bT (.sum (jd ms.length 1) (-(1+c2 % 8)) (c1 % 9))=[115,117,109,32,45]++Zu (1+c2 % 8)++[32]++Zr [32] (Zu (c1 % 9)::(jd ms.length (1:Int)).map Zu)from by simp [bT,R.words,Zr,hneg]]
     rw [<-ri,<-ri,qX,qX,qX]
   all_goals (try rw [KG]);simp only [jt,jh,yi];omega
 . show 4<=1000000
   decide
 . refine(Xb (Xb (Xb (Xb rfl rfl ?_) rfl ?_) (J0 (i:=1+c2 % 6) ((Zq rfl (Yu rfl rfl (by decide))).trans rfl) (by omega) (by omega)) ?_) rfl ?_).trans ?_
   rotate_right
   . rw [show bT (.turn [z] (1+c2 % 6) 0)=[116,117,114,110,32]++[z]++[32]++Zu (1+c2 % 6)++[32,48]from by simp [bT,R.words,Zr];rfl]
   all_goals simp only [jt,jh,yi];omega
 . show 5<=1000000
   decide
 . generalize hL:gQ ms z zs (c1 % 4) (1+c1 % 8) (1+c2 % 8) (c1 % 9) (1+c2 % 6)=L
   have e:[D.str (bT (.gap [z] (c1 % 4) none)),.str (bT (.gap [z] 1 (ja (1+c1 % 8)))),.str (bT (.alike 2)),.str (bT (.never zs)),.str (bT (.sum (jd ms.length 1) (-(1+c2 % 8)) (c1 % 9))),.str (bT (.turn [z] (1+c2 % 6) 0))]=L.map λr => .str (bT r):=by rw [<-hL];rfl
   have e1:aB Yx (V1 (Za 3) (xP (Za 5)) aS) (V1 (Za 3) aS (xP (Za 5))) [ja (.str ms),ja (CL c0 c1 c2 c3 c4 c5 c6),ja (.str [z]),ja (.lst (L.map λr => .str (bT r))),ja (.lst (zs.map λz => .str [z])),ja (.int (c1 / 45 % 6))]=ja (.lst ((L.drop (c1 / 45 % 6).toNat++L.take (c1 / 45 % 6).toNat).map λr => .str (bT r))):=by
    have h5:L.length=6:=by rw [<-hL];rfl
    obtain⟨t,ht,ht6⟩:∃t:Nat,c1 / 45 % 6=(t:Int)/\t<=5:=⟨(c1 / 45 % 6).toNat,by omega,by omega⟩
    rw [ht,yj];refine(UH (x:=(L.map λr=>D.str (bT r)).drop t) (y:=(L.map λr=>D.str (bT r)).take t) ?_ ?_ ?_).trans (by rw [qZ,uW,yK])
    . show ja (D.lst (bB _ (ja (t:Int)) none))=_
      rw [cG]
    . show ja (D.lst (bB _ none (ja (t:Int))))=_
      rw [QU]
    . rw [qw,jT,jk,h5]
      omega
   generalize (L.drop (c1 / 45 % 6).toNat++L.take (c1 / 45 % 6).toNat)=L2 at e1 ⊢;obtain⟨k,hk⟩:∃k:Nat,1+c1 / 9 % 5=(k:Int):=⟨(1+c1 / 9 % 5).toNat,by omega⟩
   have e2:aB aE (eC (.int 1)) (aB aK (aB aJ (aB aP (Za 1) (eC (.int 1))) (eC (.int 9))) (eC (.int 5))) [ja (.str ms),ja (CL c0 c1 c2 c3 c4 c5 c6),ja (.str [z]),ja (.lst (L.map λr => .str (bT r))),ja (.lst (zs.map λz => .str [z])),ja (.int (c1 / 45 % 6))]=ja (.int (k:Nat)):=(Zq rfl (Yu (Xz rfl (by decide) (by decide)) rfl (by decide))).trans (by rw [<-hk];rfl)
   rw [hk,yj,yK];rw [<-e]at e1 e2;exact KH e1 e2
abbrev T(r:R):D := .str (bT r)
def gR(ms:al Nat)(rs:al R):Bool:=rs.all (R.okB ms)&&decide (rs.length<=6)
def eg(ms:al Nat)(rs:al R):al Nat:=if gR ms rs then bN else cU
theorem KJ(a:al D)(n:Int):Qv (.lst a) (.int n)=Qu (.lst a) (.int n):=by
 unfold Qv;rfl
theorem X7{a:EN->am D}{δ:EN}{i k:Int}(h:a δ=ja (.int i)):xB (aB bA a (eC (.int k))) δ=ja (decide (i=k)):=Yt ((Zq h rfl).trans (ZZ _ _))
theorem Ak{i:Nat}{κ ε:EN->am D}{δ:EN}{xs:al D}{k:Nat}{d:D}(h1:Za i δ=ja (.lst xs))(h2:κ δ=ja (.int (k:Nat)))(h3:ε δ=ja d)(hk:k<=xs.length)(hl:xs.length<=1000):QJ i κ ε δ=ja (.nx (δ.set i (ja (.lst (xs.take k++d::xs.drop k))))):=by
 unfold QJ;rw [h1,h2,h3];dsimp only;rw [if_pos ⟨by omega,by omega,by rw [jo];omega⟩,yj]
theorem lb{i:Nat}{δ:EN}{xs:al D}(h:Za i δ=ja (.lst xs)):aU aM (Zb (Za i) az) δ=ja (.int (xs.length:Nat)):=(YT (Zd h aC)).trans bR
theorem rj{a b:EN->am D}{δ:EN}{i:Int}{n:Nat}(h:a δ=ja (.int i))(hb:b δ=ja (.int (n:Nat)))(h1:0<n):∃k:Nat,k<n/\aB aK a b δ=ja (.int (k:Nat)):=by
 have h2:=oi i (show(n:Int)≠0 by omega);have h3:=OL i (show 0<(n:Int) by omega);exact⟨(i % n).toNat,by omega,(Yu h hb (by omega)).trans (by rw [yX h2])⟩
section
variable{ms:al Nat}{c0 c1 c2 c3 c4 c5 c6:Int}{rs:al R}{v:am D}
theorem KN(M:Ms ms)(h:∀r∈rs,r.Wd/\r.okB ms=je)(hl:rs.length<=5):∃rs',zf [ja (.str ms),ja (CL c0 c1 c2 c3 c4 c5 c6),v,ja (.str bN),ja (.lst (rs.map T))]=ja (.nx [ja (.str ms),ja (CL c0 c1 c2 c3 c4 c5 c6),v,ja (.str (eg ms rs')),ja (.lst (rs'.map T))])/\(∀r∈rs',r.Wd)/\rs'.length<=6:=by
 have t:xB (aB bA (aB aK (aB aP (Za 1) (eC (.int 3))) (eC (.int 4))) (eC (.int 1))) [ja (.str ms),ja (CL c0 c1 c2 c3 c4 c5 c6),v,ja (.str bN),ja (.lst (rs.map T))]=ja (decide (c3 % 4=1)):=X7 (Yu rfl rfl (by decide));have hall:rs.all (R.okB ms)=true:=jR.mpr λr hr=>(h r hr).2
 by_cases hc:c3 % 4=1
 . rw [decide_eq_true hc]at t
   obtain⟨u,e1,hu,hb⟩:=Kx M (c3 / 28);have hlen:=lb (i:=4) (δ:=[ja (.str ms),ja (CL c0 c1 c2 c3 c4 c5 c6),v,ja (.str bN),ja (.lst (rs.map T))]) (xs:=rs.map T) rfl;obtain⟨k,hk,ek⟩:=rj (a:=aB aJ (aB aP (Za 1) (eC (.int 3))) (eC (.int 4))) (b:=aB aE (aU aM (Zb (Za 4) az)) (eC (.int 1))) (n:=(rs.map T).length+1) (Xz rfl (by decide) (by decide)) ((Zq hlen rfl).trans rfl) (by omega)
   rw [jk]at hk;refine⟨rs.take k++u::rs.drop k,(VC t).trans ((Zx (Ak rfl ek ((Yy (Zd rfl (Zd (Xz rfl (by decide) (by decide)) aC)) rfl).trans e1) (by rw [jk];omega) (by rw [jk];omega))).trans ((Zy (d:=.str cU) rfl).trans ?_)),λr hr => ?_,?_⟩
   . have : eg ms (rs.take k ++ u :: rs.drop k) = cU := by
      unfold eg gR;rw [List.all_append,yw,hb,om,uR,om];rfl
     rw [this,qZ,jy,yK,uW];rfl
   . rcases qY.mp hr with hr|hr
     . exact(h r (qQ hr)).1
     . rcases jp.mp hr with rfl|hr
       . exact hu
       . exact(h r (Ou hr)).1
   . rw [jt,jh,jT,qw]
     omega
 . rw [decide_eq_false hc]at t
   refine⟨rs,(YK t).trans ?_,λr hr=>(h r hr).1,by omega⟩
   have:eg ms rs=bN:=by
    unfold eg gR;rw [hall,decide_eq_true (by omega)];rfl
   rw [this];rfl
theorem KO(h:∀r∈rs,r.Wd)(hl:rs.length<=6):∃rs',kj [ja (.str ms),ja (CL c0 c1 c2 c3 c4 c5 c6),v,ja (.str (eg ms rs)),ja (.lst (rs.map T))]=ja (.nx [ja (.str ms),ja (CL c0 c1 c2 c3 c4 c5 c6),v,ja (.str (eg ms rs')),ja (.lst (rs'.map T))])/\(∀r∈rs',r.Wd)/\rs'.length<=7:=by
 generalize hkd:eg ms rs=kd;have t1:xB (aB bA (aB aK (aB aP (Za 1) (eC (.int 3))) (eC (.int 4))) (eC (.int 3))) [ja (.str ms),ja (CL c0 c1 c2 c3 c4 c5 c6),v,ja (.str kd),ja (.lst (rs.map T))]=ja (decide (c3 % 4=3)):=X7 (Yu rfl rfl (by decide));have t2:xB (aB bA (aB aK (aB aJ (aB aP (Za 1) (eC (.int 2))) (eC (.int 24))) (eC (.int 3))) (eC (.int 1))) [ja (.str ms),ja (CL c0 c1 c2 c3 c4 c5 c6),v,ja (.str kd),ja (.lst (rs.map T))]=ja (decide (c2 / 24 % 3=1)):=X7 (Yu (Xz rfl (by decide) (by decide)) rfl (by decide))
 have no:kj [ja (.str ms),ja (CL c0 c1 c2 c3 c4 c5 c6),v,ja (.str kd),ja (.lst (rs.map T))]=ja (.nx [ja (.str ms),ja (CL c0 c1 c2 c3 c4 c5 c6),v,ja (.str kd),ja (.lst (rs.map T))])->∃rs',kj [ja (.str ms),ja (CL c0 c1 c2 c3 c4 c5 c6),v,ja (.str kd),ja (.lst (rs.map T))]=ja (.nx [ja (.str ms),ja (CL c0 c1 c2 c3 c4 c5 c6),v,ja (.str (eg ms rs')),ja (.lst (rs'.map T))])/\(∀r∈rs',r.Wd)/\rs'.length<=7:=λe=>⟨rs,by rw [hkd];exact e,h,by omega⟩
 by_cases hc:c3 % 4=3
 . rw [decide_eq_true hc]at t1
   by_cases hd:c2 / 24 % 3=1
   . rw [decide_eq_true hd]at t2
     have hlen:=lb (i:=4) (δ:=[ja (.str ms),ja (CL c0 c1 c2 c3 c4 c5 c6),v,ja (.str kd),ja (.lst (rs.map T))]) (xs:=rs.map T) rfl
     have e1:aB Qv (Zl (Zb (eC (.str [97,108,105,107,101,32,51])) az)) (aB bi (eC (.int 7)) (aU aM (Zb (Za 4) az))) [ja (.str ms),ja (CL c0 c1 c2 c3 c4 c5 c6),v,ja (.str kd),ja (.lst (rs.map T))]=ja (.lst ((jd (7-rs.length) (R.alike 3)).map T)):=by
      refine(Zq (Xq (Zd rfl aC) (show 1<=1000 by decide)) (y:=.int ((7-rs.length:Nat):Int)) ((Zq rfl hlen).trans ?_)).trans ?_
      . show ja (D.int (7-((rs.map T).length:Nat)))=_
        rw [jk,show(7:Int)-(rs.length:Nat)=((7-rs.length:Nat):Int) by omega]
      . rw [KJ,Gu (by rw [qo];omega) (by omega),List.flatten_replicate_singleton,vM]
        rfl
     refine⟨rs++jd (7-rs.length) (R.alike 3),(VC (iO t1 t2)).trans ((Zx (Zy (UH rfl e1 (by rw [jk,jk,jP];omega)))).trans ((Zy (d:=.str cU) rfl).trans ?_)),λr hr => ?_,by rw [jt,jP];omega⟩
     . have : eg ms (rs ++ jd (7 - rs.length) (R.alike 3)) = cU := by
        unfold eg gR;rw [jt,jP,decide_eq_false (by omega),uR];rfl
       rw [this,qZ];rfl
     . rcases qY.mp hr with hr|hr
       . exact h r hr
       . rw [(List.mem_replicate.mp hr).2]
         exact Nu.of (by decide) (by decide)
   . rw [decide_eq_false hd]at t2
     exact no ((YK (iO t1 t2)).trans rfl)
 . rw [decide_eq_false hc]at t1
   exact no ((YK (nY t1)).trans rfl)
theorem KP{kd:al Nat}:∃w kd',zg [ja (.str ms),ja (CL c0 c1 c2 c3 c4 c5 c6),ja (.str ms),ja (.str kd),ja (.lst (rs.map T))]=ja (.nx [ja (.str ms),ja (CL c0 c1 c2 c3 c4 c5 c6),ja (.str w),ja (.str kd'),ja (.lst (rs.map T))])/\(w=ms/\kd'=kd\/(Bd w/\Gw w)/\kd'=Yp):=by
 have t1:xB (aB bA (aB aK (aB aP (Za 1) (eC (.int 3))) (eC (.int 4))) (eC (.int 2))) [ja (.str ms),ja (CL c0 c1 c2 c3 c4 c5 c6),ja (.str ms),ja (.str kd),ja (.lst (rs.map T))]=ja (decide (c3 % 4=2)):=X7 (Yu rfl rfl (by decide));have t2:xB (aB bA (aB aK (aB aP (Za 1) (eC (.int 3))) (eC (.int 28))) (eC (.int 5))) [ja (.str ms),ja (CL c0 c1 c2 c3 c4 c5 c6),ja (.str ms),ja (.str kd),ja (.lst (rs.map T))]=ja (decide (c3 % 28=5)):=X7 (Yu rfl rfl (by decide))
 have t:∃b,bz (xB (aB bA (aB aK (aB aP (Za 1) (eC (.int 3))) (eC (.int 4))) (eC (.int 2)))) (xB (aB bA (aB aK (aB aP (Za 1) (eC (.int 3))) (eC (.int 28))) (eC (.int 5)))) [ja (.str ms),ja (CL c0 c1 c2 c3 c4 c5 c6),ja (.str ms),ja (.str kd),ja (.lst (rs.map T))]=ja b:=by
  cases hb:decide (c3 % 4=2)with
  |true=>exact⟨_,nX (t1.trans (by rw [hb]))⟩
  |false=>exact⟨_,UC (t1.trans (by rw [hb])) t2⟩
 obtain⟨b,t⟩:=t;cases b with
 |false=>exact⟨ms,kd,(YK t).trans rfl,.inl ⟨rfl,rfl⟩⟩
 |true=>
  obtain⟨_,e,w,rfl,hw⟩:∃x,aB aP (Zl (Zb (eC (.str [97])) (Zb (eC (.str [97,98,99,100,101])) (Zb (eC (.str [97,97])) (Zb (eC (.str [97,66])) (Zb (eC (.str [97,45,98])) (Zb (eC (.str [48,95])) az))))))) (aB aK (aB aJ (aB aP (Za 1) (eC (.int 3))) (eC (.int 28))) (eC (.int 6))) [ja (.str ms),ja (CL c0 c1 c2 c3 c4 c5 c6),ja (.str ms),ja (.str kd),ja (.lst (rs.map T))]=ja x/\∃w,x = .str w/\Bd w/\Gw w:=by
   refine kU (xs:=[.str [97],.str [97,98,99,100,101],.str [97,97],.str [97,66],.str [97,45,98],.str [48,95]]) (i:=c3 / 28) (m:=6) (Xq (Zd rfl (Zd rfl (Zd rfl (Zd rfl (Zd rfl (Zd rfl aC)))))) (show 6<=1000 by decide)) (Yu (Xz rfl (by decide) (by decide)) rfl (by decide)) rfl (by decide) λx hx => ?_
   simp only [jp,jH,or_false]at hx;rcases hx with rfl|rfl|rfl|rfl|rfl|rfl<;>exact⟨_,rfl,.of (by decide),re (by decide)⟩
  exact⟨w,Yp,(VC t).trans ((Zx (Zy e)).trans ((Zy (d:=.str Yp) rfl).trans rfl)),.inr ⟨hw,rfl⟩⟩
theorem KQ(h:∀r∈rs,r.Wd)(hl:rs.length<=7):∃mid,zh [ja (.str ms),ja (CL c0 c1 c2 c3 c4 c5 c6),v,ja (.str kd),ja (.lst (.str t::rs.map T))]=ja (.nx [ja (.str ms),ja (CL c0 c1 c2 c3 c4 c5 c6),v,ja (.str kd),ja (.lst (.str t::mid.map D.str))])/\RL mid rs/\mid.length<=8:=by
 have hr:=RL.map h;have ht:xB (aB bA (aB aK (aB aJ (aB aP (Za 1) (eC (.int 0))) (eC (.int 4))) (eC (.int 3))) (eC (.int 1))) [ja (.str ms),ja (CL c0 c1 c2 c3 c4 c5 c6),v,ja (.str kd),ja (.lst (.str t::rs.map T))]=ja (decide (c0 / 4 % 3=1)):=X7 (Yu (Xz rfl (by decide) (by decide)) rfl (by decide))
 by_cases hc:c0 / 4 % 3=1
 . rw [decide_eq_true hc]at ht
   have hlen:=lb (i:=4) (δ:=[ja (.str ms),ja (CL c0 c1 c2 c3 c4 c5 c6),v,ja (.str kd),ja (.lst (.str t::rs.map T))]) (xs:=.str t::rs.map T) rfl;obtain⟨k,hk,ek⟩:=rj (a:=aB aJ (aB aP (Za 1) (eC (.int 2))) (eC (.int 72))) (b:=aU aM (Zb (Za 4) az)) (n:=(D.str t::rs.map T).length) (Xz rfl (by decide) (by decide)) hlen (by rw [jh];omega);rw [jh,jk]at hk
   obtain⟨_,e,u,rfl,hu⟩:∃x,aB aP (Zl (Zb (eC (.str [])) (Zb (eC (.str [32,35,32,97,108,105,107,101,32,49])) (Zb (eC (.str [32,32,32])) az)))) (aB aK (aB aJ (aB aP (Za 1) (eC (.int 2))) (eC (.int 9))) (eC (.int 3))) [ja (.str ms),ja (CL c0 c1 c2 c3 c4 c5 c6),v,ja (.str kd),ja (.lst (.str t::rs.map T))]=ja x/\∃u,x = .str u/\Sh u/\Zs u=[]:=by
    refine kU (xs:=[.str [],.str [32,35,32,97,108,105,107,101,32,49],.str [32,32,32]]) (i:=c2 / 9) (m:=3) (Xq (Zd rfl (Zd rfl (Zd rfl aC))) (show 3<=1000 by decide)) (Yu (Xz rfl (by decide) (by decide)) rfl (by decide)) rfl (by decide) λx hx => ?_
    simp only [jp,jH,or_false]at hx;rcases hx with rfl|rfl|rfl<;>exact⟨_,rfl,⟨by decide,by decide⟩,by decide⟩
   refine⟨(rs.map bT).take k++u::(rs.map bT).drop k,(VC ht).trans ((Ak (k:=k+1) rfl ((Zq rfl ek).trans (by show ja (D.int (1+(k:Int)))=_;rw [show(1:Int)+(k:Int)=((k+1:Nat):Int) by omega])) e (by rw [jh,jk];omega) (by rw [jh,jk];omega)).trans ?_),hr.ins k hu.1 hu.2,?_⟩
   . rw [uH,List.drop_succ_cons,qZ,jy,yK,uW,qM]
     rfl
   . rw [jt,jh,jT,qw,jk]
     omega
 . rw [decide_eq_false hc]at ht
   exact⟨rs.map bT,(YK ht).trans (by rw [qM];rfl),hr,by rw [jk];omega⟩
end
structure Pg(ms:List Nat)(n:Nat)(pre:List (List Nat))(t:List Nat)(mid:List (List Nat))(w kd:List Nat):Prop where
 lp:pre.length=n/\n<=3
 hp:∀u∈pre,Sh u/\Zs u=[]
 ht:Sh t/\Zs t=[Yp,w]
 rl:∃rs,RL mid rs/\rs.length<=7/\(w=ms/\kd=eg ms rs\/Bd w/\kd=Yp)
 lm:mid.length<=8
theorem KR:∀u∈([[],[35,32,109,97,114,107,115],[32,32]]:al (al Nat)),Sh u/\Zs u=[]:=by
 intro u hu;simp only [jp,jH,or_false]at hu;rcases hu with rfl|rfl|rfl<;>exact⟨⟨by decide,by decide⟩,by decide⟩
theorem Al{w:al Nat}(h:Gw w):Sh ([109,97,114,107,115,32]++w)/\Zs ([109,97,114,107,115,32]++w)=[Yp,w]:=by
 obtain⟨a,b,c⟩:=p6 [Yp,w] λx hx=>by
  rcases jp.mp hx with rfl|hx
  . exact re (by decide)
  . rw [OE.mp hx];exact h
 have e:Zr [32] [Yp,w]=[109,97,114,107,115,32]++w:=by simp [Zr]
 rw [e]at a b c;exact⟨⟨b,jK c (show 9*2<=200 by decide)⟩,a⟩
theorem Ms.gw{ms:al Nat}(M:Ms ms):Gw ms:=by
 have h1:=M.lo;have h2:=M.hi;exact⟨⟨λz=>by rw [z]at h1;exact absurd h1 (by decide),λc hc=>let⟨a,b,d,_⟩:=la c (M.sg c hc);⟨a,b,d⟩⟩,by omega⟩
theorem KS(M:Ms ms)(c0 c1 c2 c3 c4 c5 c6:Int):∃pre t mid w kd,pL [.str ms,CL c0 c1 c2 c3 c4 c5 c6]=ja (.tup [.lst ((pre++t::mid).map D.str),.str kd,.int (pre.length:Nat)])/\Pg ms pre.length pre t mid w kd:=by
 obtain⟨grs,e1,h1,l1⟩:=KI M c0 c1 c2 c3 c4 c5 c6;obtain⟨rs2,e2,h2,l2⟩:=KN (c0:=c0) (c1:=c1) (c2:=c2) (c3:=c3) (c4:=c4) (c5:=c5) (c6:=c6) (v:=ja (.str ms)) M h1 l1;obtain⟨rs,e3,h3,l3⟩:=KO (ms:=ms) (c0:=c0) (c1:=c1) (c2:=c2) (c3:=c3) (c4:=c4) (c5:=c5) (c6:=c6) (v:=ja (.str ms)) h2 l2;obtain⟨w,kd,e4,h4⟩:=KP (ms:=ms) (c0:=c0) (c1:=c1) (c2:=c2) (c3:=c3) (c4:=c4) (c5:=c5) (c6:=c6) (rs:=rs) (kd:=eg ms rs)
 have gw:Gw w:=by
  rcases h4 with⟨rfl,_⟩|⟨h,_⟩
  . exact M.gw
  . exact h.2
 have lw:=gw.2;obtain⟨mid,e6,h6,l6⟩:=KQ (ms:=ms) (c0:=c0) (c1:=c1) (c2:=c2) (c3:=c3) (c4:=c4) (c5:=c5) (c6:=c6) (v:=ja (.str w)) (t:=[109,97,114,107,115,32]++w) (kd:=kd) h3 l3;obtain⟨n,hn,hn3⟩:∃n:Nat,c0 % 4=(n:Int)/\n<=3:=⟨(c0 % 4).toNat,by omega,by omega⟩
 have lpre:(([[],[35,32,109,97,114,107,115],[32,32]]:al (al Nat)).take n).length=n:=by rw [jT,show([[],[35,32,109,97,114,107,115],[32,32]]:al (al Nat)).length=3 from rfl];omega
 refine⟨([[],[35,32,109,97,114,107,115],[32,32]]:al (al Nat)).take n,[109,97,114,107,115,32]++w,mid,w,kd,?_,⟨rfl,by rw [lpre];exact hn3⟩,λu hu=>KR u (qQ hu),Al gw,⟨rs,h6,l3,h4.imp (λz=>z) λz=>⟨z.1.1,z.2⟩⟩,l6⟩
 have e5:aB Yx (Zl (Zb (aB aE (eC (.str [109,97,114,107,115,32])) (Za 2)) az)) (Za 4) [ja (.str ms),ja (CL c0 c1 c2 c3 c4 c5 c6),ja (.str w),ja (.str kd),ja (.lst (rs.map T))]=ja (.lst (.str ([109,97,114,107,115,32]++w)::rs.map T)):=
  UH (x:=[.str ([109,97,114,107,115,32]++w)]) (Xq (Zd (Xb rfl rfl (by simp only [jh,yi];omega)) aC) (show 1<=1000 by decide)) rfl (by rw [jk,qo];omega)
 have e7:aB aK (aB aP (Za 1) (eC (.int 0))) (eC (.int 4)) [ja (.str ms),ja (CL c0 c1 c2 c3 c4 c5 c6),ja (.str w),ja (.str kd),ja (.lst (.str ([109,97,114,107,115,32]++w)::mid.map D.str))]=ja (.int (n:Nat)):=(Yu rfl rfl (by decide)).trans (by rw [<-hn])
 have e8:bq (Zl (Zb (eC (.str [])) (Zb (eC (.str [35,32,109,97,114,107,115])) (Zb (eC (.str [32,32])) az)))) aS (xP (aB aK (aB aP (Za 1) (eC (.int 0))) (eC (.int 4)))) [ja (.str ms),ja (CL c0 c1 c2 c3 c4 c5 c6),ja (.str w),ja (.str kd),ja (.lst (.str ([109,97,114,107,115,32]++w)::mid.map D.str))]=ja (.lst ((([[],[35,32,109,97,114,107,115],[32,32]]:al (al Nat)).take n).map D.str)):=by
  unfold bq xP aS;rw [e7,show Zl (Zb (eC (.str [])) (Zb (eC (.str [35,32,109,97,114,107,115])) (Zb (eC (.str [32,32])) az))) _=ja (.lst (([[],[35,32,109,97,114,107,115],[32,32]]:al (al Nat)).map D.str))from Xq (Zd rfl (Zd rfl (Zd rfl aC))) (show 3<=1000 by decide)];show ja (D.lst (bB _ none (ja (n:Int))))=_;rw [QU,yK]
 refine Ub rfl (((Zx (Zy (d:=.str ms) rfl)).trans ((Zx (Zy (d:=.str bN) rfl)).trans ((Zx (Zy ((Yy (Zd rfl (Zd rfl aC)) rfl).trans e1))).trans ((Zx e2).trans ((Zx e3).trans ((Zx e4).trans ((Zx (Zy e5)).trans ((Zx e6).trans (Vf ?_))))))))));refine(UD (Zd (UH e8 rfl ?_) (Zd rfl (Zd e7 aC))) (show 3<=1000 by decide)).trans ?_
 . rw [jk,lpre,jh,jk]
   omega
 . rw [lpre,qZ]
   rfl
structure lc(n k:Nat)(b:List Nat):Prop where
 sh:Sh b
 or_:(k<=n/\∃v vs,Zs b=v::vs/\¬(v=Yp/\vs.length=1))\/(n<k/\Zs b≠[]/\Xy [.lst ((Zs b).map D.str)]=ja .non)
theorem Bw.plc{b:al Nat}(h:Bw b)(n k:Nat):lc n k b:=by
 refine⟨h.sh,?_⟩
 by_cases hk:k<=n
 . exact .inl ⟨hk,h.hd⟩
 . obtain⟨v,vs,e,_⟩:=h.hd
   exact .inr ⟨by omega,by rw [e];exact Wc _ _,h.nm⟩
def fK(P:al (al Nat))(n:Nat)(rows:al (al Nat))(due:Nat):Prop:=∃k b post,rows=P.take k++b::post/\k<=P.length/\due=k+1/\lc n k b/\(∀u∈rows,Sh u)/\rows.length<=P.length+2
theorem KU(w:al Nat):Xy [.lst [.str Yp,.str w]]=ja .non:=by kernel_rfl
theorem rm{a b:EN->am D}{δ:EN}{xs:al D}{k:Nat}(h:a δ=ja (.lst xs))(h2:b δ=ja (.int (k:Nat))):bq a aS (xP b) δ=ja (.lst (xs.take k)):=by
 unfold bq xP aS;rw [h,h2];show ja (D.lst (bB xs none (ja (k:Int))))=_;rw [QU]
theorem Am{a b:EN->am D}{δ:EN}{xs:al D}{k:Nat}(h:a δ=ja (.lst xs))(h2:b δ=ja (.int (k:Nat))):bq a (xP b) aS δ=ja (.lst (xs.drop k)):=by
 unfold bq xP aS;rw [h,h2];show ja (D.lst (bB xs (ja (k:Int)) none))=_;rw [cG]
section
variable{ms:al Nat}{c0 c1 c2 c3 c4 c5 c6:Int}{P rows:al (al Nat)}{n due:Nat}{x7 x8:am D}
theorem KW(M:Ms ms)(k:Int)(hk:k=0\/k=1)(k0:Nat)(b0:al Nat)(h0:Bw b0)(hl:k0<=P.length)(hn:n<P.length){r d:D}:∃k1 b1,zj [ja (.lst (P.map D.str)),ja (.int (n:Nat)),ja (.str ms),ja (CL c0 c1 c2 c3 c4 c5 c6),ja r,ja d,ja (.int k),ja (.int (k0:Nat)),ja (.str b0)]=ja (.nx [ja (.lst (P.map D.str)),ja (.int (n:Nat)),ja (.str ms),ja (CL c0 c1 c2 c3 c4 c5 c6),ja r,ja d,ja (.int k),ja (.int (k1:Nat)),ja (.str b1)])/\k1<=P.length/\lc n k1 b1:=by
 obtain⟨c,hc⟩:∃c,aB aP (Za 3) (aB aE (eC (.int 5)) (Za 6)) [ja (.lst (P.map D.str)),ja (.int (n:Nat)),ja (.str ms),ja (CL c0 c1 c2 c3 c4 c5 c6),ja r,ja d,ja (.int k),ja (.int (k0:Nat)),ja (.str b0)]=ja (.int c):=by
  rcases hk with rfl|rfl
  . exact⟨c5,rfl⟩
  . exact⟨c6,rfl⟩
 have t1:xB (aB bA (aB aK (aB aJ (aB aP (Za 3) (aB aE (eC (.int 5)) (Za 6))) (eC (.int 12))) (eC (.int 45))) (eC (.int 44))) [ja (.lst (P.map D.str)),ja (.int (n:Nat)),ja (.str ms),ja (CL c0 c1 c2 c3 c4 c5 c6),ja r,ja d,ja (.int k),ja (.int (k0:Nat)),ja (.str b0)]=ja (decide (c / 12 % 45=44)):=X7 (Yu (Xz hc (by decide) (by decide)) rfl (by decide))
 have t2:xB (aB bA (aB aK (aB aJ (aB aP (Za 3) (aB aE (eC (.int 5)) (Za 6))) (eC (.int 12))) (eC (.int 45))) (eC (.int 43))) [ja (.lst (P.map D.str)),ja (.int (n:Nat)),ja (.str ms),ja (CL c0 c1 c2 c3 c4 c5 c6),ja r,ja d,ja (.int k),ja (.int (k0:Nat)),ja (.str b0)]=ja (decide (c / 12 % 45=43)):=X7 (Yu (Xz hc (by decide) (by decide)) rfl (by decide))
 by_cases h1:c / 12 % 45=44
 . rw [decide_eq_true h1]at t1
   obtain⟨g1,g2⟩:=Al M.gw;have lm:=M.hi;refine⟨max k0 (n+1),[109,97,114,107,115,32]++ms,(VC t1).trans ((Zx (Zy (d:=.int ((max k0 (n+1):Nat):Int)) ((YT (Zd rfl (Zd ((Zq rfl rfl).trans rfl) aC))).trans ?_))).trans ((Zy (Xb rfl rfl (by simp only [jh,yi];omega))).trans rfl)),by omega,g1,.inr ⟨by omega,by rw [g2];exact Wc _ _,by rw [g2];exact KU ms⟩⟩
   show ja (D.int (if((n:Nat):Int)+1>((k0:Nat):Int)then((n:Nat):Int)+1 else((k0:Nat):Int)))=_
   congr 2
   split<;>omega
 . rw [decide_eq_false h1]at t1
   by_cases h2:c / 12 % 45=43
   . rw [decide_eq_true h2]at t2
     refine⟨min k0 n,[97,108,105,107,101,32,49],(YK t1).trans ((VC t2).trans ((Zx (Zy (d:=.int ((min k0 n:Nat):Int)) ((YT (Zd rfl (Zd rfl aC))).trans ?_))).trans ((Zy (d:=.str [97,108,105,107,101,32,49]) rfl).trans rfl))),by omega,⟨by decide,by decide⟩,.inl ⟨by omega,[97,108,105,107,101],[[49]],by decide,by decide⟩⟩;show ja (D.int (if((n:Nat):Int)<((k0:Nat):Int)then((n:Nat):Int)else((k0:Nat):Int)))=_
     congr 2
     split<;>omega
   . rw [decide_eq_false h2]at t2
     exact⟨k0,b0,(YK t1).trans ((YK t2).trans rfl),hl,h0.plc n k0⟩
theorem An{rows:al (al Nat)}{b:al Nat}(h:∀u∈rows,Sh u)(hb:Sh b){A B:al (al Nat)}(hA:∀u∈A,Sh u)(j:Nat):∀u∈A++b::rows.drop j,Sh u:=λu hu=>by
 rcases qY.mp hu with hu|hu
 . exact hA u hu
 . rcases jp.mp hu with rfl|hu
   . exact hb
   . exact h u (Ou hu)
theorem KY{k:Int}{k1 d:Nat}(h:(k=0/\rows=P)\/(k1<d/\fK P n rows d/\rows.length=P.length+1))(hP:∀u∈P,Sh u)(hl:k1<=P.length)(hp:P.length<=50)(pl:lc n k1 b1):∃rows' d',kl [ja (.lst (P.map D.str)),ja (.int (n:Nat)),ja (.str ms),ja (CL c0 c1 c2 c3 c4 c5 c6),ja (.lst (rows.map D.str)),ja (.int (d:Nat)),ja (.int k),ja (.int (k1:Nat)),ja (.str b1)]=ja (.nx [ja (.lst (P.map D.str)),ja (.int (n:Nat)),ja (.str ms),ja (CL c0 c1 c2 c3 c4 c5 c6),ja (.lst (rows'.map D.str)),ja (.int (d':Nat)),ja (.int k),ja (.int (k1:Nat)),ja (.str b1)])/\fK P n rows' d'/\rows'.length=rows.length+1:=by
 have hr:(∀u∈rows,Sh u)/\P.length<=rows.length/\rows.length<=P.length+1:=by
  rcases h with⟨_,rfl⟩|⟨_,⟨_,_,_,_,_,_,_,q,_⟩,q2⟩
  . exact⟨hP,by omega,by omega⟩
  . exact⟨q,by omega,by omega⟩
 have t1:xB (aB bA (Za 6) (eC (.int 0))) [ja (.lst (P.map D.str)),ja (.int (n:Nat)),ja (.str ms),ja (CL c0 c1 c2 c3 c4 c5 c6),ja (.lst (rows.map D.str)),ja (.int (d:Nat)),ja (.int k),ja (.int (k1:Nat)),ja (.str b1)]=ja (decide (k=0)):=X7 rfl;have t2:xB (aB (Zv λi j=>decide (i<j)) (Za 7) (Za 5)) [ja (.lst (P.map D.str)),ja (.int (n:Nat)),ja (.str ms),ja (CL c0 c1 c2 c3 c4 c5 c6),ja (.lst (rows.map D.str)),ja (.int (d:Nat)),ja (.int k),ja (.int (k1:Nat)),ja (.str b1)]=ja (decide ((k1:Int)<(d:Int))):=Yt ((Zq rfl rfl).trans rfl)
 have t:bz (xB (aB bA (Za 6) (eC (.int 0)))) (xB (aB (Zv λi j=>decide (i<j)) (Za 7) (Za 5))) [ja (.lst (P.map D.str)),ja (.int (n:Nat)),ja (.str ms),ja (CL c0 c1 c2 c3 c4 c5 c6),ja (.lst (rows.map D.str)),ja (.int (d:Nat)),ja (.int k),ja (.int (k1:Nat)),ja (.str b1)]=ja true:=by
  by_cases hk:k=0
  . exact nX (t1.trans (by rw [decide_eq_true hk]))
  . rcases h with⟨z,_⟩|⟨z,_⟩
    . exact(hk z).elim
    . exact UC (t1.trans (by rw [decide_eq_false hk])) (t2.trans (by rw [decide_eq_true (by omega)]))
 refine⟨P.take k1++b1::rows.drop k1,k1+1,(VC t).trans ((Zx (Zy (d:=.int ((k1+1:Nat):Int)) ((Zq rfl rfl).trans rfl))).trans ((Zy (UH (UH (rm rfl rfl) (Xq (Zd rfl aC) (show 1<=1000 by decide)) ?_) (Am rfl rfl) ?_)).trans ?_)),⟨k1,b1,rows.drop k1,rfl,hl,rfl,pl,An hr.1 pl.sh (A:=P.take k1) (B:=[]) (λu hu=>hP u (qQ hu)) k1,?_⟩,?_⟩
 . rw [jT,jk,qo];omega
 . rw [jt,jT,qw,jk,jk,qo];omega
 . rw [qZ,jy,yK,uW,qX]
   rfl
 . rw [jt,jh,jT,qw];omega
 . rw [jt,jh,jT,qw];omega
theorem KZ{k1 d:Nat}(h:fK P n rows d)(hd:¬k1<d)(hr:rows.length=P.length+1)(hl:k1<=P.length)(hp:P.length<=50)(pl:Sh b1):∃rows',kl [ja (.lst (P.map D.str)),ja (.int (n:Nat)),ja (.str ms),ja (CL c0 c1 c2 c3 c4 c5 c6),ja (.lst (rows.map D.str)),ja (.int (d:Nat)),ja (.int 1),ja (.int (k1:Nat)),ja (.str b1)]=ja (.nx [ja (.lst (P.map D.str)),ja (.int (n:Nat)),ja (.str ms),ja (CL c0 c1 c2 c3 c4 c5 c6),ja (.lst (rows'.map D.str)),ja (.int (d:Nat)),ja (.int 1),ja (.int (k1:Nat)),ja (.str b1)])/\fK P n rows' d:=by
 obtain⟨k0,b0,post,e,h1,h2,h3,h4,h5⟩:=h
 have t:bz (xB (aB bA (Za 6) (eC (.int 0)))) (xB (aB (Zv λi j=>decide (i<j)) (Za 7) (Za 5))) [ja (.lst (P.map D.str)),ja (.int (n:Nat)),ja (.str ms),ja (CL c0 c1 c2 c3 c4 c5 c6),ja (.lst (rows.map D.str)),ja (.int (d:Nat)),ja (.int 1),ja (.int (k1:Nat)),ja (.str b1)]=ja false:=
  UC ((X7 (i:=1) rfl).trans rfl) (Yt ((Zq rfl rfl).trans (by show ja (D.bl (decide ((k1:Int)<(d:Int))))=_;rw [decide_eq_false (by omega)])))
 have e1:aB aE (Za 7) (eC (.int 1)) [ja (.lst (P.map D.str)),ja (.int (n:Nat)),ja (.str ms),ja (CL c0 c1 c2 c3 c4 c5 c6),ja (.lst (rows.map D.str)),ja (.int (d:Nat)),ja (.int 1),ja (.int (k1:Nat)),ja (.str b1)]=ja (.int ((k1+1:Nat):Int)):=(Zq rfl rfl).trans rfl;have lt:(P.take k0).length=k0:=by rw [jT];omega
 refine⟨rows.take (k1+1)++b1::rows.drop (k1+1),(YK t).trans ((Zy (UH (UH (rm rfl e1) (Xq (Zd rfl aC) (show 1<=1000 by decide)) ?_) (Am rfl e1) ?_)).trans ?_),⟨k0,b0,post.take (k1-k0)++b1::rows.drop (k1+1),?_,h1,h2,h3,An h4 pl (A:=rows.take (k1+1)) (B:=[]) (λu hu=>h4 u (qQ hu)) (k1+1),?_⟩⟩
 . rw [jT,jk,qo];omega
 . rw [jt,jT,qw,jk,qo];omega
 . rw [qZ,jy,yK,uW,qX]
   rfl
 . have : rows.take (k1 + 1) = P.take k0 ++ b0 :: post.take (k1 - k0) := by
    rw [e,OX,lt,show k1+1-k0=(k1-k0)+1 by omega,uH,qx (by rw [lt];omega)]
   rw [this,qX];rfl
 . rw [jt,jh,jT,qw];omega
end
section
variable{ms:al Nat}{c0 c1 c2 c3 c4 c5 c6:Int}{P rows:al (al Nat)}{n d:Nat}{x7 x8:am D}
theorem Ao(M:Ms ms){k:Int}(h:(k=0/\rows=P)\/(k=1/\fK P n rows d/\rows.length=P.length+1))(hP:∀u∈P,Sh u)(hn:n<P.length)(hp:P.length<=50):∃rows' d' y7 y8,km [ja (.lst (P.map D.str)),ja (.int (n:Nat)),ja (.str ms),ja (CL c0 c1 c2 c3 c4 c5 c6),ja (.lst (rows.map D.str)),ja (.int (d:Nat)),ja (.int k),x7,x8]=ja (.nx [ja (.lst (P.map D.str)),ja (.int (n:Nat)),ja (.str ms),ja (CL c0 c1 c2 c3 c4 c5 c6),ja (.lst (rows'.map D.str)),ja (.int (d':Nat)),ja (.int k),y7,y8])/\fK P n rows' d'/\(k=0->rows'.length=P.length+1):=by
 have hk:k=0\/k=1:=h.imp And.left And.left
 obtain⟨c,hc⟩:∃c,∀x7 x8,aB aP (Za 3) (aB aE (eC (.int 5)) (Za 6)) [ja (.lst (P.map D.str)),ja (.int (n:Nat)),ja (.str ms),ja (CL c0 c1 c2 c3 c4 c5 c6),ja (.lst (rows.map D.str)),ja (.int (d:Nat)),ja (.int k),x7,x8]=ja (.int c):=by
  rcases hk with rfl|rfl
  . exact⟨c5,λ_ _=>rfl⟩
  . exact⟨c6,λ_ _=>rfl⟩
 obtain⟨k0,hk0,ek⟩:=rj (a:=aB aP (Za 3) (aB aE (eC (.int 5)) (Za 6))) (b:=aB aE (aU aM (Zb (Za 0) az)) (eC (.int 1))) (n:=(P.map D.str).length+1) (hc x7 x8) ((Zq (lb (i:=0) rfl) rfl).trans rfl) (by omega);rw [jk]at hk0;obtain⟨b0,e0,hb0⟩:=Kr M (c / 12);obtain⟨k1,b1,e1,h1,pl⟩:=KW (c0:=c0) (c1:=c1) (c2:=c2) (c3:=c3) (c4:=c4) (c5:=c5) (c6:=c6) M k hk k0 b0 hb0 (P:=P) (n:=n) (by omega) hn (r:=.lst (rows.map D.str)) (d:=.int (d:Nat))
 have pre:=λ(y:aT) (e:kl [ja (.lst (P.map D.str)),ja (.int (n:Nat)),ja (.str ms),ja (CL c0 c1 c2 c3 c4 c5 c6),ja (.lst (rows.map D.str)),ja (.int (d:Nat)),ja (.int k),ja (.int (k1:Nat)),ja (.str b1)]=ja y)=>show km _=ja y from(Zx (Zy ek)).trans ((Zx (Zy ((Yy (Zd rfl (Zd (Xz (hc _ _) (by decide) (by decide)) aC)) rfl).trans e0))).trans ((Zx e1).trans e))
 by_cases hy:k=0\/k1<d
 . obtain ⟨rows', d', e2, h2, h3⟩ := KY (c0 := c0) (c1 := c1) (c2 := c2) (c3 := c3) (c4 := c4) (c5 := c5) (c6 := c6) (ms := ms) (n := n) (k := k) (d := d) (rows := rows) (P := P) (b1 := b1) (k1 := k1) (by
    rcases h with h|h
    . exact .inl h
    . rcases hy with z|z
      . exact absurd (z.symm.trans h.1) (by decide)
      . exact .inr ⟨z,h.2⟩) hP h1 hp pl
   refine⟨rows',d',_,_,pre _ e2,h2,λz => ?_⟩;rcases h with h|h
   . rw [h3,h.2]
   . exact absurd (z.symm.trans h.1) (by decide)
 . have hk1:k=1:=hk.resolve_left λz=>hy (.inl z)
   subst hk1
   obtain⟨q1,q2⟩:fK P n rows d/\rows.length=P.length+1:=by
    rcases h with h|h
    . exact absurd h.1 (by decide)
    . exact h.2
   obtain⟨rows',e2,h2⟩:=KZ (c0:=c0) (c1:=c1) (c2:=c2) (c3:=c3) (c4:=c4) (c5:=c5) (c6:=c6) (ms:=ms) q1 (λz=>hy (.inr z)) q2 h1 hp pl.sh;exact⟨rows',d,_,_,pre _ e2,h2,λz=>absurd z (by decide)⟩
theorem K0(M:Ms ms)(hP:∀u∈P,Sh u)(hn:n<P.length)(hp:P.length<=50):∃rows d,kn [.lst (P.map D.str),.int (n:Nat),.str ms,CL c0 c1 c2 c3 c4 c5 c6]=ja (.tup [.lst (rows.map D.str),.int (d:Nat)])/\fK P n rows d:=by
 obtain⟨r0,d0,y7,y8,e1,h1,l1⟩:=Ao (c0:=c0) (c1:=c1) (c2:=c2) (c3:=c3) (c4:=c4) (c5:=c5) (c6:=c6) (d:=0) (x7:=none) (x8:=none) M (.inl ⟨rfl,rfl⟩) hP hn hp;obtain⟨r1,d1,z7,z8,e2,h2,_⟩:=Ao (c0:=c0) (c1:=c1) (c2:=c2) (c3:=c3) (c4:=c4) (c5:=c5) (c6:=c6) (x7:=y7) (x8:=y8) M (.inr ⟨rfl,h1,l1 rfl⟩) hP hn hp;have hj:1+c4 / 2 % 2=1\/1+c4 / 2 % 2=2:=by omega
 have hi:Y8 (Zb (aB aE (eC (.int 1)) (aB aK (aB aJ (aB aP (Za 3) (eC (.int 4))) (eC (.int 2))) (eC (.int 2)))) az) [ja (.lst (P.map D.str)),ja (.int (n:Nat)),ja (.str ms),ja (CL c0 c1 c2 c3 c4 c5 c6),ja (.lst (P.map D.str)),ja (.int 0),none,none,none]=ja (YC 0 1 (1+c4 / 2 % 2).toNat):=nZ (Zd ((Zq rfl (Yu (Xz rfl (by decide) (by decide)) rfl (by decide))).trans rfl) aC) (by omega) (by omega)
 have fin:∀(rows:al (al Nat))(d:Nat)(x6 x7 x8:am D),YY (Zw 6) km (YC 0 1 (1+c4 / 2 % 2).toNat) [ja (.lst (P.map D.str)),ja (.int (n:Nat)),ja (.str ms),ja (CL c0 c1 c2 c3 c4 c5 c6),ja (.lst (P.map D.str)),ja (.int 0),none,none,none]=ja (.nx [ja (.lst (P.map D.str)),ja (.int (n:Nat)),ja (.str ms),ja (CL c0 c1 c2 c3 c4 c5 c6),ja (.lst (rows.map D.str)),ja (.int (d:Nat)),x6,x7,x8])->kn [.lst (P.map D.str),.int (n:Nat),.str ms,CL c0 c1 c2 c3 c4 c5 c6]=ja (.tup [.lst (rows.map D.str),.int (d:Nat)]):=λrows d x6 x7 x8 e=>
  Ub rfl (((Zx (Zy (d:=.lst (P.map D.str)) ((YT (Zd rfl aC)).trans rfl))).trans ((Zx (Zy (d:=.int 0) rfl)).trans ((Zx (iQ hi e)).trans (Vf (UD (Zd rfl (Zd rfl aC)) (show 2<=1000 by decide)))))))
 rcases hj with hj|hj
 . rw [hj]at fin
   exact⟨r0,d0,fin r0 d0 _ _ _ ((JY rfl e1).trans rfl),h1⟩
 . rw [hj]at fin
   exact⟨r1,d1,fin r1 d1 _ _ _ ((JY rfl e1).trans ((JY rfl e2).trans rfl)),h2⟩
end
theorem Ap{m:Nat}:∀{l:al (al Nat)},(∀r∈l,r.length<=m)->(l.map yE).sum<=m*l.length
 | [],_=>jz _
 |x::l,h=>by
  have ih:=Ap (l:=l) λr hr=>h r (jq _ hr)
  have:=h x jr;rw [jy,WE,jh,Nat.mul_add];omega
theorem K1{c:Nat}{l:al (al Nat)}{m n:Nat}(h:∀r∈l,r.length<=m)(hn:l.length<=n)(hb:(m+1)*n<=100000):cc [c] [.lst (l.map D.str)]=ja (.str (Zr [c] l)):=by
 unfold cc;dsimp only;rw [Dl];dsimp only;have:=Ap h;have h3:(m+1)*l.length<=(m+1)*n:=Nat.mul_le_mul_left _ hn;rw [Nat.add_mul,Nat.one_mul]at h3;rw [if_pos (by rw [jo,qo];omega)]
theorem K2{α:EN->am (al D)}{δ:EN}{j:Int}(h:α δ=ja [.int 0,.int j,.int 7])(h1:0<=j)(h2:j<=1000000):Y8 α δ=ja (YC 0 7 (jZ 0 j 7).toNat):=by
 have hs:yv 0 j 7=true:=by
  unfold yv jZ;simp only [PySem.Builtin.Range.rangeFitsLong,jF,uG,decide_eq_true_eq,beq_iff_eq,show(7:Int)>0 by decide,if_true]
  split<;>omega
 unfold Y8;rw [h];dsimp only;rw [if_pos ⟨by omega,by omega,hs⟩]
theorem K3{i j:Nat}{ε:EN->am D}{δ:EN}{x y:D}(h:ε δ=ja (.tup [x,y])):Uw (Xd 2 (Yh i (Yh j bG))) ε δ=ja (.nx ((δ.set i (ja x)).set j (ja y))):=by
 unfold Uw;rw [h];rfl
theorem K5{i j k:Nat}{ε:EN->am D}{δ:EN}{x y z:D}(h:ε δ=ja (.tup [x,y,z])):Uw (Xd 3 (Yh i (Yh j (Yh k bG)))) ε δ=ja (.nx (((δ.set i (ja x)).set j (ja y)).set k (ja z))):=by
 unfold Uw;rw [h];rfl
abbrev K4(kd:al Nat):Prop:=PySem.PyData.strOk (tx kd)=je
def Due(rows:al (al Nat))(kd:al Nat)(num:Int):Prop:=(∀u∈rows,Sh u)/\rows.length<=60/\K4 kd/\X5 [.str (Zr [10] rows)]=ja (.tup [.str kd,.int num])
section
variable{ms w kd:al Nat}{pre mid rows:al (al Nat)}{t:al Nat}{n d:Nat}
theorem Pg.sh(G:Pg ms n pre t mid w kd):(∀u∈pre++t::mid,Sh u)/\(pre++t::mid).length<=20/\n<(pre++t::mid).length:=by
 obtain⟨rs,k,_⟩:=G.rl;have h1:=G.lp;have h2:=G.lm;refine⟨λu hu => ?_,by rw [jt,jh];omega,by rw [jt,jh];omega⟩;rcases qY.mp hu with hu|hu
 . exact(G.hp u hu).1
 . rcases jp.mp hu with rfl|hu
   . exact G.ht.1
   . exact k.told.2.1 u hu
theorem K6(M:Ms ms)(G:Pg ms n pre t mid w kd):Due (pre++t::mid) kd 0:=by
 obtain⟨g1,g2,_⟩:=G.sh;obtain⟨rs,k,l,h⟩:=G.rl;have hs:=λu hu=>(G.hp u hu).2
 refine⟨g1,by omega,?_⟩;rcases h with⟨rfl,rfl⟩|⟨W,rfl⟩
 . unfold eg gR
   cases hb:rs.all (R.okB w)&&decide (rs.length<=6)with
   |true=>exact⟨by decide +kernel,Kj M g1 (by omega) hs G.ht.2 k (by omega) hb⟩
   |false=>exact⟨by decide +kernel,Ki M g1 (by omega) hs G.ht.2 k (by omega) hb⟩
 . exact⟨by decide +kernel,Kh g1 (by omega) hs G.ht.2 k (by omega) W⟩
theorem K7(G:Pg ms n pre t mid w kd)(h:fK (pre++t::mid) n rows d):Due rows k7 d:=by
 obtain⟨g1,g2,_⟩:=G.sh;obtain⟨rs,k,l,_⟩:=G.rl;obtain⟨a,b,post,rfl,h1,rfl,pl,h4,h5⟩:=h;have lp:=G.lp;have hs:=λu hu=>(G.hp u hu).2
 have hl:((pre++t::mid).take a++b::post).length<=60:=by omega
 refine⟨h4,hl,by decide +kernel,Ag ?_⟩;rcases pl.or_ with⟨q1,v,vs,q2,q3⟩|⟨q1,q2,q3⟩
 . have e:(pre++t::mid).take a=pre.take a:=by rw [OX,show a-pre.length=0 by omega,List.take_zero,qh]
   have ea:(pre.take a).length=a:=by rw [jT];omega
   rw [e]at h4 hl ⊢;have:=Kc h4 (by omega) (λu hu=>hs u (qQ hu)) q2 q3;rw [ea]at this;exact this
 . have e:(pre++t::mid).take a=pre++t::mid.take (a-n-1):=by rw [OX,lp.1,show a-n=(a-n-1)+1 by omega,uH,qx (by omega),Nat.add_sub_cancel]
   rw [jt,jh]at h1;have ea:(mid.take (a-n-1)).length=a-n-1:=by rw [jT];omega
   obtain⟨ra,rb,er,k1,_⟩:=k.split (a-n-1);rw [e,qX,q5]at h4 hl ⊢
   have := Kd h4 (by omega) hs G.ht.2 k1 (by have:ra.length <= rs.length:=(by rw [er, jt];omega);omega) q2 q3
   rw [ea,lp.1,show n+1+(a-n-1)+1=a+1 by omega]at this;exact this
end
section
variable{ms w kd:al Nat}{pre mid rows:al (al Nat)}{t:al Nat}{n d:Nat}{c0 c1 c2 c3 c4 c5 c6 num:Int}{S x2 x6 x7 x9 x10:am D}
theorem K8(M:Ms ms)(G:Pg ms n pre t mid w kd):∃rows kd' num y9,zl [S,S,x2,ja (CL c0 c1 c2 c3 c4 c5 c6),ja (.str ms),ja (.lst ((pre++t::mid).map D.str)),x6,ja (.int (n:Nat)),ja (.tup [.str kd,.int 0]),x9,x10]=ja (.nx [S,S,x2,ja (CL c0 c1 c2 c3 c4 c5 c6),ja (.str ms),ja (.lst (rows.map D.str)),x6,ja (.int (n:Nat)),ja (.tup [.str kd',.int num]),y9,x10])/\Due rows kd' num:=by
 obtain⟨g1,g2,g3⟩:=G.sh;have ht:xB (aB bA (aB aK (aB aP (Za 3) (eC (.int 4))) (eC (.int 2))) (eC (.int 1))) [S,S,x2,ja (CL c0 c1 c2 c3 c4 c5 c6),ja (.str ms),ja (.lst ((pre++t::mid).map D.str)),x6,ja (.int (n:Nat)),ja (.tup [.str kd,.int 0]),x9,x10]=ja (decide (c4 % 2=1)):=X7 (Yu rfl rfl (by decide))
 by_cases hc:c4 % 2=1
 . rw [decide_eq_true hc]at ht
   obtain⟨rows,d,e,h⟩:=K0 (c0:=c0) (c1:=c1) (c2:=c2) (c3:=c3) (c4:=c4) (c5:=c5) (c6:=c6) M g1 g3 (by omega);refine⟨rows,k7,(d:Nat),_,(VC ht).trans ((Zx (K3 ((Yy (Zd rfl (Zd rfl (Zd rfl (Zd rfl aC)))) rfl).trans e))).trans ((Zy (UD (Zd rfl (Zd rfl aC)) (show 2<=1000 by decide))).trans rfl)),K7 G h⟩
 . rw [decide_eq_false hc]at ht
   exact⟨pre++t::mid,kd,0,x9,(YK ht).trans rfl,K6 M G⟩
theorem K9:∀u∈([[],[32,35],[35,32,109,97,114,107,115,32,48,49],[32,32]]:al (al Nat)),Sh u/\Zs u=[]:=by
 intro u hu;simp only [jp,jH,or_false]at hu;rcases hu with rfl|rfl|rfl|rfl<;>exact⟨⟨by decide,by decide⟩,by decide⟩
theorem La{R0:al (al Nat)}(h:Due R0 kd num):∃rows kd' num',zm [S,S,x2,ja (CL c0 c1 c2 c3 c4 c5 c6),ja (.str ms),ja (.lst (R0.map D.str)),x6,x7,ja (.tup [.str kd,.int num]),x9,x10]=ja (.nx [S,S,x2,ja (CL c0 c1 c2 c3 c4 c5 c6),ja (.str ms),ja (.lst (rows.map D.str)),x6,x7,ja (.tup [.str kd',.int num']),x9,x10])/\Due rows kd' num':=by
 have ht:xB (aB bA (aB aK (aB aP (Za 3) (eC (.int 4))) (eC (.int 14))) (eC (.int 2))) [S,S,x2,ja (CL c0 c1 c2 c3 c4 c5 c6),ja (.str ms),ja (.lst (R0.map D.str)),x6,x7,ja (.tup [.str kd,.int num]),x9,x10]=ja (decide (c4 % 14=2)):=X7 (Yu rfl rfl (by decide))
 by_cases hc:c4 % 14=2
 . rw [decide_eq_true hc]at ht
   obtain⟨n,hn⟩:∃n:Nat,c5 % 5=(n:Int):=⟨(c5 % 5).toNat,by omega⟩
   have e7:aB aK (aB aP (Za 3) (eC (.int 5))) (eC (.int 5)) [S,S,x2,ja (CL c0 c1 c2 c3 c4 c5 c6),ja (.str ms),ja (.lst (R0.map D.str)),x6,x7,ja (.tup [.str kd,.int num]),x9,x10]=ja (.int (n:Nat)):=(Yu rfl rfl (by decide)).trans (by rw [<-hn]);have hs:=λu hu=>K9 u (qQ (i:=n) hu)
   have hl:(([[],[32,35],[35,32,109,97,114,107,115,32,48,49],[32,32]]:al (al Nat)).take n).length<=4:=by rw [jT];exact Wj _ _
   refine⟨([[],[32,35],[35,32,109,97,114,107,115,32,48,49],[32,32]]:al (al Nat)).take n,k7,1,(VC ht).trans ((Zx (Zy (rm (Xq (Zd rfl (Zd rfl (Zd rfl (Zd rfl aC)))) (show 4<=1000 by decide)) e7))).trans ((Zy (UD (Zd rfl (Zd rfl aC)) (show 2<=1000 by decide))).trans ?_)),λu hu=>(hs u hu).1,by omega,by decide +kernel,Ag (Kb (λu hu=>(hs u hu).1) (by omega) λu hu=>(hs u hu).2)⟩
   rw [yK];rfl
 . rw [decide_eq_false hc]at ht
   exact⟨R0,kd,num,(YK ht).trans rfl,h⟩
theorem Lb{r:am D}(hk:K4 kd):zn [S,S,x2,x6,ja (.str ms),r,x7,x9,ja (.tup [.str kd,.int num]),x10,ja (.tup [.str kd,.int num])]=ja (.nx [S,S,x2,x6,ja (.str ms),r,x7,x9,ja (.tup [.str kd,.int num]),x10,ja (.tup [.str kd,.int num])]):=by
 have e1:aB aP (Za 10) (eC (.int 1)) [S,S,x2,x6,ja (.str ms),r,x7,x9,ja (.tup [.str kd,.int num]),x10,ja (.tup [.str kd,.int num])]=ja (.int num):=(Zq rfl rfl).trans (cS (a:=1) rfl);exact(YK (UC (nW (Yt (n5 e1 (b:=je) rfl))) (UC (Yt (n5 e1 (b:=jj) rfl)) (Yt ((Zq rfl rfl).trans (xR rfl (by simp [PySem.SeqAt.shaped,cI,Up,PySem.PyData.canLay0,PySem.PyData.canLayAll0,PySem.PyData.depth,PySem.PyData.depthAll];exact hk))))))).trans rfl
theorem Lc(ns:al Int)(k:Nat)(x3 x4 x5 x6 x7 x8 x9 x10:am D):∃y3 y4 y5 y6 y7 y8 y9 y10,pM [ja (.lst (ns.map D.int)),ja (.lst (ns.map D.int)),ja (.int (k:Nat)),x3,x4,x5,x6,x7,x8,x9,x10]=ja (.nx [ja (.lst (ns.map D.int)),ja (.lst (ns.map D.int)),ja (.int (k:Nat)),y3,y4,y5,y6,y7,y8,y9,y10]):=by
 generalize hc:(λj=>ns.getD (k+j) 0)=cf
 have e3:Yr (Y8 (Zb (eC (.int 7)) az)) (Zw 0) (λ_=>ja je) (Zi 2 U8 [] (Zb (Za 1) (Zb (aB aE (Za 2) (Za 0)) az))) 1 [1,2] [ja (.lst (ns.map D.int)),ja (.lst (ns.map D.int)),ja (.int (k:Nat)),x3,x4,x5,x6,x7,x8,x9,x10]=ja (CL (cf 0) (cf 1) (cf 2) (cf 3) (cf 4) (cf 5) (cf 6)):=by
  have hr:Y8 (Zb (eC (.int 7)) az) [ja (.lst (ns.map D.int)),ja (.lst (ns.map D.int)),ja (.int (k:Nat)),x3,x4,x5,x6,x7,x8,x9,x10]=ja ((qG 7).map λk => .int (k:Nat)):=by
   rw [<-Aj];exact nZ (j:=7) (Zd rfl aC) (by decide) (by decide)
  have hcomp:YD (Zw 0) (λ_=>ja je) (Zi 2 U8 [] (Zb (Za 1) (Zb (aB aE (Za 2) (Za 0)) az))) [none,ja (.lst (ns.map D.int)),ja (.int (k:Nat))] ((qG 7).map λk => .int (k:Nat))=ja ((qG 7).map λj => .int (cf j)):=by
   rw [iN (λd=>match d with | .int j => .int (cf j.toNat)|_ => .non)]
   . rw [qM]
     rfl
   . intro x hx
     obtain⟨j,hj,rfl⟩:=qf.mp hx;refine⟨_,rfl,(Yy (ds:=[.lst (ns.map D.int),.int ((k+j:Nat):Int)]) (Zd rfl (Zd ((Zq rfl rfl).trans ?_) aC)) rfl).trans ((Ic ns (k+j)).trans ?_)⟩
     . show ja (D.int ((k:Int)+(j:Int)))=_
       rw [Int.natCast_add]
     . rw [<-hc]
       rfl
  exact VD hr rfl hcomp (show 7<=1000000 by decide)
 generalize cf 0=c0 at e3;generalize cf 1=c1 at e3;generalize cf 2=c2 at e3;generalize cf 3=c3 at e3;generalize cf 4=c4 at e3;generalize cf 5=c5 at e3;generalize cf 6=c6 at e3;clear hc;generalize hS:D.lst (ns.map D.int)=S at e3;have M:=Ir (c0 / 4);have e4:Zi 1 JI [] (Zb (aB aJ (aB aP (Za 3) (eC (.int 0))) (eC (.int 4))) az) [ja S,ja S,ja (.int (k:Nat)),ja (CL c0 c1 c2 c3 c4 c5 c6),x4,x5,x6,x7,x8,x9,x10]=ja (.str (VL (c0 / 4))):=(Yy (Zd (Xz rfl (by decide) (by decide)) aC) rfl).trans (Il _)
 generalize VL (c0 / 4)=ms at M e4;obtain⟨pre,t,mid,w,kd,e5,G⟩:=KS M c0 c1 c2 c3 c4 c5 c6;obtain⟨rows,kd1,num1,y9,e6,d1⟩:=K8 (c0:=c0) (c1:=c1) (c2:=c2) (c3:=c3) (c4:=c4) (c5:=c5) (c6:=c6) (S:=ja S) (x2:=ja (.int (k:Nat))) (x6:=ja (.str kd)) (x9:=x9) (x10:=x10) M G;obtain⟨rows,kd2,num2,e7,d2⟩:=La (c0:=c0) (c1:=c1) (c2:=c2) (c3:=c3) (c4:=c4) (c5:=c5) (c6:=c6) (ms:=ms) (S:=ja S) (x2:=ja (.int (k:Nat))) (x6:=ja (.str kd)) (x7:=ja (.int (pre.length:Nat))) (x9:=y9) (x10:=x10) d1
 have ej:bH cc (eC (.str [10])) (Zb (Za 5) az) [ja S,ja S,ja (.int (k:Nat)),ja (CL c0 c1 c2 c3 c4 c5 c6),ja (.str ms),ja (.lst (rows.map D.str)),ja (.str kd),ja (.int (pre.length:Nat)),ja (.tup [.str kd2,.int num2]),y9,x10]=ja (.str (Zr [10] rows)):=(n4 rfl (Zd rfl aC)).trans (K1 (m:=200) (n:=60) (λr hr=>(d2.1 r hr).2) d2.2.1 (by decide))
 exact⟨_,_,_,_,_,_,_,_,(Zx (Zy e3)).trans ((Zx (Zy e4)).trans ((Zx (K5 ((Yy (Zd rfl (Zd rfl aC)) rfl).trans e5))).trans ((Zx (Zy (UD (Zd rfl (Zd rfl aC)) (show 2<=1000 by decide)))).trans ((Zx e6).trans ((Zx e7).trans ((Zx (Zy ((Yy (Zd ej aC) rfl).trans d2.2.2.2))).trans (Lb d2.2.2.1)))))))⟩
end
theorem gS(ns:al Int)(hn:ns.length<=63):ko [.lst (ns.map D.int)]=ja (.bl je):=by
 have hcut:bq (Za 0) aS (xP (eC (.int 140))) [ja (.lst (ns.map D.int)),none,none,none,none,none,none,none,none,none,none]=ja (.lst (ns.map D.int)):=by
  show ja (D.lst (bB (ns.map D.int) none (ja ((140:Nat):Int))))=_;rw [QU,qx (by rw [jk];omega)]
 have hlen:aB aE (aU aM (Zb (Za 1) az)) (eC (.int 1)) [ja (.lst (ns.map D.int)),ja (.lst (ns.map D.int)),none,none,none,none,none,none,none,none,none]=ja (.int ((ns.map D.int).length+1)):=(Zq (x:=.int (ns.map D.int).length) rfl rfl).trans rfl;have hr:=K2 (α:=Zb (eC (.int 0)) (Zb (aB aE (aU aM (Zb (Za 1) az)) (eC (.int 1))) (Zb (eC (.int 7)) az))) (Zd rfl (Zd hlen (Zd rfl aC))) (by omega) (by rw [jk];omega)
 obtain⟨δ',h1,x2,x3,x4,x5,x6,x7,x8,x9,x10,hδ'⟩:=xQ (γ:=Zw 2) (φ:=pM) (λδ=>∃x2 x3 x4 x5 x6 x7 x8 x9 x10,δ=[ja (.lst (ns.map D.int)),ja (.lst (ns.map D.int)),x2,x3,x4,x5,x6,x7,x8,x9,x10]) (YC 0 7 (jZ 0 ((ns.map D.int).length+1) 7).toNat) [ja (.lst (ns.map D.int)),ja (.lst (ns.map D.int)),none,none,none,none,none,none,none,none,none] ⟨_,_,_,_,_,_,_,_,_,rfl⟩ λd hd δ ⟨x2,x3,x4,x5,x6,x7,x8,x9,x10,hδ⟩=>by
  subst hδ;obtain⟨i,hi,rfl⟩:=xI hd;obtain⟨y3,y4,y5,y6,y7,y8,y9,y10,hz⟩:=Lc ns (i*7) x3 x4 x5 x6 x7 x8 x9 x10;have ei:(0:Int)+(i:Nat)*7=((i*7:Nat):Int):=by omega
  rw [ei];exact⟨_,rfl,_,hz,_,_,_,_,_,_,_,_,_,rfl⟩
 exact Ub rfl (((Zx (Zy hcut)).trans ((Zx (iQ hr h1)).trans (Vf rfl))))
end K11
namespace K11
open PySem PySem.Spec L2 DL
def le(K:jb):Sp:=λvs H Q _=>∃(a:jf) (ns:al Int),vs=[.ref a]/\bv K H a (ns.map V.int)/\ns.length<=63/\∀H',Q (.bl je) H'
theorem Ld(hall:∀ns:al Int,ns.length<=63->ko [.lst (ns.map D.int)]=ja (.bl je)){K:jb}{t:gy}(T:Txt w K mg t):aO P w K mg base bF 8 t.a_Q8 t.d_Q8 ["script"] (le K):=
 (HX T).imp λvs H Q E ⟨a,ns,hv,hr,hl,q⟩=>by
   subst hv;refine⟨λ_=>False,[.lst (ns.map D.int)],.bl je,λ_ z=>z.elim,.cons ?_ .nil,rfl,hall ns hl,λv H' _ r => ?_⟩
   . unfold Rep
     refine⟨a,_,rfl,λz=>z.elim,hr,?_⟩;have:=aD.of_vals (cA:=⟨t.c,K,be⟩) (av:=λ_=>False) (H:=H) (xs:=ns.map D.int) (by rw [yV];exact jR.mpr λ_ _=>rfl);rw [qM]at this;exact this
   . cases(show v=_ from r)
     exact q H'
theorem rn (hall:∀ns:al Int,ns.length<=63->ko [.lst (ns.map D.int)]=ja (.bl je)) {l:OS} {w:jV} {K:jb} {h:jX} {mg:Str->am jc} (X:K.In h) (G:h.Ns mainGlobals mg) (hfa:mg "law" = ja (.ref fa)) {od6 an6:am jf} {sl6:Array (am jc)} {oc6 kV6 dc6 pm6 cd6 ct6:jc} {do6:Obj} {dn6:Nat} {od17 an17:am jf} {sl17:Array (am jc)} {oc17 kV17 dc17 pm17 cd17 ct17:jc} {od18 an18:am jf} {sl18:Array (am jc)} {oc18 kV18 dc18 pm18 cd18 ct18:jc} {od19 an19:am jf} {sl19:Array (am jc)} {oc19 kV19 dc19 pm19 cd19 ct19:jc} {od20 an20:am jf} {sl20:Array (am jc)} {oc20 kV20 dc20 pm20 cd20 ct20:jc} {od21 an21:am jf} {sl21:Array (am jc)} {oc21 kV21 dc21 pm21 cd21 ct21:jc}
 {pt0 cn0:jf} {odc0:am jf} {vsc0:Array jc} {slc0:Array (am jc)} {flg0 txl0:Int} {inf0:Bool}
 {pt1 cn1:jf} {odc1:am jf} {vsc1:Array jc} {slc1:Array (am jc)} {flg1 txl1:Int} {inf1:Bool}
 {pt2 cn2:jf} {odc2:am jf} {vsc2:Array jc} {slc2:Array (am jc)} {flg2 txl2:Int} {inf2:Bool}
 {pt3 cn3:jf} {odc3:am jf} {vsc3:Array jc} {slc3:Array (am jc)} {flg3 txl3:Int} {inf3:Bool}
 {pt4 cn4:jf} {odc4:am jf} {vsc4:Array jc} {slc4:Array (am jc)} {flg4 txl4:Int} {inf4:Bool}
 {bm:jf} {slm:Array (am jc)}
 {am_MAKERS:jf} {nm_MAKERS:Nat} {xm0 xm1 xm2 xm3 xm4:Str} {tm0 tm1 tm2 tm3 tm4:Nat}
 {x_MARK_SIGNS:Str}
 {x_FIGURES:Str}
 (ZtT:nsIn K mainGlobals "Rule" = ja (ja (.ref c_Rule)))
 (ZtQ:nsIn K mainGlobals "Gap" = ja (ja (.ref c_Gap)))
 (ZtS:nsIn K mainGlobals "Never" = ja (ja (.ref c_Never)))
 (ZtU:nsIn K mainGlobals "Sum" = ja (ja (.ref c_Sum)))
 (ZtV:nsIn K mainGlobals "Turn" = ja (ja (.ref c_Turn)))
 (ZtL:nsIn K mainGlobals "Alike" = ja (ja (.ref c_Alike)))
 (ZtM:nsIn K mainGlobals "All" = ja (ja (.ref c_All)))
 (ZtR:nsIn K mainGlobals "GrooveError" = ja (ja (.ref c_GrooveError)))
 (ZtN:nsIn K mainGlobals "BadMarks" = ja (ja (.ref c_BadMarks)))
 (ZtP:nsIn K mainGlobals "BadRule" = ja (ja (.ref c_BadRule)))
 (ZtO:nsIn K mainGlobals "BadRow" = ja (ja (.ref c_BadRow)))
 (a0:jm K (.ref c_BadRow) "__init__" = ja (ja (.ref f0)))
 (l0:dI K "__init__" "BadRow.__init__" kq f0 d0)
 (l1:Fg K "marks_stand" JJ f1 d1)
 (l2:Fg K "is_mark" kt f2 d2)
 (l3:Fg K "is_whole" ku f3 d3)
 (l4:Fg K "demand" kx f4 d4)
 (a5:jm K (.ref c_Rule) "__init__" = ja (ja (.ref f5)))
 (l5:dI K "__init__" "Rule.__init__" ky f5 d5)
 (a6:jm K (.ref c_Gap) "__init__" = ja (ja (.ref f6)))
 (l6:K.lookup f6=ja ⟨oc6,od6,.func (fnOf "__init__" "Gap.__init__" (ba Uf) (aN Uf) (aA Uf) (.ref dt6) kV6 dc6 pm6 an6 cd6 ct6),sl6⟩)
 (c6:codeIn K cd6 "Gap.__init__" = je)
 (k6:jM K (.ref f6)=je)
 (y6:K.lookup dt6=ja do6)
 (yd6:do6.data = .seq ([.none]:al jc).toArray dn6)
 (a7:jm K (.ref c_Never) "__init__" = ja (ja (.ref f7)))
 (l7:dI K "__init__" "Never.__init__" JK f7 d7)
 (a8:jm K (.ref c_Sum) "__init__" = ja (ja (.ref f8)))
 (l8:dI K "__init__" "Sum.__init__" JL f8 d8)
 (a9:jm K (.ref c_Turn) "__init__" = ja (ja (.ref f9)))
 (l9:dI K "__init__" "Turn.__init__" kz f9 d9)
 (a10:jm K (.ref c_Alike) "__init__" = ja (ja (.ref f10)))
 (l10:dI K "__init__" "Alike.__init__" kB f10 d10)
 (a11:jm K (.ref c_All) "__init__" = ja (ja (.ref f11)))
 (l11:dI K "__init__" "All.__init__" QO f11 d11)
 (l12:Fg K "words_in" JM f12 d12)
 (l13:Fg K "rows_of" kC f13 d13)
 (l14:Fg K "whole_in" JN f14 d14)
 (l15:Fg K "number_in" kD f15 d15)
 (l16:Fg K "signed_in" kE f16 d16)
 (a17:nsIn K mainGlobals "gap_maker" = ja (ja (.ref f17)))
 (l17:K.lookup f17=ja ⟨oc17,od17,.func (fnOf "gap_maker" "gap_maker" (ba Vi) (aN Vi) (aA Vi) .none kV17 dc17 pm17 an17 cd17 ct17),sl17⟩)
 (c17:codeIn K cd17 "gap_maker" = je)
 (k17:jM K (.ref f17)=je)
 (a18:nsIn K mainGlobals "never_maker" = ja (ja (.ref f18)))
 (l18:K.lookup f18=ja ⟨oc18,od18,.func (fnOf "never_maker" "never_maker" (ba Vj) (aN Vj) (aA Vj) .none kV18 dc18 pm18 an18 cd18 ct18),sl18⟩)
 (c18:codeIn K cd18 "never_maker" = je)
 (k18:jM K (.ref f18)=je)
 (a19:nsIn K mainGlobals "sum_maker" = ja (ja (.ref f19)))
 (l19:K.lookup f19=ja ⟨oc19,od19,.func (fnOf "sum_maker" "sum_maker" (ba X6) (aN X6) (aA X6) .none kV19 dc19 pm19 an19 cd19 ct19),sl19⟩)
 (c19:codeIn K cd19 "sum_maker" = je)
 (k19:jM K (.ref f19)=je)
 (a20:nsIn K mainGlobals "turn_maker" = ja (ja (.ref f20)))
 (l20:K.lookup f20=ja ⟨oc20,od20,.func (fnOf "turn_maker" "turn_maker" (ba Vk) (aN Vk) (aA Vk) .none kV20 dc20 pm20 an20 cd20 ct20),sl20⟩)
 (c20:codeIn K cd20 "turn_maker" = je)
 (k20:jM K (.ref f20)=je)
 (a21:nsIn K mainGlobals "alike_maker" = ja (ja (.ref f21)))
 (l21:K.lookup f21=ja ⟨oc21,od21,.func (fnOf "alike_maker" "alike_maker" (ba Vl) (aN Vl) (aA Vl) .none kV21 dc21 pm21 an21 cd21 ct21),sl21⟩)
 (c21:codeIn K cd21 "alike_maker" = je)
 (k21:jM K (.ref f21)=je)
 (l22:Fg K "rule_maker" kF f22 d22)
 (l23:Fg K "marks_told" kG f23 d23)
 (l24:Fg K "read_rules" JO f24 d24)
 (l25:Fg K "_law_cell_at" kH f25 d25)
 (l26:Fg K "_law_marks" JP f26 d26)
 (l27:Fg K "_law_asked" kI f27 d27)
 (l28:Fg K "_law_bad_row" kJ f28 d28)
 (l29:Fg K "_law_other" JQ f29 d29)
 (l30:Fg K "_law_bad_rule" kK f30 d30)
 (l31:Fg K "_law_good_rows" JR f31 d31)
 (l32:Fg K "_law_page" kL f32 d32)
 (l33:Fg K "_law_spoilt" kM f33 d33)
 (l34:Fg K "law" JS f34 d34)
 (ZsB:cd17 = .ref cn0)
 (Zsw:K.lookup cn0=ja ⟨.type "code",odc0,.fields vsc0,slc0⟩)
 (ZsG:vsc0[11]? = ja (.ref pt0))
 (ZsL:vsc0[18]? = ja (.str fln0 tkf0))
 (ZsQ:vsc0[7]? = ja (.int flg0 tkg0))
 (ZsV:vsc0[9]? = ja (.bool inf0))
 (Zs0:vsc0[10]? = ja (.int txl0 tkt0))
 (Zsr:cn0≠pt0)
 (nt_0:(pt0,("gap_maker.<locals>.<lambda>" : Str))∈YV K)
 (ZsC:cd18 = .ref cn1)
 (Zsx:K.lookup cn1=ja ⟨.type "code",odc1,.fields vsc1,slc1⟩)
 (ZsH:vsc1[11]? = ja (.ref pt1))
 (ZsM:vsc1[18]? = ja (.str fln1 tkf1))
 (ZsR:vsc1[7]? = ja (.int flg1 tkg1))
 (ZsW:vsc1[9]? = ja (.bool inf1))
 (Zs1:vsc1[10]? = ja (.int txl1 tkt1))
 (Zss:cn1≠pt1)
 (nt_1:(pt1,("never_maker.<locals>.<lambda>" : Str))∈YV K)
 (ZsD:cd19 = .ref cn2)
 (Zsy:K.lookup cn2=ja ⟨.type "code",odc2,.fields vsc2,slc2⟩)
 (ZsI:vsc2[11]? = ja (.ref pt2))
 (ZsN:vsc2[18]? = ja (.str fln2 tkf2))
 (ZsS:vsc2[7]? = ja (.int flg2 tkg2))
 (ZsX:vsc2[9]? = ja (.bool inf2))
 (Zs2:vsc2[10]? = ja (.int txl2 tkt2))
 (Zst:cn2≠pt2)
 (nt_2:(pt2,("sum_maker.<locals>.<lambda>" : Str))∈YV K)
 (ZsE:cd20 = .ref cn3)
 (Zsz:K.lookup cn3=ja ⟨.type "code",odc3,.fields vsc3,slc3⟩)
 (ZsJ:vsc3[11]? = ja (.ref pt3))
 (ZsO:vsc3[18]? = ja (.str fln3 tkf3))
 (ZsT:vsc3[7]? = ja (.int flg3 tkg3))
 (ZsY:vsc3[9]? = ja (.bool inf3))
 (Zs3:vsc3[10]? = ja (.int txl3 tkt3))
 (Zsu:cn3≠pt3)
 (nt_3:(pt3,("turn_maker.<locals>.<lambda>" : Str))∈YV K)
 (ZsF:cd21 = .ref cn4)
 (ZsA:K.lookup cn4=ja ⟨.type "code",odc4,.fields vsc4,slc4⟩)
 (ZsK:vsc4[11]? = ja (.ref pt4))
 (ZsP:vsc4[18]? = ja (.str fln4 tkf4))
 (ZsU:vsc4[7]? = ja (.int flg4 tkg4))
 (ZsZ:vsc4[9]? = ja (.bool inf4))
 (Zs4:vsc4[10]? = ja (.int txl4 tkt4))
 (Zsv:cn4≠pt4)
 (nt_4:(pt4,("alike_maker.<locals>.<lambda>" : Str))∈YV K)
 (nk8_:nsIn K mainGlobals "__builtins__" = ja (ja (.ref bm)))
 (nk9_:K.lookup bm=ja ⟨.type "module",ja builtinsNs,.plain,slm⟩)
 (Zsq:bm≠builtinsNs)
 (Zqr:nsIn K mainGlobals "MAKERS" = ja (ja (.ref am_MAKERS)))
 (ZpY:K.lookup am_MAKERS=ja ⟨.type "dict",none,.dict ([⟨q9 w.params xm0,.str xm0 tm0,.ref f17⟩,⟨q9 w.params xm1,.str xm1 tm1,.ref f18⟩,⟨q9 w.params xm2,.str xm2 tm2,.ref f19⟩,⟨q9 w.params xm3,.str xm3 tm3,.ref f20⟩,⟨q9 w.params xm4,.str xm4 tm4,.ref f21⟩]:al DictEntry).toArray nm_MAKERS,#[]⟩)
 (Ztv:xm0=tx [103,97,112])
 (Ztw:xm1=tx [110,101,118,101,114])
 (Ztx:xm2=tx [115,117,109])
 (Zty:xm3=tx [116,117,114,110])
 (Ztz:xm4=tx [97,108,105,107,101])
 (Zs5:(am_MAKERS == sysModules)=jj)
 (ZtZ:nsIn K mainGlobals "ValueError" = ja none)
 (Zt0:nsIn K mainGlobals "all" = ja none)
 (Zt1:nsIn K mainGlobals "any" = ja none)
 (Zt2:nsIn K mainGlobals "bool" = ja none)
 (Zt3:nsIn K mainGlobals "enumerate" = ja none)
 (Zt4:nsIn K mainGlobals "int" = ja none)
 (Zt5:nsIn K mainGlobals "isinstance" = ja none)
 (Zt6:nsIn K mainGlobals "len" = ja none)
 (Zt7:nsIn K mainGlobals "list" = ja none)
 (Zt8:nsIn K mainGlobals "max" = ja none)
 (Zt9:nsIn K mainGlobals "min" = ja none)
 (Zua:nsIn K mainGlobals "range" = ja none)
 (Zub:nsIn K mainGlobals "str" = ja none)
 (Zuc:nsIn K mainGlobals "tuple" = ja none)
 (Zud:nsIn K mainGlobals "zip" = ja none)
 (Ztt:nsIn K mainGlobals "MARK_SIGNS" = ja (ja (.str x_MARK_SIGNS t_MARK_SIGNS)))
 (ZtA:x_MARK_SIGNS=tx aI)
 (Zts:nsIn K mainGlobals "FIGURES" = ja (ja (.str x_FIGURES t_FIGURES)))
 (Ztu:x_FIGURES=tx n6)
 (Zta:qO K c_Rule uO=je)
 (ZqD:qr K c_Rule=je)
 (Zth:qS K c_Rule=je)
 (Ztp:jm K (.ref c_Rule) "__setattr__" = ja (ja (.builtin "object.__setattr__")))
 (Zqw:jm K (.ref c_Rule) "__class__" = ja (ja (.builtin "object.__class__")))
 (ZqK:qE K c_Rule (.type "object")=ja je)
 (Zr4:yf K c_Rule=je)
 (ZrJ:jM K (.ref c_Rule)=je)
 (ZrX:jm K (.ref c_Rule) "__init__" = ja (ja (.ref f5)))
 (ZrQ:yB K (.ref f5)=je)
 (Zs8:qO K c_Gap uO=je)
 (ZqB:qr K c_Gap=je)
 (Ztf:qS K c_Gap=je)
 (Ztn:jm K (.ref c_Gap) "__setattr__" = ja (ja (.builtin "object.__setattr__")))
 (Zqu:jm K (.ref c_Gap) "__class__" = ja (ja (.builtin "object.__class__")))
 (ZqI:qE K c_Gap (.type "object")=ja je)
 (Zr2:yf K c_Gap=je)
 (ZrH:jM K (.ref c_Gap)=je)
 (ZrV:jm K (.ref c_Gap) "__init__" = ja (ja (.ref f6)))
 (ZrO:yB K (.ref f6)=je)
 (Zs9:qO K c_Never uO=je)
 (ZqC:qr K c_Never=je)
 (Ztg:qS K c_Never=je)
 (Zto:jm K (.ref c_Never) "__setattr__" = ja (ja (.builtin "object.__setattr__")))
 (Zqv:jm K (.ref c_Never) "__class__" = ja (ja (.builtin "object.__class__")))
 (ZqJ:qE K c_Never (.type "object")=ja je)
 (Zr3:yf K c_Never=je)
 (ZrI:jM K (.ref c_Never)=je)
 (ZrW:jm K (.ref c_Never) "__init__" = ja (ja (.ref f7)))
 (ZrP:yB K (.ref f7)=je)
 (Ztb:qO K c_Sum uO=je)
 (ZqE:qr K c_Sum=je)
 (Zti:qS K c_Sum=je)
 (Ztq:jm K (.ref c_Sum) "__setattr__" = ja (ja (.builtin "object.__setattr__")))
 (Zqx:jm K (.ref c_Sum) "__class__" = ja (ja (.builtin "object.__class__")))
 (ZqL:qE K c_Sum (.type "object")=ja je)
 (Zr5:yf K c_Sum=je)
 (ZrK:jM K (.ref c_Sum)=je)
 (ZrY:jm K (.ref c_Sum) "__init__" = ja (ja (.ref f8)))
 (ZrR:yB K (.ref f8)=je)
 (Ztc:qO K c_Turn uO=je)
 (ZqF:qr K c_Turn=je)
 (Ztj:qS K c_Turn=je)
 (Ztr:jm K (.ref c_Turn) "__setattr__" = ja (ja (.builtin "object.__setattr__")))
 (Zqy:jm K (.ref c_Turn) "__class__" = ja (ja (.builtin "object.__class__")))
 (ZqM:qE K c_Turn (.type "object")=ja je)
 (Zr6:yf K c_Turn=je)
 (ZrL:jM K (.ref c_Turn)=je)
 (ZrZ:jm K (.ref c_Turn) "__init__" = ja (ja (.ref f9)))
 (ZrS:yB K (.ref f9)=je)
 (Zs6:qO K c_Alike uO=je)
 (Zqz:qr K c_Alike=je)
 (Ztd:qS K c_Alike=je)
 (Ztl:jm K (.ref c_Alike) "__setattr__" = ja (ja (.builtin "object.__setattr__")))
 (Zqs:jm K (.ref c_Alike) "__class__" = ja (ja (.builtin "object.__class__")))
 (ZqG:qE K c_Alike (.type "object")=ja je)
 (Zr0:yf K c_Alike=je)
 (ZrF:jM K (.ref c_Alike)=je)
 (ZrT:jm K (.ref c_Alike) "__init__" = ja (ja (.ref f10)))
 (ZrM:yB K (.ref f10)=je)
 (Zs7:qO K c_All uO=je)
 (ZqA:qr K c_All=je)
 (Zte:qS K c_All=je)
 (Ztm:jm K (.ref c_All) "__setattr__" = ja (ja (.builtin "object.__setattr__")))
 (Zqt:jm K (.ref c_All) "__class__" = ja (ja (.builtin "object.__class__")))
 (ZqH:qE K c_All (.type "object")=ja je)
 (Zr1:yf K c_All=je)
 (ZrG:jM K (.ref c_All)=je)
 (ZrU:jm K (.ref c_All) "__init__" = ja (ja (.ref f11)))
 (ZrN:yB K (.ref f11)=je)
 (hn_:yH K (.builtin "object.__class__") "__get__" = ja (ja (.builtin "getset_descriptor.__get__")))
 (htk_:OO K (.builtin "object.__class__")=ja je)
 (ZpZ:Oq K c_BadMarks eD "ValueError.__new__" = je)
 (ZtE:jM K (.ref c_BadMarks)=je)
 (Zp1:jm K (.ref c_BadMarks) "__getattribute__" = ja (ja (.builtin "BaseException.__getattribute__")))
 (Zqd:qE K c_BadMarks (.type "BaseException")=ja je)
 (Zp4:jm K (.ref c_BadMarks) "__getattr__" = ja none)
 (Zp7:jm K (.ref c_BadMarks) "__class__" = ja (ja (.builtin "object.__class__")))
 (Zqa:qE K c_BadMarks (.type "object")=ja je)
 (Zqg:(Os K c_BadMarks).isSome=je)
 (ZqW:ju K (.ref c_BadMarks) (.ref c_GrooveError)=ja je)
 (ZqX:ju K (.ref c_BadMarks) (.type "ValueError")=ja je)
 (ZqT:ju K (.ref c_BadMarks) (.ref c_BadMarks)=ja je)
 (ZqV:ju K (.ref c_BadMarks) (.ref c_BadRule)=ja jj)
 (ZqU:ju K (.ref c_BadMarks) (.ref c_BadRow)=ja jj)
 (Zp0:Oq K c_BadRule eD "ValueError.__new__" = je)
 (ZtG:jM K (.ref c_BadRule)=je)
 (Zp3:jm K (.ref c_BadRule) "__getattribute__" = ja (ja (.builtin "BaseException.__getattribute__")))
 (Zqf:qE K c_BadRule (.type "BaseException")=ja je)
 (Zp6:jm K (.ref c_BadRule) "__getattr__" = ja none)
 (Zp9:jm K (.ref c_BadRule) "__class__" = ja (ja (.builtin "object.__class__")))
 (Zqc:qE K c_BadRule (.type "object")=ja je)
 (Zqi:(Os K c_BadRule).isSome=je)
 (Zq6:ju K (.ref c_BadRule) (.ref c_GrooveError)=ja je)
 (Zq7:ju K (.ref c_BadRule) (.type "ValueError")=ja je)
 (Zq3:ju K (.ref c_BadRule) (.ref c_BadMarks)=ja jj)
 (Zq5:ju K (.ref c_BadRule) (.ref c_BadRule)=ja je)
 (Zq4:ju K (.ref c_BadRule) (.ref c_BadRow)=ja jj)
 (ZtB:U1 K c_BadRow=je)
 (ZtC:jm K (.ref c_BadRow) "__init__" = ja (ja (.ref f0)))
 (ZtD:yB K (.ref f0)=je)
 (ZtH:((Os K c_BadRow).any λcd=>QB cd.mro)=je)
 (ZtI:jm K (.ref c_BadRow) "__setattr__" = ja (ja (.builtin "object.__setattr__")))
 (ZtJ:jm K (.ref c_BadRow) (jE "row")=ja none)
 (ZtK:qr K c_BadRow=je)
 (ZtF:jM K (.ref c_BadRow)=je)
 (Zp2:jm K (.ref c_BadRow) "__getattribute__" = ja (ja (.builtin "BaseException.__getattribute__")))
 (Zqe:qE K c_BadRow (.type "BaseException")=ja je)
 (Zp5:jm K (.ref c_BadRow) "__getattr__" = ja none)
 (Zp8:jm K (.ref c_BadRow) "__class__" = ja (ja (.builtin "object.__class__")))
 (Zqb:qE K c_BadRow (.type "object")=ja je)
 (Zqh:(Os K c_BadRow).isSome=je)
 (Zq1:ju K (.ref c_BadRow) (.ref c_GrooveError)=ja je)
 (Zq2:ju K (.ref c_BadRow) (.type "ValueError")=ja je)
 (ZqY:ju K (.ref c_BadRow) (.ref c_BadMarks)=ja jj)
 (Zq0:ju K (.ref c_BadRow) (.ref c_BadRule)=ja jj)
 (ZqZ:ju K (.ref c_BadRow) (.ref c_BadRow)=ja je)
 (Zqo:qD K (.ref c_BadRule) (.ref c_BadRule)=ja je)
 (Zqj:qD K (.ref c_BadMarks) (.ref c_BadMarks)=ja je)
 (Zqm:qD K (.ref c_BadRule) (.ref c_BadMarks)=ja jj)
 (Zql:qD K (.ref c_BadRow) (.ref c_BadRow)=ja je)
 (Zqk:qD K (.ref c_BadMarks) (.ref c_BadRow)=ja jj)
 (Zqn:qD K (.ref c_BadRule) (.ref c_BadRow)=ja jj)
 (ZtW:yH K (.ref c_GrooveError) "__getattribute__" = ja (ja (.builtin "type.__getattribute__")))
 (ZtX:OQ K c_GrooveError (.type "type")=je)
 (ZtY:OR K (.ref c_GrooveError) (.type "type") "__init__" = ja (.val (.builtin "ValueError.__init__")))
 (Zsm:jm K (.ref c_Turn) "at" = ja none)
 (Zsn:jm K (.ref c_Turn) "every" = ja none)
 (Zsi:jm K (.ref c_Sum) "high" = ja none)
 (Zsb:jm K (.ref c_Gap) "least" = ja none)
 (Zsj:jm K (.ref c_Sum) "low" = ja none)
 (Zsc:jm K (.ref c_Gap) "mark" = ja none)
 (Zso:jm K (.ref c_Turn) "mark" = ja none)
 (Zsh:jm K (.ref c_Rule) "marks" = ja none)
 (Zsd:jm K (.ref c_Gap) "marks" = ja none)
 (Zsf:jm K (.ref c_Never) "marks" = ja none)
 (Zsk:jm K (.ref c_Sum) "marks" = ja none)
 (Zsp:jm K (.ref c_Turn) "marks" = ja none)
 (Zr7:jm K (.ref c_Alike) "marks" = ja none)
 (Zr9:jm K (.ref c_All) "marks" = ja none)
 (Zse:jm K (.ref c_Gap) "most" = ja none)
 (Zr8:jm K (.ref c_Alike) "most" = ja none)
 (Zsa:jm K (.ref c_All) "rules" = ja none)
 (Zsg:jm K (.ref c_Never) "word" = ja none)
 (Zsl:jm K (.ref c_Sum) "worths" = ja none)
 (Zqq:yH K (.ref c_Rule) "__getattribute__" = ja (ja (.builtin "type.__getattribute__")))
 (Ztk:OQ K c_Rule (.type "type")=je)
 (Zqp:OR K (.ref c_Rule) (.type "type") "__init__" = ja (.val (.ref f5)))
 (Zre:ju K (.type "NoneType") (.ref c_All)=ja jj)
 (Zrq:ju K (.type "bool") (.ref c_All)=ja jj)
 (Zrt:ju K (.type "int") (.ref c_All)=ja jj)
 (Zrz:ju K (.type "str") (.ref c_All)=ja jj)
 (Zrw:ju K (.type "list") (.ref c_All)=ja jj)
 (ZrC:ju K (.type "tuple") (.ref c_All)=ja jj)
 (Zrh:ju K (.ref c_Rule) (.ref c_All)=ja jj)
 (Zq8:ju K (.ref c_Gap) (.ref c_All)=ja jj)
 (Zrb:ju K (.ref c_Never) (.ref c_All)=ja jj)
 (Zrk:ju K (.ref c_Sum) (.ref c_All)=ja jj)
 (Zrn:ju K (.ref c_Turn) (.ref c_All)=ja jj)
 (ZqN:ju K (.ref c_Alike) (.ref c_All)=ja jj)
 (ZqQ:ju K (.ref c_All) (.ref c_All)=ja je)
 (Zrf:ju K (.type "NoneType") (.type "bool")=ja jj)
 (Zrr:ju K (.type "bool") (.type "bool")=ja je)
 (Zru:ju K (.type "int") (.type "bool")=ja jj)
 (ZrA:ju K (.type "str") (.type "bool")=ja jj)
 (Zrx:ju K (.type "list") (.type "bool")=ja jj)
 (ZrD:ju K (.type "tuple") (.type "bool")=ja jj)
 (Zri:ju K (.ref c_Rule) (.type "bool")=ja jj)
 (Zq9:ju K (.ref c_Gap) (.type "bool")=ja jj)
 (Zrc:ju K (.ref c_Never) (.type "bool")=ja jj)
 (Zrl:ju K (.ref c_Sum) (.type "bool")=ja jj)
 (Zro:ju K (.ref c_Turn) (.type "bool")=ja jj)
 (ZqO:ju K (.ref c_Alike) (.type "bool")=ja jj)
 (ZqR:ju K (.ref c_All) (.type "bool")=ja jj)
 (Zrg:ju K (.type "NoneType") (.type "int")=ja jj)
 (Zrs:ju K (.type "bool") (.type "int")=ja je)
 (Zrv:ju K (.type "int") (.type "int")=ja je)
 (ZrB:ju K (.type "str") (.type "int")=ja jj)
 (Zry:ju K (.type "list") (.type "int")=ja jj)
 (ZrE:ju K (.type "tuple") (.type "int")=ja jj)
 (Zrj:ju K (.ref c_Rule) (.type "int")=ja jj)
 (Zra:ju K (.ref c_Gap) (.type "int")=ja jj)
 (Zrd:ju K (.ref c_Never) (.type "int")=ja jj)
 (Zrm:ju K (.ref c_Sum) (.type "int")=ja jj)
 (Zrp:ju K (.ref c_Turn) (.type "int")=ja jj)
 (ZqP:ju K (.ref c_Alike) (.type "int")=ja jj)
 (ZqS:ju K (.ref c_All) (.type "int")=ja jj)
 : ∃fd:qI,(∀(s:jg)(v:jc),BindsTo s fd ⟨[v],[]⟩ [("script",v)])/\∀base:jX,K.In base->base.Ns mainGlobals mg->aO l.prog w K mg base bF 8 fa fd ["script"] (le K):=by
 cases hfa.symm.trans (ur X G l34.a);have F6:bu K "__init__" "Gap.__init__" Uf f6 _:=⟨_,_,_,_,_,_,_,_,_,_,rfl,l6,c6⟩
 have b6_0:Binds K _ ["self", "marks", "mark", "least", "most"] []:=tZ ["self", "marks", "mark", "least", "most"] (x:="__init__") (qual:="Gap.__init__") (st:=Uf) (kV:=kV6) (doc:=dc6) (pm:=pm6) (an:=an6) (cdv:=cd6) (ct:=ct6) y6 yd6 rfl λus hl=>match us,hl with|[_,_,_,_,_],_=>⟨_,rfl,rfl⟩
 have b6_1:Binds K _ ["self", "marks", "mark", "least", "most"] [.none]:=tZ ["self", "marks", "mark", "least"] (x:="__init__") (qual:="Gap.__init__") (st:=Uf) (kV:=kV6) (doc:=dc6) (pm:=pm6) (an:=an6) (cdv:=cd6) (ct:=ct6) y6 yd6 rfl λus hl=>match us,hl with|[_,_,_,_],_=>⟨_,rfl,rfl⟩
 have F17:bu K "gap_maker" "gap_maker" Vi f17 _:=(bL (st:=Vi) l17 c17 k17).x;have b17:=(bL (st:=Vi) l17 c17 k17).binds (ps:=["words"]) λ_ _ _ _ _ _ us hl=>match us,hl with|[_],_=>rfl
 have F18:bu K "never_maker" "never_maker" Vj f18 _:=(bL (st:=Vj) l18 c18 k18).x;have b18:=(bL (st:=Vj) l18 c18 k18).binds (ps:=["words"]) λ_ _ _ _ _ _ us hl=>match us,hl with|[_],_=>rfl
 have F19:bu K "sum_maker" "sum_maker" X6 f19 _:=(bL (st:=X6) l19 c19 k19).x;have b19:=(bL (st:=X6) l19 c19 k19).binds (ps:=["words"]) λ_ _ _ _ _ _ us hl=>match us,hl with|[_],_=>rfl
 have F20:bu K "turn_maker" "turn_maker" Vk f20 _:=(bL (st:=Vk) l20 c20 k20).x;have b20:=(bL (st:=Vk) l20 c20 k20).binds (ps:=["words"]) λ_ _ _ _ _ _ us hl=>match us,hl with|[_],_=>rfl
 have F21:bu K "alike_maker" "alike_maker" Vl f21 _:=(bL (st:=Vl) l21 c21 k21).x;have b21:=(bL (st:=Vl) l21 c21 k21).binds (ps:=["words"]) λ_ _ _ _ _ _ us hl=>match us,hl with|[_],_=>rfl
 have xv_BadMarks:br K c_BadMarks:=⟨Zp1,Zqd,Zp4,Zp7,hn_,htk_,Zqa,Zqg⟩
 have xv_BadRule:br K c_BadRule:=⟨Zp3,Zqf,Zp6,Zp9,hn_,htk_,Zqc,Zqi⟩
 have xv_BadRow:br K c_BadRow:=⟨Zp2,Zqe,Zp5,Zp8,hn_,htk_,Zqb,Zqh⟩
 have T:Txt w K mg ⟨f0,f1,f2,f3,f4,f5,f6,f7,f8,f9,f10,f11,f12,f13,f14,f15,f16,f17,f18,f19,f20,f21,f22,f23,f24,f25,f26,f27,f28,f29,f30,f31,f32,f33,fa,c_GrooveError,c_BadMarks,c_BadRule,c_BadRow,c_Rule,c_Gap,c_Never,c_Sum,c_Turn,c_Alike,c_All,cn0,pt0,cn1,pt1,cn2,pt2,cn3,pt3,cn4,pt4,am_MAKERS,d0,d1,d2,d3,d4,d5,_,d7,d8,d9,d10,d11,d12,d13,d14,d15,d16,_,_,_,_,_,d22,d23,d24,d25,d26,d27,d28,d29,d30,d31,d32,d33,d34,.str x_MARK_SIGNS t_MARK_SIGNS,.str x_FIGURES t_FIGURES⟩:=⟨l0.df,l1.dg X G l1.l.df,l2.dg X G l2.l.df,l3.dg X G l3.l.df,l4.dg X G l4.l.df,l5.df,F6,b6_0,b6_1,k6,l7.df,l8.df,l9.df,l10.df,l11.df,l12.dg X G l12.l.df,l13.dg X G l13.l.df,l14.dg X G l14.l.df,l15.dg X G l15.l.df,l16.dg X G l16.l.df,F17,b17,ur X G a17,k17,F18,b18,ur X G a18,k18,F19,b19,ur X G a19,k19,F20,b20,ur X G a20,k20,F21,b21,ur X G a21,k21,l22.dg X G l22.l.df,l23.dg X G l23.l.df,l24.dg X G l24.l.df,l25.dg X G l25.l.df,l26.dg X G l26.l.df,l27.dg X G l27.l.df,l28.dg X G l28.l.df,l29.dg X G l29.l.df,l30.dg X G l30.l.df,l31.dg X G l31.l.df,l32.dg X G l32.l.df,l33.dg X G l33.l.df,l34.dg X G l34.l.df,ZsB,Jp X G Zsw ZsG ZsL ZsQ ZsV Zs0 Zsr nk8_ nk9_ Zsq,nt_0,ZsC,Jp X G Zsx ZsH ZsM ZsR ZsW Zs1 Zss nk8_ nk9_ Zsq,nt_1,ZsD,Jp X G Zsy ZsI ZsN ZsS ZsX Zs2 Zst nk8_ nk9_ Zsq,nt_2,ZsE,Jp X G Zsz ZsJ ZsO ZsT ZsY Zs3 Zsu nk8_ nk9_ Zsq,nt_3,ZsF,Jp X G ZsA ZsK ZsP ZsU ZsZ Zs4 Zsv nk8_ nk9_ Zsq,nt_4,ur X G Zqr,(λP=>gv.of (n:=nm_MAKERS) (ts:=[tm0,tm1,tm2,tm3,tm4]) (by subst Ztv Ztw Ztx Zty Ztz;exact ZpY) rfl (show yR [tx [103,97,112],tx [110,101,118,101,114],tx [115,117,109],tx [116,117,114,110],tx [97,108,105,107,101]] by decide +kernel) Zs5),ye X G ZtZ,ye X G Zt0,ye X G Zt1,ye X G Zt2,ye X G Zt3,ye X G Zt4,ye X G Zt5,ye X G Zt6,ye X G Zt7,ye X G Zt8,ye X G Zt9,ye X G Zua,ye X G Zub,ye X G Zuc,ye X G Zud,ur X G Ztt,⟨_,by rw [ZtA]⟩,ur X G Zts,⟨_,by rw [Ztu]⟩,ur X G ZtT,⟨Zta,ZqD,Zth,Ztp⟩,⟨⟨Zta,ZqD,Zth,Ztp⟩,Zqw,hn_,htk_,ZqK⟩,⟨Zr4,ZrX,ZrQ,ZrJ⟩,ur X G ZtQ,⟨Zs8,ZqB,Ztf,Ztn⟩,⟨⟨Zs8,ZqB,Ztf,Ztn⟩,Zqu,hn_,htk_,ZqI⟩,⟨Zr2,ZrV,ZrO,ZrH⟩,ur X G ZtS,⟨Zs9,ZqC,Ztg,Zto⟩,⟨⟨Zs9,ZqC,Ztg,Zto⟩,Zqv,hn_,htk_,ZqJ⟩,⟨Zr3,ZrW,ZrP,ZrI⟩,ur X G ZtU,⟨Ztb,ZqE,Zti,Ztq⟩,⟨⟨Ztb,ZqE,Zti,Ztq⟩,Zqx,hn_,htk_,ZqL⟩,⟨Zr5,ZrY,ZrR,ZrK⟩,ur X G ZtV,⟨Ztc,ZqF,Ztj,Ztr⟩,⟨⟨Ztc,ZqF,Ztj,Ztr⟩,Zqy,hn_,htk_,ZqM⟩,⟨Zr6,ZrZ,ZrS,ZrL⟩,ur X G ZtL,⟨Zs6,Zqz,Ztd,Ztl⟩,⟨⟨Zs6,Zqz,Ztd,Ztl⟩,Zqs,hn_,htk_,ZqG⟩,⟨Zr0,ZrT,ZrM,ZrF⟩,ur X G ZtM,⟨Zs7,ZqA,Zte,Ztm⟩,⟨⟨Zs7,ZqA,Zte,Ztm⟩,Zqt,hn_,htk_,ZqH⟩,⟨Zr1,ZrU,ZrN,ZrG⟩,(by intro c hc;simp only [iR,jp,jH,or_false]at hc;rcases hc with rfl<;>first|exact⟨⟨Ztc,ZqF,Ztj,Ztr⟩,Zsm⟩),(by intro c hc;simp only [iS,jp,jH,or_false]at hc;rcases hc with rfl<;>first|exact⟨⟨Ztc,ZqF,Ztj,Ztr⟩,Zsn⟩),(by intro c hc;simp only [iT,jp,jH,or_false]at hc;rcases hc with rfl<;>first|exact⟨⟨Ztb,ZqE,Zti,Ztq⟩,Zsi⟩),(by intro c hc;simp only [QN,jp,jH,or_false]at hc;rcases hc with rfl<;>first|exact⟨⟨Zs8,ZqB,Ztf,Ztn⟩,Zsb⟩),(by intro c hc;simp only [iU,jp,jH,or_false]at hc;rcases hc with rfl<;>first|exact⟨⟨Ztb,ZqE,Zti,Ztq⟩,Zsj⟩),(by intro c hc;simp only [UE,jp,jH,or_false]at hc;rcases hc with rfl|rfl<;>first|exact⟨⟨Zs8,ZqB,Ztf,Ztn⟩,Zsc⟩|exact⟨⟨Ztc,ZqF,Ztj,Ztr⟩,Zso⟩),(by intro c hc;simp only [aY,jp,jH,or_false]at hc;rcases hc with rfl|rfl|rfl|rfl|rfl|rfl|rfl<;>first|exact⟨⟨Zta,ZqD,Zth,Ztp⟩,Zsh⟩|exact⟨⟨Zs8,ZqB,Ztf,Ztn⟩,Zsd⟩|exact⟨⟨Zs9,ZqC,Ztg,Zto⟩,Zsf⟩|exact⟨⟨Ztb,ZqE,Zti,Ztq⟩,Zsk⟩|exact⟨⟨Ztc,ZqF,Ztj,Ztr⟩,Zsp⟩|exact⟨⟨Zs6,Zqz,Ztd,Ztl⟩,Zr7⟩|exact⟨⟨Zs7,ZqA,Zte,Ztm⟩,Zr9⟩),(by intro c hc;simp only [UF,jp,jH,or_false]at hc;rcases hc with rfl|rfl<;>first|exact⟨⟨Zs8,ZqB,Ztf,Ztn⟩,Zse⟩|exact⟨⟨Zs6,Zqz,Ztd,Ztl⟩,Zr8⟩),(by intro c hc;simp only [iV,jp,jH,or_false]at hc;rcases hc with rfl<;>first|exact⟨⟨Zs7,ZqA,Zte,Ztm⟩,Zsa⟩),(by intro c hc;simp only [iW,jp,jH,or_false]at hc;rcases hc with rfl<;>first|exact⟨⟨Zs9,ZqC,Ztg,Zto⟩,Zsg⟩),(by intro c hc;simp only [iX,jp,jH,or_false]at hc;rcases hc with rfl<;>first|exact⟨⟨Ztb,ZqE,Zti,Ztq⟩,Zsl⟩),ur X G ZtR,ur X G ZtN,ZpZ,ZtE,ur X G ZtP,Zp0,ZtG,ur X G ZtO,(by intro c hc;simp only [jp,jH,or_false]at hc;rcases hc with rfl|rfl|rfl<;>first|exact xv_BadMarks|exact xv_BadRow|exact xv_BadRule),(by intro c hc;simp only [jp,jH,or_false]at hc;subst hc;exact Zqo),(λ_ z=>nomatch z),(by intro c hc;simp only [jp,jH,or_false]at hc;subst hc;exact Zqj),(by intro c hc;simp only [jp,jH,or_false]at hc;subst hc;exact Zqm),(by intro c hc;simp only [jp,jH,or_false]at hc;subst hc;exact Zql),(by intro c hc;simp only [jp,jH,or_false]at hc;rcases hc with rfl|rfl<;>first|exact Zqk|exact Zqn),JA (as:=[c_BadMarks,c_BadRule,c_BadRow]) (by rfl) (.cons xv_BadMarks (.cons xv_BadRule (.cons xv_BadRow .nil))) (.cons ZqW (.cons Zq6 (.cons Zq1 .nil))) (λ_ z=>z),JA (as:=[c_BadMarks,c_BadRule,c_BadRow]) (by rfl) (.cons xv_BadMarks (.cons xv_BadRule (.cons xv_BadRow .nil))) (.cons ZqX (.cons Zq7 (.cons Zq2 .nil))) (λ_ z=>z),JA (as:=[c_BadMarks,c_BadRule,c_BadRow]) (by rfl) (.cons xv_BadMarks (.cons xv_BadRule (.cons xv_BadRow .nil))) (.cons ZqT (.cons Zq3 (.cons ZqY .nil))) (λ_ z=>z),JA (as:=[c_BadMarks,c_BadRule,c_BadRow]) (by rfl) (.cons xv_BadMarks (.cons xv_BadRule (.cons xv_BadRow .nil))) (.cons ZqV (.cons Zq5 (.cons Zq0 .nil))) (λ_ z=>z),JA (as:=[c_BadMarks,c_BadRule,c_BadRow]) (by rfl) (.cons xv_BadMarks (.cons xv_BadRule (.cons xv_BadRow .nil))) (.cons ZqU (.cons Zq4 (.cons ZqZ .nil))) (λ_ z=>z),⟨ZtB,ZtC,ZtD,ZtF,ZtH,ZtI,ZtJ,ZtK⟩,⟨ZtW,ZtX,ZtY⟩,(by intro c hc;simp only [jp,jH,or_false]at hc;subst hc;exact⟨xv_BadRow,ZtK,ZtJ⟩),⟨Zqq,Ztk,Zqp,l5.kp⟩,mJ (by intro p hp;simp only [JB,jp,jH,or_false]at hp;rcases hp with rfl|rfl|rfl|rfl|rfl|rfl|rfl|rfl|rfl|rfl|rfl|rfl|rfl<;>first|exact Zre|exact Zrq|exact Zrt|exact Zrz|exact Zrw|exact ZrC|exact⟨Zrh,⟨Zta,ZqD,Zth,Ztp⟩,Zqw,hn_,htk_,ZqK⟩|exact⟨Zq8,⟨Zs8,ZqB,Ztf,Ztn⟩,Zqu,hn_,htk_,ZqI⟩|exact⟨Zrb,⟨Zs9,ZqC,Ztg,Zto⟩,Zqv,hn_,htk_,ZqJ⟩|exact⟨Zrk,⟨Ztb,ZqE,Zti,Ztq⟩,Zqx,hn_,htk_,ZqL⟩|exact⟨Zrn,⟨Ztc,ZqF,Ztj,Ztr⟩,Zqy,hn_,htk_,ZqM⟩|exact⟨ZqN,⟨Zs6,Zqz,Ztd,Ztl⟩,Zqs,hn_,htk_,ZqG⟩|exact⟨ZqQ,⟨Zs7,ZqA,Zte,Ztm⟩,Zqt,hn_,htk_,ZqH⟩),mJ (by intro p hp;simp only [JC,jp,jH,or_false]at hp;rcases hp with rfl|rfl|rfl|rfl|rfl|rfl|rfl|rfl|rfl|rfl|rfl|rfl|rfl<;>first|exact Zrf|exact Zrr|exact Zru|exact ZrA|exact Zrx|exact ZrD|exact⟨Zri,⟨Zta,ZqD,Zth,Ztp⟩,Zqw,hn_,htk_,ZqK⟩|exact⟨Zq9,⟨Zs8,ZqB,Ztf,Ztn⟩,Zqu,hn_,htk_,ZqI⟩|exact⟨Zrc,⟨Zs9,ZqC,Ztg,Zto⟩,Zqv,hn_,htk_,ZqJ⟩|exact⟨Zrl,⟨Ztb,ZqE,Zti,Ztq⟩,Zqx,hn_,htk_,ZqL⟩|exact⟨Zro,⟨Ztc,ZqF,Ztj,Ztr⟩,Zqy,hn_,htk_,ZqM⟩|exact⟨ZqO,⟨Zs6,Zqz,Ztd,Ztl⟩,Zqs,hn_,htk_,ZqG⟩|exact⟨ZqR,⟨Zs7,ZqA,Zte,Ztm⟩,Zqt,hn_,htk_,ZqH⟩),mJ (by intro p hp;simp only [JD,jp,jH,or_false]at hp;rcases hp with rfl|rfl|rfl|rfl|rfl|rfl|rfl|rfl|rfl|rfl|rfl|rfl|rfl<;>first|exact Zrg|exact Zrs|exact Zrv|exact ZrB|exact Zry|exact ZrE|exact⟨Zrj,⟨Zta,ZqD,Zth,Ztp⟩,Zqw,hn_,htk_,ZqK⟩|exact⟨Zra,⟨Zs8,ZqB,Ztf,Ztn⟩,Zqu,hn_,htk_,ZqI⟩|exact⟨Zrd,⟨Zs9,ZqC,Ztg,Zto⟩,Zqv,hn_,htk_,ZqJ⟩|exact⟨Zrm,⟨Ztb,ZqE,Zti,Ztq⟩,Zqx,hn_,htk_,ZqL⟩|exact⟨Zrp,⟨Ztc,ZqF,Ztj,Ztr⟩,Zqy,hn_,htk_,ZqM⟩|exact⟨ZqP,⟨Zs6,Zqz,Ztd,Ztl⟩,Zqs,hn_,htk_,ZqG⟩|exact⟨ZqS,⟨Zs7,ZqA,Zte,Ztm⟩,Zqt,hn_,htk_,ZqH⟩)⟩
 obtain⟨_,_,_,_,_,_,_,_,_,rfl,_⟩:=l34.l.ex;exact⟨_,λs v => .of_eq rfl,λbase _ _=>Ld hall T⟩
theorem Le {l:OS} {q:jS} {XP:(Str->am jc)->jX->Prop} {YP:jV->jX->Prop} {d:DefRec} {K:Params->jb} (hn:l.most=ja 63) (hdf:d.params.defaults=[])
 {aX:al (jf×Str)} (hY:∀(w:jV)(h:jX),YP w h->(K w.params).In h/\∀q∈aX,h.get? q.1=ja (jW #[])) (hT:∀w:jV,YV (K w.params)=aX) (hL:∀q∈aX,aX.lookup q.1=ja q.2) (hKP:∀w:jV,∀q∈aX,(K w.params).lookup q.1=none)
 (hct:∀w:jV,∀q∈aX,∃c o vs,(K w.params).lookup c=ja o/\o.cls = .type "code" /\ o.data = .fields vs/\vs[11]? = ja (.ref q.1))
 (F:∀(w:jV)(mg:Str->am jc)(fa:jf)(h:jX),(K w.params).In h->h.Ns mainGlobals mg->mg d.name=ja (.ref fa) ->
   ∃fd:qI,(∀(s:jg)(u:jc),BindsTo s fd ⟨[u],[]⟩ [("script",u)])/\∀base:jX,(K w.params).In base->base.Ns mainGlobals mg->aO l.prog w (K w.params) mg base bF 8 fa fd ["script"] (le (K w.params))) :
 Wa q loose XP YP l.row.toRowW d [] (λf vs=>vD f vs):=
 L2.gJ (n:=63) (k:=8) (x:="script") (CX:=λ_=>bF) (sp:=λw=>le (K w.params)) hn (by decide) hdf ⟨rfl,by decide,by decide⟩ hY hT hL hKP hct F (λ_ _ a ns hl hS=>⟨a,ns,rfl,hS,hl,λ_=>rfl⟩) λ_ _ _ _ _ z=>z
theorem Aq(w:jV)(h:jX)(Y:PySem.W.InK K11.kA w h):(K11.kP w.params).In h/\∀q∈K11.aX,h.get? q.1=ja (jW #[]):=by
 have e:K11.kP w.params=(K11.kP w.params).take 118++([(nat_lit 3,⟨(.str "gap_maker.<locals>.<lambda>" 0),ja 383,.plain,#[]⟩),(nat_lit 3,⟨(.str "never_maker.<locals>.<lambda>" 0),ja 390,.plain,#[]⟩),(nat_lit 3,⟨(.str "sum_maker.<locals>.<lambda>" 0),ja 397,.plain,#[]⟩),(nat_lit 3,⟨(.str "turn_maker.<locals>.<lambda>" 0),ja 402,.plain,#[]⟩),(nat_lit 3,⟨(.str "alike_maker.<locals>.<lambda>" 0),ja 409,.plain,#[]⟩)]:jb):=by kernel_rfl
 have hm:(([(nat_lit 3,⟨(.str "gap_maker.<locals>.<lambda>" 0),ja 383,.plain,#[]⟩),(nat_lit 3,⟨(.str "never_maker.<locals>.<lambda>" 0),ja 390,.plain,#[]⟩),(nat_lit 3,⟨(.str "sum_maker.<locals>.<lambda>" 0),ja 397,.plain,#[]⟩),(nat_lit 3,⟨(.str "turn_maker.<locals>.<lambda>" 0),ja 402,.plain,#[]⟩),(nat_lit 3,⟨(.str "alike_maker.<locals>.<lambda>" 0),ja 409,.plain,#[]⟩)]:jb).all λp=>(((K11.kP w.params).take 118:jb).lookup p.1).isSome)=true:=by kernel_rfl
 have hx:(([(383,jW #[]),(390,jW #[]),(397,jW #[]),(402,jW #[]),(409,jW #[])]:jb).all λp=>(((K11.kP w.params).take 118:jb).lookup p.1).isNone)=true:=by kernel_rfl
 obtain⟨h1,h2⟩:=L2.gK (I:=(K11.kP w.params).take 118) (J:=[(383,jW #[]),(390,jW #[]),(397,jW #[]),(402,jW #[]),(409,jW #[])]) (M:=[(nat_lit 3,⟨(.str "gap_maker.<locals>.<lambda>" 0),ja 383,.plain,#[]⟩),(nat_lit 3,⟨(.str "never_maker.<locals>.<lambda>" 0),ja 390,.plain,#[]⟩),(nat_lit 3,⟨(.str "sum_maker.<locals>.<lambda>" 0),ja 397,.plain,#[]⟩),(nat_lit 3,⟨(.str "turn_maker.<locals>.<lambda>" 0),ja 402,.plain,#[]⟩),(nat_lit 3,⟨(.str "alike_maker.<locals>.<lambda>" 0),ja 409,.plain,#[]⟩)]) (jR.mp hm) (λp hp=>⟨og.mp (jR.mp hx p hp),by
  simp only [jp,jH,or_false]at hp;rcases hp with rfl|rfl|rfl|rfl|rfl<;>rfl⟩) Y
 rw [e];refine⟨h1,λq hq => ?_⟩;simp only [K11.aX,jp,jH,or_false]at hq;rcases hq with rfl|rfl|rfl|rfl|rfl
 . exact h2 (383,jW #[]) (by simp)
 . exact h2 (390,jW #[]) (by simp)
 . exact h2 (397,jW #[]) (by simp)
 . exact h2 (402,jW #[]) (by simp)
 . exact h2 (409,jW #[]) (by simp)
theorem gB:∀q∈K11.aX,K11.aX.lookup q.1=ja q.2:=by decide +kernel
theorem kP_no(w:jV):∀q∈K11.aX,(K11.kP w.params).lookup q.1=none:=λq hq=>by
 have hx:(K11.aX.all λp=>((K11.kP w.params).lookup p.1).isNone)=true:=by kernel_rfl
 exact og.mp (jR.mp hx q hq)
theorem kP_cod(w:jV):∀q∈K11.aX,∃c o vs,(K11.kP w.params).lookup c=ja o/\o.cls = .type "code" /\ o.data = .fields vs/\vs[11]? = ja (.ref q.1):=λq hq=>by
 simp only [K11.aX,jp,jH,or_false]at hq;rcases hq with rfl|rfl|rfl|rfl|rfl
 . exact⟨387,HT.c3 "gap_maker" "gap_maker" 682 186 1 3 382 383 (.ref 384) (.ref 385) 386 689 690,_,by kernel_rfl,rfl,rfl,rfl⟩
 . exact⟨394,HT.c3 "never_maker" "never_maker" 692 194 1 3 389 390 (.ref 391) (.ref 392) 393 697 698,_,by kernel_rfl,rfl,rfl,rfl⟩
 . exact⟨399,HT.c3 "sum_maker" "sum_maker" 700 198 1 3 396 397 .none .none 398 703 704,_,by kernel_rfl,rfl,rfl,rfl⟩
 . exact⟨406,HT.c3 "turn_maker" "turn_maker" 706 205 1 3 401 402 (.ref 403) (.ref 404) 405 713 714,_,by kernel_rfl,rfl,rfl,rfl⟩
 . exact⟨413,HT.c3 "alike_maker" "alike_maker" 716 213 1 3 408 409 (.ref 410) (.ref 411) 412 721 722,_,by kernel_rfl,rfl,rfl,rfl⟩
end K11
open PySem PySem.W PyProof.Rows
set_option maxRecDepth 100000 in
set_option maxHeartbeats 0 in
theorem PySem.Challenge.cw_grooveway_k11_pages_refused_holds : PySem.Challenge.rw_grooveway_k11_pages_refused.Holds := by
 w_on;o_law
 refine holds_open (r:=PySem.Challenge.rw_grooveway_k11_pages_refused.row) (q:=(view PySem.Challenge.pw_grooveway_k11_pages_refused [0,2,3,4,5,6,8,9,10,11,12,13,14,15,16,17,18,19,21,22,23,24,25,26,27,28,29,30,31,32,33,34,35,37,38,39,40,41,42,43,44,45,46])) (loose:=["Gap", "MAKERS"]) (XP:=XL (view PySem.Challenge.pw_grooveway_k11_pages_refused [0,2,3,4,5,6,8,9,10,11,12,13,14,15,16,17,18,19,21,22,23,24,25,26,27,28,29,30,31,32,33,34,35,37,38,39,40,41,42,43,44,45,46]) []) (YP:=InK K11.kA) K11.Hh (InK.of K11.zw) InK.keeps (λs e=>xl_of s (Bool.and_eq_true_iff.mp e).1) XL.keeps (by rfl) (by rfl) (by rfl) (λs e=>recFacts_of (Bool.and_eq_true_iff.mp e).2) (by rfl) (by assumption) (by decide +kernel) ⟨rfl,rfl,rfl,rfl,rfl,by decide +kernel⟩ ?hw ?hc
 case hw=>w_witness2
 k_fill
 refine K11.Le (l:=PySem.Challenge.rw_grooveway_k11_pages_refused) rfl rfl (λw h Y=>K11.Aq w h Y) (λ_=>K11.kP_tabs _) K11.gB K11.kP_no K11.kP_cod ?F
 case F=>
  intro w mg fa h KX G hmg
  k_fill
  refine' K11.rn K11.gS KX G hmg ..
  any_goals first|k_is|kit_is|k_exc|kts_exm|rfl|kernel_rfl|decide +kernel|(rw [K11.kP_tabs];simp)|(refine' L2.Fg.of ?_ ?_ ?_ ?_<;>first|k_is|skip)|(refine' L2.bL ?_ ?_ ?_<;>first|k_is|skip)|skip
