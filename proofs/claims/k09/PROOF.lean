import PyProof.Rows.All
import Wide.All
import OpenK.AllK
import Wide.FinOn
import Lean
import PyProof.EqAt
import PyProof.EqKinds
import PyProof.TupleCall
import PyProof.CompFree
import PyProof.AttrMissHeap
import PyProof.ListNew
import PyProof.DictUpdate
import PyProof.DictList
import PyProof.FactsAll.dict_1
import PyProof.Rows.DictSet
import PyProof.Seq
import PyProof.TupleIter
import KE.KDictOf
import PyProof.NeKinds
import PyProof.ZipIter
import PyProof.EnumIter
import PyProof.EnumFor
import PyProof.EnumMake
import KE.KRevIter
import KE.KDictLaws
import PyProof.DictRoadsH
import KE.KDictList
import PyProof.ConsumeWalk
import PyProof.DictTruth
import PyProof.MinMaxWalk
import PyProof.WalkInts
import PyProof.WalksMore
import KE.KMinKey
import PyProof.Rows.CallKwBuiltin
import PyProof.Draws
import OpenK.KRaise
import OpenK.KOwn
import KE.KTryMore
import PyProof.StationsW
import PyProof.DictValues
import PyProof.FactsAll.dict_4
import PyProof.DictWalks
import PyProof.Rows.Range3
import PyProof.Rows.SortWalk
import PyProof.CollectWalk
import KE.KIsAll
import PyProof.ExcArgsOwn
import PySem.Challenge.RW_factloom_k09_whole_grounds
set_option Elab.async false
set_option linter.all false
set_option maxRecDepth 100000
open List (mem_cons_of_mem mem_cons_self length_map getElem?_eq_getElem getElem?_set_ne mem_filter mem_map mem_cons getElem?_map mem_of_getElem? mem_append getElem?_set_self mem_append_right mem_append_left map_append map_map length_append length_cons length_take not_mem_nil take_of_length_le mem_singleton append_nil append_assoc map_cons filter_cons getElem?_append_left getElem?_append_right mem_flatten mem_reverse mem_flatMap length_set length_nil length_singleton filter_append getElem?_eq_none take_add_one map_congr_left filter_eq_self length_filter_le pairwise_cons nodup_cons flatMap_cons cons_append mem_map_of_mem getElem_mem filter_congr nodup_nil nodup_append all_eq_true any_eq_true mem_iff_getElem? take_length nil_append mem_of_mem_take mem_range length_range all_cons zipIdx_cons set_set foldl_append flatMap_append)
set_option maxHeartbeats 4000000
set_option compiler.extract_closed false
open PySem renaming wpAny_bind->QL,wpAny_pure->QX,wpAny_field->RN,wpAny_callSpecial?_slot->RO,wpAny_newObj_type->RS,wpAny_mono->RV,wpAny_seqItems->R5,wpAny_call_entry->Sg,wpAny_truthy_bool->Sk,wpAny_holding->So,wpAny_Call_Name_kw->SH,tupleKind_room_in1->SJ,wpAny_typeNameOfWhole_keyiter->SW,wpAny_pyIter_list->S6,codeAny_builtin->S9,wpAny_passesOwn->Tp,sizeLine_eq->Ts,mem_of_lookup->TB,call_meetsIn->TX,wpAny_setField_rec->T2,wpAny_execs_nil->T7,plainId_quiet->Ub,wpAny_dictEntries->Ug,wpAny_loadPart_at->Uh,wpAny_letGo->Uk,wpAny_tryCatch->Ul,codeAny_call_builtin->Us,codeAny_mono->Ut,wpAny_pyIter_tuple->UG,wpAny_rule->UJ,wpAny_setField->UQ,wpAny_pyIter_enum->UR,wpAny_notOrdered_dict->UX,wpAny_execs_cons->U2,wpAny_updateSeq->U9,wpAny_typeOf->Vi,wpAny_newFunctionEnv_cells->Vm,call_meets->Vn,wpAny_letOwnedTupleGo_enum->Vp,wpAny_of_eq->VB,wpAny_standAt->VC,wpAny_attempt->VF,noFill_tuple_add->VM,wpAny_dictEpoch->V5,wpAny_listPart->Wc,wpAny_call->Wm,backTo->gA,holding->gD,wpAny->gE,mainGlobals->jk,getMethod->mm,FuncData->mu,Around->om,Shared->ot,World->pa,codeAny->qi,Program->qj,compareOp->rd,Heap->rl,sizeLine->se,Expr->sH,Stmt->uL,sysModules->uU,Addr->vb,Value->wj,attributeBase->y0,eval->y1,keywordEach->y2,model->y3,starEach->zA,callWith->zB
open List renaming mem_cons_of_mem->QM,getElem?_eq_some_iff->QN,getElem?_eq_getElem->QO,length_map->QP,mem_cons_self->QQ,getElem?_set_ne->QS,mem_of_getElem?->QT,getElem?_map->QY,mem_cons->QZ,mem_append_right->Q1,mem_append_left->Q2,getElem?_set_self->Q3,mem_filter->Q4,mem_map->Q6,length_append->Q7,size_toArray->Rb,mem_append->Rc,mem_singleton->Rg,getElem?_append_left->Rj,map_append->Rl,take_of_length_le->Rm,getElem?_append_right->Rn,append_nil->Ro,map_congr_left->Rq,length_take->Rr,take_add_one->Rs,not_mem_nil->Rt,length_filter_le->Rv,length_cons->Rw,map_map->Rz,map_cons->RB,getElem?_eq_none->RC,mem_iff_getElem?->RD,mem_flatten->RE,append_assoc->RI,filter_eq_self->RM,find?_cons->RQ,flatMap_cons->RT,flatten_cons->RU,getElem?_take_of_lt->RW,mem_flatMap->RY,foldl_append->R1,length_singleton->R6,filter_append->R7,flatten_append->R9,length_range->Sb,take_length->Sd,lookup_cons->Si,filterMap_cons->Sj,getElem_mem->Sr,ext_getElem?->Su,length_set->Sv,flatMap_singleton->Sw,mem_map_of_mem->Sy,getElem_of_mem->Sz,filter_map->SD,length_nil->SI,flatten_nil->SM,filter_congr->SN,eq_nil_of_length_eq_zero->SR,mem_reverse->SS,take_append_of_le_length->SU,filter_eq_nil_iff->Td,idxOf_lt_length_of_mem->Te,filter_cons->Tg,nodup_cons->Th,take_append_drop->Tk,drop_eq_getElem_cons->Tl,mem_or_eq_of_mem_set->Tn,getElem?_eq_none_iff->To,nodup_nil->Tq,mem_of_mem_take->Tr,all_eq_true->Tt,takeWhile_cons->TC,mem_range->TD,getElem_map->TK,map_nil->TU,drop_of_length_le->TZ,nodup_append->T3,nil_append->T4,map_id'->T5,takeWhile_sublist->T6,mem_zipIdx_iff_getElem?->T9,any_eq_false->Ue,any_eq_true->Um,all_cons->Uq,exists_cons_of_ne_nil->Ur,length_drop->Uu,filterMap_cons_none->UA,of_mem_zip->UD,mem_filterMap->UH,getElem_idxOf->UL,all_map->US,flatMap_append->UT,drop_eq_nil_of_le->UU,getElem?_zipWith->UZ,any_cons->U5,cons_append->U7,forIn_cons->Va,length_reverse->Vh,filter_filter->Vq,length_zipIdx->Vu,map_inj_right->Vv,pairwise_iff_getElem->Vw,getElem?_zip_eq_some->Vz,filterMap_cons_some->VG,sum_cons->VI,map_take->VJ,pairwise_cons->VL,map_reverse->VQ,filter_nil->V3,range_succ->V4,sum_append->V6,zipIdx_cons->Wd,getElem?_zipIdx->We,mem_of_mem_tail->Wf,take_zero->Wi,set_set->Wk,take_nil->Wl
open PySem.Heap renaming get?_push_of_some->QR,get?_push_size->Ra,lt_size->Re,get?_update_other->Sh,size_push->Sn,get?_update_self->SE
open Nat renaming le_refl->QU,le_trans->Rh,zero_le->Rk,ne_of_lt->Rp,lt_of_lt_of_le->Rx,le_of_not_lt->RA,le_add_right->RL,le_of_lt->Sf,lt_irrefl->Sm,lt_succ_self->SF,lt_succ_of_lt->S8,ne_of_gt->Ta,zero_add->Tc,add_sub_cancel_left->TJ,lt_of_le_of_lt->TY,min_eq_left->T8,add_sub_cancel->UK,min_eq_right->U4,lt_add_of_pos_right->VU,le_of_eq->VW,succ_mul->VZ,sub_zero->Wn,add_comm->Wp,sub_self->Wr,le_succ->Wt
open Bool renaming false_ne_true->QW,eq_iff_iff->Ry,and_eq_true->RJ,and_eq_true_iff->Ss,false_eq_true->TR,true_and->Uc,or_eq_false_iff->Uo,and_true->Uz,not_eq_false'->Vr,or_false->VE,and_false->Wb,true->bU,false->fF
open Option.some renaming inj->Q5
open PySem.PassesOwn renaming never->Rf
open Option renaming map_eq_some_iff->Ru,bind_eq_some_iff->TM,isSome_map->Uf,map_some->UF,isSome_iff_exists->VD,getD_none->VN,none->bF
open Ne renaming symm->RG
open Array renaming length_toList->RP,getElem?_toList->UV,toArray_toList->U8,getElem?_eq_some_iff->Vt,getElem?_eq_getElem->Vy,getElem_toList->Wh
open PyProof.Rows renaming callWith_type1->RX,boot_tuple->RZ,slot_tuple_getitem->Tz,boot_list->T0,boot_str->Ud,boot_int->U0,boot_isinstance->Vb,vals1->Vf,boot_enumerate->Vk,boot_dict->VY,AllBare->p0
open PySem.F renaming slot_dict_keyiterator_next->R3,plainAttrs_list->Sc,slot_dict_setdefault->Sq,args_dict_setdefault_3->SK,entry_dict_setdefault->SQ,slot_tuple_iterator_next->Ti,plain_max_loop->TH,slot_list_extend->TN,args_dict_keyiterator_next_1->Uv,args_tuple_add_2->Uw,slot_list_getattribute->Uy,entry_dict_keyiterator_next->UB,type_list_extend->UC,entry_tuple_add->UM,plainAttrs_dict->UN,slot_tuple_add->UP,slot_dict_get->UW,typeOf_object_class->U1,args_tuple_iterator_next_1->Vc,slot_zip_next->Vd,entry_tuple_iterator_next->Vj,called_enumerate->Vs,slot_dict_values->VH,args_dict_get_3->VO,plain_list_iadd->VR,slot_list_index->VS,entry_dict_get->VX,slot_dict_iter->V0
open PySem.W renaming kia_one->R4,set_slot->Tv,looks_findIn->Ui,callWith_K->UI,cellsFrom_some->UO,mg_of->U6,plainGet_of->Vg,methodCall_KW->V7,hideAll_none->Wa,Frag->kc,codeIn->l0,mroIn->oD,findIn->qm,typeIn->zz,keepIn->zC,fnOf->A1
open Int renaming toNat_natCast->Sa,emod_nonneg->Ve
open PySem.Heap.SameBut renaming update->SA
open PySem.Around renaming under_plainId->SO
open PySem.Calls renaming callWith_builtin->Tb,spliced_cons->TQ,evalArgs_plain->Uj,Name_function_global->Vl,spliced_nil->VA
open PySem.Paired renaming length->Tf
open PySem.Obj renaming data_mapFields->Tj,isFreed_of_fields->UY
open List.cons renaming inj->Tx,injEq->Ua
open PySem.W.KFB renaming if_not->Vo
open Classical renaming byContradiction->Vx
open PySem.W.Looks renaming ld->VT
open Sum.inl renaming inj->V8
open Sum.inr renaming inj->V9
open List.Pairwise renaming filter->Wg
open Nat.succ renaming inj->Wo
open Prod.mk renaming inj->Wu
open Decidable renaming decide->fT
open PySem.Builtin.SmallTypes renaming ownedTupleIsFree->gB,nextOf->Al
open PySem.Builtin.Range renaming rangeSize->gC
open PySem.Builtin renaming divisionGoesByPylong->xx
open Lean in
set_option hygiene false in
local macro_rules(kind:=«term{_}»)|`({$x,*})=>`(⟨$x,*⟩)
local macro_rules|`(!$x)=>`(some $x)
open Lean in
local macro_rules|`($f^$x)=>if f.raw.isOfKind numLitKind then Macro.throwUnsupported else `($f<|$x)
open Lean in
local macro_rules(kind:=Lean.Parser.Tactic.tacticLet__)|s=>do
 let rec r:Nat→Syntax→MacroM (TSyntax `rcasesPat)
 |0,_=>Macro.throwUnsupported
 |n+1,s=>if s.isOfKind choiceKind then r n (s.getArgs.find? (·.isOfKind `«term{_}»)|>.getD s) else if s.isOfKind `Lean.Parser.Term.hole then `(rcasesPat|_) else if s.isIdent then `(rcasesPat|$(⟨s⟩):ident) else do
  let a←s[1].getSepArgs.mapM λx=>do `(Lean.Parser.Tactic.rcasesPatLo|$(←r n x):rcasesPat)
  `(rcasesPat|⟨$a,*⟩)
 let d:=s[2][0]
 if d.isOfKind `Lean.Parser.Term.letPatDecl then `(tactic|obtain $(←r 99 d[0]):rcasesPat:=$(⟨d[4]⟩)) else `(tactic|have $(⟨s[2]⟩):letDecl)
local macro_rules|`(tactic|show $e)=>`(tactic|refine $e)
abbrev ZT:=PySem.Value->PySem.Shared->Prop
abbrev ZU:=PySem.Str->Option PySem.Value
abbrev ZV:=List (PySem.Addr×PySem.Obj)
abbrev ZX:=List PySem.Addr
abbrev ZY:=List PySem.Str
def Z1{p:Prop}(h:p:=by decide):p:=h
def Z4{p:Prop}(h:p:=by omega):p:=h
def Z6{p:Prop}(h:p:=by k_is):p:=h
def Z8{p:Prop}(h:p:=by simp):p:=h
def Z9{p:Prop}(h:p:=by decide+kernel):p:=h
def QV:=@if_neg
def Q0:=@if_pos
def Q8:=@of_decide_eq_true
def Q9:=@decide_eq_true
def Ri:=@decide_eq_false
def RF:=@congrArg
def RH:=@or_false
def RK:=@of_decide_eq_false
def R0:=@decide_eq_true_iff
def R8:=@beq_eq_false_iff_ne
def Tu:=@decide_eq_true_eq
def Tw:=@beq_iff_eq
def TF:=@decide_eq_decide
def Ux:=@if_false
def UE:=@if_true
def U3:=@beq_self_eq_true
def VP:=@decide_eq_false_iff_not
def Wq:=@and_true
def Ws:=@not_or
def A2{α:Sort u}{a:α}:a=a:=rfl
open Lean in
set_option hygiene false in
def qZZ0:String->MacroM Term
|"a"=>`((but H M))
|"b"=>`({A2,A2,A2,Z9,A2,Z9,Z9})
|"c"=>`((e.v A2))
|"d"=>`((y3 X.prog X.w))
|"e"=>`(Inv X pins σ H s)
|"f"=>`((ae.refl _))
|"g"=>`((br^ak bb^ak bb^ak bb bj))
|"h"=>`((aV^aa aK^aa aK^aa aK ah))
|"i"=>`((y3 prog w))
|"j"=>`(List^List D)
|"k"=>`((x==("__debug__":Str)))
|"l"=>`(List (vb×Obj))
|"m"=>`((bW X N' scope cl C fp s H))
|"n"=>`((.ref a))
|"o"=>`((.ListComp elt [{tg,iter,ifs,0}] scope pos))
|"p"=>`({A2,I.turned (t':=s.toks) (λb o hb e=>eb b o hb e) f0 f1 f3 f4 f5})
|"q"=>`((s.heap.objs.size+1))
|"r"=>`((List.toArray []))
|"s"=>`((upd Xc N (.dT<|cZ<|T++aJ j++[bJ I w])))
|"t"=>`(∀b∈ch,(b∈X.ex\/X.s₀.heap.objs.size<=b)/\b≠X.env.locals/\(∀x c,X.env.cells.lookup x=!c->c≠b)/\∀p∈X.pn++pins,p.1≠b)
|_=>Macro.throwUnsupported
local macro_rules|`(tactic|omega)=>`(tactic|with_reducible first|assumption|exact Nat.le_trans (by assumption) (by decide)|exact Nat.lt_of_le_of_lt (by assumption) (by decide)|exact Nat.le_of_lt (by assumption)|exact Nat.lt_of_lt_of_eq (by assumption) (by assumption)|exact Nat.lt_of_lt_of_eq (by assumption) (Eq.symm (by assumption))|exact Nat.le_trans (by assumption) (by assumption)|exact Nat.lt_of_lt_of_le (by assumption) (by assumption)|exact Nat.lt_of_le_of_lt (by assumption) (by assumption)|exact Nat.le_trans (Nat.le_of_eq (by assumption)) (by assumption)|fail)
local macro_rules|`(tactic|cases $x:ident)=>`(tactic|first|with_reducible contradiction|fail)
local macro_rules|`(nomatch $x:ident)=>`(by cases $x:ident)
open Lean in
local macro_rules(kind:=Lean.Parser.Command.declaration)|s=>if [`Lean.Parser.Command.definition,`Lean.Parser.Command.abbrev,`Lean.Parser.Command.instance].contains s[1].getKind&&s[0][4].getNumArgs==0 then return s.setArg 0 (s[0].setArg 4 (mkNullNode #[mkNode `Lean.Parser.Command.noncomputable #[mkAtom "noncomputable"]])) else Macro.throwUnsupported
local macro_rules(kind:=Lean.Parser.Term.quotedName)|s=>let n:=(s[0].isNameLit?.getD .anonymous).toString;qZZ0 n
namespace L2
open PySem PySem.Spec PyProof.Rows
abbrev aH:=Sum Int Str
def nY:aH->wj->Bool
 |.inl k,v=>wj.isInt k v
 |.inr x,v=>wj.isStrOf x v
def Qc (w:pa):aH->Int
 |.inl k=>hashInt k
 |.inr x=>hashStr w x
def kB:∀{k:aH} {v:wj},nY k v=bU->(∃i t,k=Sum.inl i/\v=wj.int i t)\/(∃x t,k=Sum.inr x/\v=wj.str x t)
 |.inl i,v,h=>by
  let{t,e}:=wj.isInt_shape (k:=i) (v:=v) h;show .inl {i,t,A2,e}
 |.inr x,v,h=>by
  let{t,e}:=wj.isStrOf_shape (x:=x) (v:=v) h;show .inr {x,t,A2,e}
def Kr (i:Int)(t:Tok):nY (.inl i)^.int i t=bU:=by simp[nY,wj.isInt]
def G3 (x:Str)(t:Tok):nY (.inr x)^.str x t=bU:=by simp[nY,wj.isStrOf]
def Kp (a b:Int):fT ((Sum.inl a:aH)=Sum.inl b)=(a==b):=by
 by_cases e:a=b
 .subst e;simp
 .let h:¬(Sum.inl a:aH)=Sum.inl b:=λq=>e^V8 q;rw[Ri h];show(R8.mpr e).symm
def J0 (a b:Str):fT ((Sum.inr a:aH)=Sum.inr b)=fT (a=b):=by
 by_cases e:a=b
 .subst e;simp
 .let h:¬(Sum.inr a:aH)=Sum.inr b:=λq=>e^V9 q;rw[Ri h,Ri e]
def LU (a:Int)(b:Str):fT ((Sum.inl a:aH)=Sum.inr b)=fF:=Ri λq=>nomatch q
def OR (a:Str)(b:Int):fT ((Sum.inr a:aH)=Sum.inl b)=fF:=Ri λq=>nomatch q
def dm (prog:qj)(w:pa):PySem.KeyKind prog w aH where
 is:=nY
 hash:=Qc w
 inj:=λv a b ha hb=>by
  rcases kB ha with⟨i,t,rfl,rfl⟩|⟨x,t,rfl,rfl⟩
  .rcases kB hb with⟨j,u,rfl,e⟩|⟨y,u,rfl,e⟩
   .injection e with e1 _;rw[e1]
   .show nomatch e
  .rcases kB hb with⟨j,u,rfl,e⟩|⟨y,u,rfl,e⟩
   .show nomatch e
   .injection e with e1 _;rw[e1]
 byValue:=λk v h=>by
  rcases kB h with⟨i,t,rfl,rfl⟩|⟨x,t,rfl,rfl⟩<;>rfl
 pyHash:=λhv h=>by
  rcases kB hv with⟨i,t,rfl,rfl⟩|⟨x,t,rfl,rfl⟩
  .show wpAny_pyHash_int h
  .show wpAny_pyHash_str h
 eqBool:=λhu hv h=>by
  rcases kB hu with⟨i,t,rfl,rfl⟩|⟨x,t,rfl,rfl⟩
  .rcases kB hv with⟨j,u,rfl,rfl⟩|⟨y,u,rfl,rfl⟩
   .rw[Kp]at h;show wpAny_eqBool_int h
   .rw[LU]at h;show SeqAt.EqAt.int_str i t y u _ _ _ _ h
  .rcases kB hv with⟨j,u,rfl,rfl⟩|⟨y,u,rfl,rfl⟩
   .rw[OR]at h;show SeqAt.EqAt.str_int x t j u _ _ _ _ h
   .rw[J0]at h;show wpAny_eqBool_str h
 «strs»:=λk x t v h=>by
  rcases kB h with⟨i,u,rfl,e⟩|⟨y,u,rfl,e⟩
  .show nomatch e
  .injection e with e1 _
   subst e1
   cases v<;>rfl
def Jc (a:qj)(w:pa)(k:aH)(v:wj):(dm a w).is k v=nY k v:=A2
def OI (a:qj)(w:pa)(i:Int)(t:Tok):(dm a w).is (.inl i)^.int i t=bU:=Kr i t
def Ou (a:qj)(w:pa)(x:Str)(t:Tok):(dm a w).is (.inr x)^.str x t=bU:=G3 x t
end L2
namespace L2
open PySem PySem.Spec PyProof.Rows
inductive V where
 |aw|bl (b:Bool)|int (i:Int)|str (x:Str)|iD (b:Array UInt8)|ol (b:UInt64)|ref (a:vb)|ty (n:String)
 deriving DecidableEq
def RelV:V->wj->Prop
 |.aw,u=>u=wj.none
 |.bl b,u=>u=wj.bool b
 |.int i,u=>∃t,u=wj.int i t
 |.str x,u=>∃t,u=wj.str x t
 |.iD b,u=>∃t,u=wj.bytes b t
 |.ol b,u=>∃t,u=wj.float b t
 |.ref a,u=>u=wj.ref a
 |.ty n,u=>u=wj.type n
abbrev bn:List V->List wj->Prop:=Paired RelV
theorem bn.length(r:bn a b):a.length=b.length:=Tf r
theorem bn.get:∀{a:List V} {b:List wj} {i:Nat} {x:V},bn a b->a[i]?=!x->∃u,b[i]?=!u/\RelV x u
 |_,_,_,_,.nil,e=>by simp at e
 |_,_,0,_,.cons r _,e=>by simp at e;subst e;show{_,A2,r}
 |_,_,i+1,x,.cons _ t,e=>by
  let{u,c,d}:=bn.get (i:=i) (x:=x) t (by simpa using e);show{u,by simpa using c,d}
theorem bn.append:∀{a b:List V} {c d:List wj},bn a c->bn b d->bn (a++b) (c++d)
 |_,_,_,_,.nil,s=>s
 |_,_,_,_,.cons r t,s=>.cons r^bn.append t s
theorem bn.take:∀{a:List V} {b:List wj} (n:Nat),bn a b->bn (a.take n)^b.take n
 |_,_,0,_=>.nil
 |_,_,_+1,.nil=>.nil
 |_,_,n+1,.cons r t=>.cons r^bn.take n t
theorem bn.drop:∀{a:List V} {b:List wj} (n:Nat),bn a b->bn (a.drop n)^b.drop n
 |_,_,0,r=>r
 |_,_,_+1,.nil=>.nil
 |_,_,n+1,.cons _ t=>bn.drop n t
def e9:Option V->Option wj->Prop
 |some v,!u=>RelV v u
 |none,bF=>True
 |_,_=>False
def KV {κ:Type}:List (κ×V)->List (κ×wj)->Prop:=Paired λ(p:κ×V) (q:κ×wj)=>p.1=q.1/\RelV p.2 q.2
def kV:aH->V
 |.inl i=>.int i
 |.inr x=>.str x
inductive HO where
 |lst (xs:List V)
 |tup (xs:List V)
 |dK (kvs:List (aH×V))|dT (kvs:List (List aH×V))
 |set (S:Int->Bool) (n:Nat)
 |ins (C dx:vb) (fs:List (Str×V))
 |own (x:vb)
 |xd (fs:List (Str×V))
 |met (f x:vb)
 |tF (lo hi:Int)
 |dj (o:Obj) (u:HO)
 |kL (ps:Array wj)
 |ext (φ:rl->Prop)
abbrev Hp:=vb->Option HO
def upd (H:Hp)(a:vb)(o:HO):Hp:=λb=>if b=a then !o else H b
def aM:upd H a o a=!o:=by unfold upd;rw[Q0 A2]
def aE(h:b≠a):upd H a o b=H b:=by unfold upd;rw[QV h]
def Fx{H:Hp}(h:H a=!o)(c:H b=!u)(d:o≠u):a≠b:=by
 intro e;subst e;rw[h]at c;show d^Q5 c
def dy{H:Hp}(h:H a=!o)(c:H b=bF):a≠b:=by
 intro e;subst e;rw[h]at c;cases c
section
variable (P:qj)(w:pa)
def bZ (H:Hp)(h:rl)(a:vb):HO->Prop
 |.lst xs=>xs.length<=se/\∃(its:List wj) (n:Nat),bn xs its/\h.get? a=!{cls:=.type "list",data:=.seq its.toArray n}
 |.tup xs=>xs.length<=se/\∃its:List wj,bn xs its/\IsTup h a its.toArray
 |.dK kvs=>kvs.length<=se/\(a==uU)=fF/\∃vs,KV kvs vs/\h.DictOf (dm P w) a vs
 |.dT kvs=>kvs.length<=se/\(a==uU)=fF/\∃xs:List (List aH×vb×wj),
   Paired (λ(p:List aH×V) (q:List aH×vb×wj)=>p.1=q.1/\H q.2.1=!.tup^p.1.map kV/\RelV p.2 q.2.2) kvs xs/\
   ∃o es ep,h.get? a=!o/\o.ExactDict/\o.data=.dict es ep/\es.toList=xs.map^entryOfKey^tupleKind^dm P w/\(xs.map (·.1)).Nodup
 |.set S n=>h.SetOf (intKind P w) a S n
 |.ins C dx fs=>H dx=!.own a/\fs.length<=1000/\dx≠a/\h.get? a=!PySem.W.instObj C dx/\
   ∃mA,h.Ns1 dx mA/\(∀f,e9 (fs.lookup f)^mA f)/\PySem.Within mA^fs.map (·.1)
 |.own _=>∃o,h.get? a=!o
 |.xd fs=>∃mA,h.Ns1 a mA/\∀f,e9 (fs.lookup f)^mA f
 |.tF lo hi=>∃t u v,h.get? a=!{cls:=.type "range",data:=.fields^List.toArray [.int lo t,.int hi u,.int 1 v]}
 |.dj o u=>h.get? a=!o/\bZ H h a u
 |.kL ps=>h.get? a=!{cls:=.none,data:=.fields ps}
 |.met f x=>h.get? a=!PySem.W.methodObj (.ref f)^.ref x
 |.ext φ=>φ h/\(∃o,h.get? a=!o)/\∀h1 h2:rl,φ h1->(∀o,h1.get? a=!o->h2.get? a=!o)->φ h2
def du (H:Hp)(h:rl):Prop:=∀a o,H a=!o->bZ P w H h a o
end
section
variable {P:qj}{w:pa}{H H':Hp}{h h':rl}{a:vb}{o:HO}
theorem bZ.lt (x:bZ P w H h a o):a<h.objs.size:=by
 cases o with
 |lst c=>let{_,_,_,_,e}:=x;show Re e
 |tup c=>let{_,_,_,p}:=x;show p.lt
 |dK b=>let{_,_,_,_,o,_,_,e,_}:=x;show Re e
 |dT b=>let{_,_,_,_,o,_,_,e,_}:=x;show Re e
 |set S n=>let{o,_,_,_,e,_}:=x;show Re e
 |ins C g d=>let{_,_,_,e,_}:=x;show Re e
 |own y=>let{_,e}:=x;show Re e
 |xd d=>let{_,{_,_,_,e,_},_}:=x;show Re e
 |tF lo i=>let{_,_,_,e}:=x;show Re e
 |dj j u=>let{e,_}:=x;show Re e
 |kL k=>show Re^show h.get? a=!_ from x
 |met f y=>show Re^show h.get? a=!_ from x
 |ext l=>let{_,{_,e},_}:=x;show Re e
theorem Paired.zY{G:e->g->Prop}:∀{c:List e} {d:List g},Paired F c d->(∀a b,F a b->G a b)->Paired G c d
 |_,_,.nil,_=>.nil
 |_,_,.cons r t,f=>.cons (f _ _ r)^Paired.zY t f
def bZ.jr (x:bZ P w H h a o)(k:∀b u,(b=a\/H b=!.own a)->h.get? b=!u->h'.get? b=!u)
  (G:∀b,H b=!.own a->H' b=!.own a) (I:∀b m,H b=!.tup m->H' b=!.tup m):bZ P w H' h' a o:=by
 induction o with
 |lst m=>let{z,l,n,r,e}:=x;show{z,l,n,r,k _ _ (.inl A2) e}
 |tup m=>let{z,l,r,g,e,c}:=x;show{z,l,r,g,k _ _ (.inl A2) e,c}
 |dK s=>let{z,y,J,r,g,i,j,e,c}:=x;show{z,y,J,r,g,i,j,k _ _ (.inl A2) e,c}
 |dT s=>
  let{z,y,m,r,g,i,j,e,c}:=x;show{z,y,m,Paired.zY r λp q z=>{z.1,I _ _ z.2.1,z.2.2},g,i,j,k _ _ (.inl A2) e,c}
 |set S n=>let{g,i,j,t,e,c}:=x;show{g,i,j,t,k _ _ (.inl A2) e,c}
 |ins C Q L=>
  let{d,z,M,e,A,{B,i,j,N,c},r}:=x;show{G _ d,z,M,k _ _ (.inl A2) e,A,{B,i,j,k _ _ (.inr d) N,c},r}
 |own y=>let{g,e}:=x;show{g,k _ _ (.inl A2) e}
 |xd L=>let{A,{B,i,j,e,c},r}:=x;show{A,{B,i,j,k _ _ (.inl A2) e,c},r}
 |tF lo T=>let{t,u,v,e}:=x;show{t,u,v,k _ _ (.inl A2) e}
 |dj g u O=>let{e,q}:=x;show{k _ _ (.inl A2) e,O q}
 |kL E=>
  let e:h.get? a=!{cls:=.none,data:=.fields E}:=x;change h'.get? a=!{cls:=.none,data:=.fields E};show k a _ (.inl A2) e
 |met f y=>
  let e:h.get? a=!W.methodObj (.ref f)^.ref y:=x;change h'.get? a=!W.methodObj (.ref f)^.ref y;show k a _ (.inl A2) e
 |ext U=>let{p,{o,e},st}:=x;show{st _ _ p λo q=>k _ _ (.inl A2) q,{o,k _ _ (.inl A2) e},st}
theorem du.lt (x:du P w H h)(e:H a=!o):a<h.objs.size:=(x a o e).lt
def du.fresh (x:du P w H h)(e:h.objs.size<=a):H a=bF:=by
 cases q:H a with
 |none=>rfl
 |some u=>show absurd (Rx (x.lt q) e)^Sm _
def du.kept (x:du P w H h)(k:∀b u,h.get? b=!u->h'.get? b=!u):du P w H h':=λa o e=>
 (x a o e).jr (λb u _ q=>k b u q) (λ_ q=>q) λ_ _ q=>q
def du.laid (x:du P w H h)(k:∀b u,h.get? b=!u->h'.get? b=!u)(i:h.objs.size<=a)(d:bZ P w (upd H a o) h' a o):du P w (upd H a o) h':=λb u e=>by
 let f:=x.fresh i;by_cases g:b=a
 .subst g;rw[aM]at e;cases e;show d
 .rw[aE g]at e
  show(x b u e).jr (λc v _ q=>k c v q) (λc q=>by rw[aE^dy q f];show q) λc j q=>by rw[aE^dy q f];show q
end
def Rd (H:Hp)(a:vb)(u:HO):Prop:=H a=!u\/∃o,H a=!.dj o u
def Rd.of{H:Hp}(h:H a=!u):Rd H a u:=.inl h
def Rd.ok(r:Rd H a u)(x:du P w H h):bZ P w H h a u:=by
 rcases r with r|⟨o,r⟩
 .show x a u r
 .let{_,q}:=x a _ r;show q
def rV:Option HO->Prop
 |some (.lst _)=>True
 |some (.dK _)=>True
 |some (.dT _)=>True
 |some (.set _ _)=>True
 |some (.ins _ _ _)=>True
 |some (.ext _)=>True
 |_=>False
section
variable {P:qj}{w:pa}{H:Hp}{h h':rl}{x e:vb}{o':HO}
def du.write (s:du P w H h)(g:rV^H x)(o:e=x\/H e=!.own x)(k:∀b u,b≠e->h.get? b=!u->h'.get? b=!u)(m:∃u,h'.get? e=!u)
  (n:bZ P w (upd H x o') h' x o'):du P w (upd H x o') h':=λb u q=>by
 let d:∀c y,H c=!.own y->c≠x:=λc y r z=>by subst z;rw[r]at g;show g
 let f:∀c i,H c=!.tup i->c≠x:=λc i r z=>by subst z;rw[r]at g;show g
 by_cases j:b=x
 .subst j;rw[aM]at q;cases q;show n
 .rw[aE j]at q
  by_cases a:b=e
  .let p:H b=!.own x:=by
    rcases o with z|z
    .show absurd (a.trans z) j
    .rw[a];show z
   rw[q]at p;cases p;let{v,t}:=m;show{v,by rw[a];show t}
  .show(s b u q).jr (λc v l r=>k c v ?_ r) (λc r=>by rw[aE^d c b r];show r) λc i r=>by rw[aE^f c i r];show r
   rcases l with rfl|l
   .show a
   .rintro rfl
    rcases o with z|z
    .show d c b l z
    .rw[l]at z;cases z;show j A2
end
structure Un (fs ex:List vb)(H H':Hp)(h h':rl):Prop where
 keep:∀b o,h.get? b=!o->H b=bF->b∉fs->b∉ex->h'.get? b=some o
 slot:∀b o,h.get? b=!o->H b=bF->b∈fs->b∉ex->∃sl,h'.get? b=some {o with slots:=sl}
 free:∀b o,h.get? b=!o->H b=bF->b∉ex->H' b=bF
 there:∀b o,h.get? b=!o->b∉ex->∃o',h'.get? b=some o'
 jn:∀b xs,H b=!.tup xs->H' b=some (.tup xs)
 jf:∀b o u,H b=!.dj o u->H' b=some (.dj o u)
 jF:∀b ps,H b=!.kL ps->∃more,H' b=!.kL (ps++more)
section
variable {fs fs' ex ex':List vb}{H H1 H2:Hp}{h h1 h2 h':rl}{a x e:vb}{o:HO}
def Un.any(u:Un fs ex H H1 h h1)(q:h.get? b=!c)(n:H b=bF)(d:b∉ex):∃g,h1.get? b=!{c with slots:=g}:=by
 by_cases f:b∈fs
 .show u.slot b c q n f d
 .show{c.slots,u.keep b c q n f d}
def Un.kept (k:∀b u,h.get? b=!u->h'.get? b=!u):Un fs ex H H h h':=
 {λb c q _ _ _=>k b c q,λb c q _ _ _=>{c.slots,k b c q},λ_ _ _ n _=>n,λb c q _=>{c,k b c q},λ_ _ q=>q,λ_ _ _ q=>q,λ_ d q=>{`r,by rw[q];simp}}
def Un.refl:Un fs ex H H h h:=Un.kept λ_ _ q=>q
def Un.laid (k:∀b u,h.get? b=!u->h'.get? b=!u)(hp:h.objs.size<=a)(hn:H a=bF):Un fs ex H (upd H a o) h h' where
 keep:=λb u q _ _ _=>k b u q
 slot:=λb u q _ _ _=>{u.slots,k b u q}
 free:=λb u q n _=>by rw[aE^Rp^Rx (Re q) hp];show n
 there:=λb u q _=>{u,k b u q}
 jn:=λb xs q=>by rw[aE^dy q hn];show q
 jf:=λb u xs q=>by rw[aE^dy q hn];show q
 jF:=λb ps q=>{`r,by rw[aE^dy q hn,q];simp}
def Un.write (d:rV^H x)(l:e=x\/H e=!.own x)(k:∀b u,b≠e->h.get? b=!u->h'.get? b=!u)(f:∃u,h'.get? e=!u):Un fs ex H (upd H x o) h h':=by
 let i:∀b,H b=bF->b≠x:=λb n z=>by subst z;rw[n]at d;show d
 let j:∀b,H b=bF->b≠e:=λb n z=>by
  subst z;rcases l with r|r
  .show i b n r
  .rw[n]at r;cases r
 let g:∀b u,H b=!u->¬rV^!u->b≠x:=λb u q m z=>by subst z;rw[q]at d;show m d
 show{λb u q n _ _=>k b u (j b n) q,λb u q n _ _=>{u.slots,k b u (j b n) q},λb u q n _=>by rw[aE^i b n];show n,λb u q _=>?_,
  λb p q=>by rw[aE^g b _ q λz=>z];show q,λb u p q=>by rw[aE^g b _ q λz=>z];show q,λb s q=>{`r,by rw[aE^g b _ q λz=>z,q];simp}}
 by_cases c:b=e
 .subst c;show f
 .show{u,k b u c q}
end
def qa (h:rl)(H:Hp):List vb:=(List.range h.objs.size).filter λa=>(H a).isSome
def lP (h:rl)(H:Hp):rl:=PySem.W.hideAll h^qa h H
def IB (h:rl)(H:Hp):(lP h H).objs.size=h.objs.size:=W.hideAll_size _ _
def Hs{h:rl}{H:Hp}(e:h.get? b=!o)(n:H b=bF):(lP h H).get? b=!o:=
 W.hideAll_get _ e λa=>by
  let q:(H b).isSome=bU:=(Q4.mp a).2;rw[n]at q;simp at q
def JX(e:(lP h H).get? b=!o):h.get? b=!o/\H b=bF:=by
 let a:h.get? b=!o:=W.of_hideAll (qa h H) e;show{a,?_};cases q:H b with
 |none=>rfl
 |some x=>
  let c:b∈qa h H:=Q4.mpr {TD.mpr^Re a,by simp[q]};let z:(lP h H).get? b=bF:=Wa (qa h H) c;rw[z]at e;cases e

end L2
namespace L2
open PySem PySem.Spec PyProof.Rows
structure Mod (K:kc)(mg:Str->Option wj)(base:rl):Prop where
 fR:K.In base
 glob:base.Ns jk mg
 blt:∃mb,base.Ns builtinsNs mb/\∀x:Str,x≠"__name__"->mb x=bootBuiltins x
 nolimit:base.NoLimit
structure Cx where
 prog:qj
 w:pa
 K:kc
 mg:Str->Option wj
 base:rl
 A:om
 N:List Str
 s₀:ot
 H₀:Hp
 env:Env
 outer:List Env
 stack:List Env
 ex:List vb
 fn:Str->Bool
 calm:Bool
 pn:List (vb×Obj)
 xe:wj->ot->Prop
def dr (l:List Env):List vb:=l.filterMap (·.frame)
abbrev Cx.fs (X:Cx):List vb:=dr X.outer
def rX (sc:Scope)(x:Str):Prop:=sc.names.lookup x=!.local\/sc.names.lookup x=!.cell\/sc.names.lookup x=!.free
def Loc (sc:Scope)(x:Str):Prop:=sc.names.lookup x=!.local\/sc.names.lookup x=!.cell
def Look (env:Env)(h:rl)(m:Str->Option wj)(x:Str)(u:wj):Prop:=
 (env.kindOf x=!.local/\m x=!u)\/((env.kindOf x=!.cell\/env.kindOf x=!.free)/\∃c,env.cells.lookup x=!c/\h.IsCell c^!u)
structure Cx.Ok (X:Cx):Prop where
 mod:Mod X.K X.mg X.base
 kind:X.env.scope.kind=.function
 glob:X.env.globals=jk
 blt:X.env.builtins=builtinsNs
 above:X.s₀.heap.objs.size<=X.env.locals
 inj:∀x y c,X.env.cells.lookup x=!c->X.env.cells.lookup y=!c->x=y
 has:∀x,(X.env.kindOf x=!.cell\/X.env.kindOf x=!.free)->∃c,X.env.cells.lookup x=some c
 nZ:∀x c,X.fn x=bU->X.env.cells.lookup x=!c->X.s₀.heap.objs.size<=c
 hd:X.calm=bU->X.A.handled=bF
 frames:X.A.frames=some X.stack
 fW:X.stack=X.outer\/(X.stack=X.env::X.outer/\X.env.frame=!X.env.locals)
 tU:∀b∈X.ex,b≠X.env.locals/\∀x c,X.env.cells.lookup x=!c->c≠b
 bs:∀b o,X.base.get? b=!o->X.s₀.heap.get? b=!o/\X.H₀ b=bF
 kT:X.base.objs.size<=X.s₀.heap.objs.size
 nW:∀b o,X.base.get? b=!o->b∉X.ex
 qD:∀b∈X.ex,b∉X.fs
 iu:X.s₀.heap.FunFrames X.base X.outer
 lQ:∀b∈X.fs,X.H₀ b=bF
structure Inv (X:Cx)(pins:`l)(σ:List^Option V)(H:Hp)(s:ot):Prop where
 ok:X.Ok
 os:s.os=X.s₀.os
 bare:p0 s.gens
 base:Un X.fs X.ex X.H₀ H X.s₀.heap s.heap
 loc:∃m,s.heap.Ns X.env.locals m/\∀(i:Nat) (x:Str) (v:V),X.N[i]?=!x->σ[i]?=!!v->rX X.env.scope x->∃u,RelV v u/\Look X.env s.heap m x u
 cell:∀x c,X.env.cells.lookup x=!c->∃v,s.heap.IsCell c v
 free:H X.env.locals=bF
 gN:∀x c,X.env.cells.lookup x=!c->H c=bF
 pin:∀p∈X.pn++pins,s.heap.get? p.1=!p.2/\H p.1=bF/\p.1≠X.env.locals/\p.1∉X.fs/\∀v,p.2.data≠.cell v
 au:du X.prog X.w H s.heap
 len:σ.length=X.N.length
section
variable {X:Cx}{pins:List (vb×Obj)}{σ:List^Option V}{H H':Hp}{s:ot}{h':rl}
def Cx.Ok.II(a:X.Ok)(e:X.base.get? b=!o):b∉X.fs:=λc=>by
 have:=(a.iu.mem c).1;rw[e]at this;cases this
theorem Inv.bs (I:`e):∀b o,X.base.get? b=!o->s.heap.get? b=!o/\H b=bF:=λb o e=>
 {I.base.keep b o (I.ok.bs b o e).1 (I.ok.bs b o e).2 (I.ok.II e)<|I.ok.nW b o e,I.base.free b o (I.ok.bs b o e).1 (I.ok.bs b o e).2<|I.ok.nW b o e}
def Inv.bk (I:`e):∀b o,X.base.get? b=!o->s.heap.get? b=!o:=λb o e=>(I.bs b o e).1
theorem Inv.mod (I:`e):Mod X.K X.mg X.base:=I.ok.mod
def Inv.dL (I:`e):X.K.In s.heap:=I.ok.mod.fR.keeps I.bk
theorem Inv.lt (I:`e):X.env.locals<s.heap.objs.size:=let⟨_,a,_⟩:=I.loc;a.lt
def Inv.sz (I:`e):X.s₀.heap.objs.size<=s.heap.objs.size:=Rh I.ok.above^Sf I.lt
def Inv.HB(I:`e)(h:s.heap.objs.size<=a):a∉X.fs:=λb=>by
 let{_,o,c,_}:=I.ok.iu.mem b;show absurd (Rx (Re c)^Rh I.sz h)^Sm _
def Inv.kI (I:`e):∀x c,X.env.cells.lookup x=!c->c≠X.env.locals:=λx c e z=>by
 let{v,o,d,f}:=I.cell x c e;let{m,{g,h,i,a,b,_},_}:=I.loc;rw[z,a]at d;cases d;rw[b]at f;cases f
theorem Inv.iu (I:`e):s.heap.FunFrames X.base X.outer:=by
 let all:∀(l:List Env),(∀b∈dr l,b∈X.fs)->X.s₀.heap.FunFrames X.base l->s.heap.FunFrames X.base l:=by
  intro l;induction l with
  |nil=>intro _ _;trivial
  |cons g r h=>
   intro f i;let{j,{L,o,a,k,m,n},p}:=i;let c:L∈X.fs:=f L (by unfold dr;rw[Sj,a];show QQ);let{q,e}:=I.base.slot L o m (I.ok.lQ L c) c λz=>I.ok.qD L z c;show{j,{L,_,a,k,e,n},h (λb d=>f b^by unfold dr;rw[Sj,a];show QM _ d) p}
 show all X.outer (λ_ d=>d) I.ok.iu
theorem Inv.stack (I:`e):s.heap.FunFrames X.base X.stack:=by
 rcases I.ok.fW with e|⟨e,a⟩
 .rw[e];show I.iu
 .rw[e]
  let{m,b,_}:=I.loc;show .cons (by rw[I.ok.kind];decide) a b ?_ I.iu;show rl.get?_none_of_le^Rh I.ok.kT I.ok.above
def Inv.zR (I:`e):∀b∈dr X.stack,b∈X.env.locals::X.fs:=λb a=>by
 rcases I.ok.fW with e|⟨e,c⟩
 .rw[e]at a;show QM _ a
 .rw[e]at a
  unfold dr at a;rw[Sj,c]at a;show a
def Inv.zj (I:`e):∀b∈dr X.stack,H b=bF:=λb a=>by
 rcases QZ.mp (I.zR b a)with e|a
 .rw[e];show I.free
 .let{_,o,c,_}:=I.ok.iu.mem a;show I.base.free b o c (I.ok.lQ b a) λz=>I.ok.qD b z a
def Inv.step{ch:ZX}(I:`e)
  (f:`t)
  (keep:∀b o,b≠X.env.locals->b∉X.fs->b∉ch->s.heap.get? b=!o->H b=bF->h'.get? b=!o)
  (y:∀b o,b≠X.env.locals->b∈X.fs->b∉ch->s.heap.get? b=!o->H b=bF->∃O,h'.get? b=!{o with slots:=O}) (free:∀b o,b∉ch->s.heap.get? b=!o->H b=bF->H' b=bF)
  (B:∀b o,b∉ch->s.heap.get? b=!o->∃G,h'.get? b=!G)
  (jn:∀b A,H b=!.tup A->H' b=!.tup A) (jf:∀b o u,H b=!.dj o u->H' b=!.dj o u) (jF:∀b N,H b=!.kL N->∃J,H' b=!.kL (N++J))
  (ns:∀m,s.heap.Ns X.env.locals m->h'.Ns X.env.locals m) (au:du X.prog X.w H' h') (hg:p0 g'):
  Inv X pins σ H' {s with heap:=h',gens:=g',drawn:=d',toks:=t'}:=by
 let L:∀b o,X.s₀.heap.get? b=!o->b≠X.env.locals:=λb o e=>Rp^Rx (Re e) I.ok.above
 let j:∀b o,X.s₀.heap.get? b=!o->b∉X.ex->b∉ch:=λb o e a C=>by
  rcases(f b C).1 with z|z
  .show a z
  .show absurd (Rx (Re e) z)^Sm _
 let g:∀x c,X.env.cells.lookup x=!c->∀v,s.heap.IsCell c v->h'.IsCell c v:=λx c e v q0=>by
  let{o,E,Q}:=q0;let h:c∉ch:=λz=>(f c z).2.2.1 x c e A2;by_cases U:c∈X.fs
  .let{O,q}:=y c o (I.kI x c e) U h E^I.gN x c e;show{_,q,Q}
  .show{o,keep c o (I.kI x c e) U h E^I.gN x c e,Q}
 show{I.ok,I.os,hg,{λb o e n C a=>?_,λb o e n C a=>?_,λb o e n a=>?_,λb o e a=>?_,λb A e=>jn b A^I.base.jn b A e,λb o A e=>jf b o A^I.base.jf b o A e,λb N e=>?_},?_,λx c e=>?_,?_,λx c e=>?_,λp Y=>?_,au,I.len}
 .show keep b o (L b o e) C (j b o e a) (I.base.keep b o e n C a)^I.base.free b o e n a
 .let{O,t}:=I.base.slot b o e n C a;let{T,M}:=y b _ (L b o e) C (j b o e a) t^I.base.free b o e n a;show{T,M}
 .let{G,t}:=I.base.there b o e a;show free b G (j b o e a) t^I.base.free b o e n a
 .let{G,t}:=I.base.there b o e a;show B b G (j b o e a) t
 .let{m1,t}:=I.base.jF b N e;let{m2,M}:=jF b _ t;show{m1++m2,by rw[M,Array.append_assoc]}
 .let{m,hn,hl}:=I.loc;show{m,ns m hn,λi x v t M e3=>?_};let{u,r,l}:=hl i x v t M e3;show{u,r,?_};rcases l with l|⟨k,c,e,z⟩
  .show .inl l
  .show .inr {k,c,e,g x c e _ z}
 .let{v,z}:=I.cell x c e;show{v,g x c e v z}
 .let{m,{o,_,_,E,_},_}:=I.loc;show free _ o (λz=>(f _ z).2.1 A2) E I.free
 .let{v,o,E,Q}:=I.cell x c e;show free c o (λz=>(f c z).2.2.1 x c e A2) E^I.gN x c e
 .let{e,n,ne,nf,d}:=I.pin p Y;let h:p.1∉ch:=λz=>(f p.1 z).2.2.2 p Y A2;show{keep p.1 p.2 ne nf h e n,free p.1 p.2 h e n,ne,nf,d}
def Inv.un(I:`e)(u:Un X.fs [] H H' s.heap h')(au:du X.prog X.w H' h'):Inv X pins σ H' {s with heap:=h',toks:=t'}:=by
 let{m,{o,k,l,g,r},_}:=id I.loc;let{p,h}:=u.any g I.free Z8;show I.step (g':=s.gens) (d':=s.drawn) (ch:=[]) (λ_ z=>nomatch z) (λb o _ c _ e n=>u.keep b o e n c Z8) (λb o _ c _ e n=>u.slot b o e n c Z8) (λb o _ e n=>u.free b o e n Z8) (λb o _ e=>u.there b o e Z8) u.jn u.jf u.jF (λq i=>by
  let{t,d,f,a,j}:=i;rw[g]at a;cases a;show{_,d,f,h,j}) au I.bare
def Inv.call(I:`e)(u:Un (dr X.stack) ch H H' s.heap h')(au:du X.prog X.w H' h')(k:p0 g')
  (d:`t):
  Inv X pins σ H' {s with heap:=h',gens:=g',drawn:=d',toks:=t'}:=by
 let{m,{o,v,y,j,r},_}:=id I.loc;let{A,g}:=u.any j I.free λz=>(d _ z).2.1 A2;show I.step (ch:=ch) d (λb o g l a e n=>u.keep b o e n (λz=>(QZ.mp^I.zR b z).elim g l) a) (λb o _ _ a e n=>u.any e n a) (λb o a e n=>u.free b o e n a) (λb o a e=>u.there b o e a) u.jn u.jf u.jF (λB q=>by
  let{C,h,i,f,t}:=q;rw[j]at f;cases f;show{_,h,i,g,t}) au k
def Inv.turned(I:`e)(k:∀b o,b≠a->s.heap.get? b=!o->h'.get? b=!o)(h:H a=bF)(g:a≠X.env.locals)
  (i:a∈X.ex\/X.s₀.heap.objs.size<=a) (j:∀x c,X.env.cells.lookup x=!c->c≠a) (l:∀p∈X.pn++pins,p.1≠a):Inv X pins σ H {s with heap:=h',toks:=t'}:=by
 let f:∀b u,H b=!u->b≠a:=λb u e z=>by rw[z,h]at e;cases e
 show I.step (g':=s.gens) (d':=s.drawn) (ch:=[a]) (λb t=>?_) (λb o _ _ d e _=>k b o (λz=>d^by simp[z]) e) (λb o _ _ d e _=>{o.slots,k b o (λz=>d^by simp[z]) e}) (λ_ _ _ _ n=>n)
  (λb o d e=>{o,k b o (λz=>d^by simp[z]) e}) (λ_ _ e=>e) (λ_ _ _ e=>e) (λb C e=>{`r,by rw[e];simp}) (λm w=>?_) (λb u e=>?_) I.bare
 .let e:b=a:=by simpa using t
  subst e;show{i,g,j,l}
 .let{o,y,A,B,r}:=w;show{o,y,A,k _ o (RG g) B,r}
 .show(I.au b u e).jr (λc v d q=>k c v ?_ q) (λ_ q=>q) λ_ _ q=>q
  rcases d with z|z
  .rw[z];show f b u e
  .show f c _ z
def Inv.tok (I:`e)(t:Nat):Inv X pins σ H {s with toks:=t}:=I.un (h':=s.heap) (t':=t) Un.refl I.au
theorem Inv.kept(I:`e)(k:∀b u,s.heap.get? b=!u->h'.get? b=!u):Inv X pins σ H {s with heap:=h',toks:=t'}:=I.un (Un.kept k)^I.au.kept k
theorem Inv.laid(I:`e)(k:∀b u,s.heap.get? b=!u->h'.get? b=!u)(c:s.heap.objs.size<=a)(d:bZ X.prog X.w (upd H a o) h' a o):
  Inv X pins σ (upd H a o) {s with heap:=h',toks:=t'}:=I.un (Un.laid k c^I.au.fresh c)^I.au.laid k c d
theorem Inv.write(I:`e)(d:rV^H x)(f:e=x\/H e=!.own x)(k:∀b u,b≠e->s.heap.get? b=!u->h'.get? b=!u)(a:∃u,h'.get? e=!u)
  (c:bZ X.prog X.w (upd H x o) h' x o):Inv X pins σ (upd H x o) {s with heap:=h',toks:=g}:=I.un (Un.write d f k a)^I.au.write d f k a c
def Inv.u6 {a:ZV}(I:`e)(h:∀p∈a,s.heap.get? p.1=!p.2/\H p.1=bF/\p.1≠X.env.locals/\p.1∉X.fs/\∀v,p.2.data≠.cell v):Inv X a σ H s:=
 {I.ok,I.os,I.bare,I.base,I.loc,I.cell,I.free,I.gN,λp b=>(Rc.mp b).elim (λz=>I.pin p^Q2 _ z)^h p,I.au,I.len}
def EH{N:ZY}(c:N.Nodup){i j:Nat}(a:N[i]?=!x)(b:N[j]?=!x):i=j:=by
 let{f,d}:=QN.mp a;let{g,e}:=QN.mp b;show(List.getElem_inj c).mp^d.trans e.symm
def CA{i:Nat}{Q:Unit->ot->Prop}(I:`e)(hN:X.N.Nodup)(hi:X.N[i]?=!x)(B:Loc X.env.scope x)(r:RelV v u)
  (h:∀s',Inv X pins (σ.set i^!v) H s'->(∃a,rl.SameBut a s.heap s'.heap/\(a=X.env.locals\/X.env.cells.lookup x=!a))->Q () s') (hf:X.fn x=bU\/X.env.scope.names.lookup x=!.local:=by first|show .inl rfl|show .inr rfl|assumption):gE M A (storeName X.env x u) Q E s:=by
 let{m,hn,hl}:=id I.loc;let ab:(X.env.scope.kind==.class||(X.env.scope.kind==.module&&X.env.locals !=X.env.globals))=fF:=by rw[I.ok.kind];rfl
 let J:i<σ.length:=by rw[I.len];show(QN.mp hi).1
 let kI:=I.kI;let g:∀{a:vb} {Y:rl},(∃o,s.heap.get? a=!o/\H a=bF)->rl.SameBut a s.heap Y->du X.prog X.w H Y:=λ{a Y} ha f b ob e=>by
  let{_,_,C}:=ha;show(I.au b ob e).jr (λc w' t q=>(f.2 c ?_).trans q) (λ_ q=>q) λ_ _ q=>q;rintro rfl;rcases t with rfl|t
  .rw[C]at e;cases e
  .rw[C]at t;cases t
 rcases B with L|L
 .show wpAny_storeName_local L hn (λY an f=>?_) ab
  let{oL,_,_,ao,_}:=id hn;show h _ {I.ok,I.os,I.bare,{λb o e n O B=>?_,λb o e n O B=>?_,I.base.free,λb o e B=>?_,I.base.jn,I.base.jf,I.base.jF},{_,an,λj y v' l G e3=>?_},λy c e=>?_,I.free,I.gN,λp hp=>?_,g {oL,ao,I.free} f,by simpa using I.len} {_,f,.inl A2}
  .show(f.2 b^Rp^Rx (Re e) I.ok.above).trans^I.base.keep b o e n O B
  .let{sl,l}:=I.base.slot b o e n O B;show{sl,(f.2 b^Rp^Rx (Re e) I.ok.above).trans l}
  .let{o',l}:=I.base.there b o e B;show{o',(f.2 b^Rp^Rx (Re e) I.ok.above).trans l}
  .by_cases T:j=i
   .subst T;rw[hi]at l;cases l;rw[Q3 J]at G;cases G;show{u,r,.inl {L,by simp}}
   .rw[QS^RG T]at G
    let{u',r',q}:=hl j y v' l G e3;show{u',r',?_};rcases q with⟨k,e⟩|⟨k,c,e,z⟩
    .show .inl {k,?_}
     have:y≠x:=λe=>T<|EH hN l<|e▸hi
     simp[this,e]
    .show .inr {k,c,e,z.sameBut f^kI y c e}
  .let{w',z}:=I.cell y c e;show{w',z.sameBut f^kI y c e}
  .let{e,n,ne,nf,d}:=I.pin p hp;show{(f.2 p.1 ne).trans e,n,ne,nf,d}
 .let U:X.fn x=bU:=by
   rcases hf with z|z
   .show z
   .rw[z]at L;cases L
  let{c,t}:=I.ok.has x^.inl L;let{w',z}:=I.cell x c t;show wpAny_storeName_cell I.ok.kind L t z λY ac f=>?_;let{oc,af,aj}:=id z;show h {s with heap:=Y} {I.ok,I.os,I.bare,{λb o e n O B=>?_,λb o e n O B=>?_,I.base.free,λb o e B=>?_,I.base.jn,I.base.jf,I.base.jF},{m,hn.sameBut f^RG^kI x c t,λj y v' l G e3=>?_},λy c' e=>?_,I.free,I.gN,λp hp=>?_,g {oc,af,I.gN x c t} f,by simpa using I.len} {c,f,.inr t}
  .show(f.2 b^Rp^Rx (Re e)^I.ok.nZ x c U t).trans^I.base.keep b o e n O B
  .let{sl,l}:=I.base.slot b o e n O B;show{sl,(f.2 b^Rp^Rx (Re e)^I.ok.nZ x c U t).trans l}
  .let{o',l}:=I.base.there b o e B;show{o',(f.2 b^Rp^Rx (Re e)^I.ok.nZ x c U t).trans l}
  .by_cases T:j=i
   .subst T;rw[hi]at l;cases l;rw[Q3 J]at G;cases G;show{u,r,.inr {.inl L,c,t,ac}}
   .rw[QS^RG T]at G
    let{u',r',q}:=hl j y v' l G e3;show{u',r',?_};rcases q with q|⟨k,c',e,z'⟩
    .show .inl q
    .show .inr {k,c',e,z'.sameBut f ?_}
     rintro rfl;show T<|EH hN l<|I.ok.inj _ _ _ e t▸hi
  .by_cases am:c'=c
   .subst am;show{_,ac}
   .let{w2,z2}:=I.cell y c' e;show{w2,z2.sameBut f am}
  .let{e,n,ne,nf,d}:=I.pin p hp;show{(f.2 p.1 ?_).trans e,n,ne,nf,d};intro q;rw[q,af]at e;let q':oc=p.2:=Q5 e;show d w'^by rw[<-q'];show aj
def wY{i:Nat}{Q:Unit->ot->Prop}(I:`e)(b:X.N.Nodup)(c:X.N[i]?=!x)(d:Loc X.env.scope x)(r:RelV v u)
  (h:∀a,Inv X pins (σ.set i^!v) H a->Q () a) (e:X.fn x=bU\/X.env.scope.names.lookup x=!.local:=by first|show .inl rfl|show .inr rfl|assumption):gE M A (storeName X.env x u) Q E s:=
 CA I b c d r (λa f _=>h a f) e
def Inv.CQ{a:ot}(I:`e)(f:a.os=s.os)(u:Un (dr X.stack) ch H H' s.heap a.heap)(au:du X.prog X.w H' a.heap)(g:p0 a.gens)
  (d:`t):Inv X pins σ H' a:=by
 let{l,h,i,j,k}:=a;let e:k=s.os:=f;subst e;show I.call (g':=h) (t':=j) (d':=i) u au g d
end
abbrev XK:=wj->Option vb->Hp->Prop
abbrev St:=List^Option V
abbrev VK:=V->Hp->Prop
abbrev TE:=St->Hp->VK->Prop
abbrev TT:=St->Hp->(Bool->Hp->Prop)->Prop
abbrev TA:=St->Hp->(List V->Hp->Prop)->Prop
structure Ends where
 nx:St->Hp->Prop
 rt:VK
 bk:St->Hp->Prop:=fun _ _=>False
 ct:St->Hp->Prop:=fun _ _=>False
abbrev TS:=Ends->St->Hp->Prop
def EP (X:Cx)(pins:`l)(σ:St)(Q:VK)(u:wj)(s':ot):Prop:=∃v H',Inv X pins σ H' s'/\RelV v u/\Q v H'
def TP (X:Cx)(pins:`l)(σ:St)(Q:Bool->Hp->Prop)(b:Bool)(s':ot):Prop:=∃H',Inv X pins σ H' s'/\Q b H'
def AP (X:Cx)(pins:`l)(σ:St)(Q:List V->Hp->Prop)(us:List wj)(s':ot):Prop:=∃vs H',Inv X pins σ H' s'/\bn vs us/\Q vs H'
def SP (X:Cx)(pins:`l)(D:Ends)(f:Flow)(s':ot):Prop:=
 match f with
 |.next=>∃σ' H',Inv X pins σ' H' s'/\D.nx σ' H'
 |.brk=>∃σ' H',Inv X pins σ' H' s'/\D.bk σ' H'
 |.cont=>∃σ' H',Inv X pins σ' H' s'/\D.ct σ' H'
 |.ret u=>∃v σ' H',Inv X pins σ' H' s'/\RelV v u/\D.rt v H'
def PE (X:Cx)(e:sH)(t:TE):Prop:=
 ∀(pins:`l) (s:ot) (σ:St) (H:Hp) (Q:VK),Inv X pins σ H s->t σ H Q->gE `d X.A (y1 e X.env) (EP X pins σ Q) X.xe s
def PT (X:Cx)(e:sH)(t:TT):Prop:=
 ∀(pins:`l) (s:ot) (σ:St) (H:Hp) (Q:Bool->Hp->Prop),Inv X pins σ H s->t σ H Q->gE `d X.A (isTrue e X.env^y1 e X.env) (TP X pins σ Q) X.xe s
def PW (X:Cx)(e:sH)(t:TT):Prop:=
 ∀(hZ:Sem wj) (pins:`l) (s:ot) (σ:St) (H:Hp) (Q:Bool->Hp->Prop),Inv X pins σ H s->t σ H Q->gE `d X.A (isTrue e X.env hZ) (TP X pins σ Q) X.xe s
def PW.pt(h:PW X e t):PT X e t:=h _
def PA (X:Cx)(es:List sH)(t:TA):Prop:=
 ∀(pos:Pos) (pins:`l) (s:ot) (σ:St) (H:Hp) (Q:List V->Hp->Prop),Inv X pins σ H s->t σ H Q->gE `d X.A (spliced^gA pos^zA es X.env) (AP X pins σ Q) X.xe s
def PS (X:Cx)(st:uL)(t:TS):Prop:=
 ∀(pins:`l) (s:ot) (σ:St) (H:Hp) (D:Ends),Inv X pins σ H s->t D σ H->gE `d X.A (exec st X.env) (SP X pins D) X.xe s
def gi (X:Cx)(st:List uL)(t:TS):Prop:=
 ∀(pins:`l) (s:ot) (σ:St) (H:Hp) (D:Ends),Inv X pins σ H s->t D σ H->gE `d X.A (execs st X.env) (SP X pins D) X.xe s
def aQ{c:b->ot->Prop}(h:gE M A t Q E s)(d:∀a s,Q a s->c a s):gE M A t c E s:=RV h d λ_ _ x=>x
end L2
namespace L2
open PySem PySem.Spec PyProof.Rows
section
variable {X:Cx}
def aW (i:Nat):TE:=λσ H Q=>∃v,σ[i]?=!!v/\Q v H
def tC (v:V):TE:=λ_ H Q=>Q v H
def B9{i:Nat}(o:X.N[i]?=!x)(p:rX X.env.scope x)(j:`k=fF:=by decide)(k:(x==("__classdict__":Str))=fF:=by decide):PE X (.Name x g)^aW i:=by
 intro f s q H Q I h;let{v,e,h}:=h;let{m,t,w}:=I.loc;let{u,r,l}:=w i x v o e p;let b:EP X f q Q u s:={v,H,I,r,h}
 rcases l with⟨d,y⟩|⟨d,c,n,a⟩
 .show wpAny_Name (wpAny_loadName_local I.ok.kind d t y b) j
 .rcases d with d|d
  .show wpAny_Name (wpAny_loadName_cell I.ok.kind d n a b) j
  .show wpAny_Name (wpAny_loadName_free I.ok.kind d n a b k) j
def aD {i j a}:PE X (.Constant (.int i) j a)^tC^.int i:=λ_ _ _ H _ I h=>wpAny_Constant_int {.int i,H,I.tok _,{_,A2},h}
def cO {b j a}:PE X (.Constant (.bool b) j a)^tC^.bl b:=λ_ _ _ H _ I h=>Constant_bool {.bl b,H,I,A2,h}
def uM {j a}:PE X (.Constant .none j a)^tC .aw:=λ_ _ _ H _ I h=>Constant_none {.aw,H,I,A2,h}
def eU {x j a}:PE X (.Constant (.str x) j a)^tC^.str x:=λ_ _ _ H _ I h=>Calls.Constant_str {.str x,H,I.tok _,{_,A2},h}
def Gl (X:Cx)(x:Str):Prop:=X.env.kindOf x=!.globalImplicit
def oX{Q:ZT}(I:Inv X a c H s)(d:Gl X x)(e:X.mg x=!u)(h:Q u s)
  (f:`k=fF:=by decide):gE `d X.A (y1 (.Name x b) X.env) Q E s:=
 Vl I.ok.kind d (Calls.loadGlobal_global (by rw[I.ok.glob];show I.mod.glob.keeps I.bk) e h) f
def jH{Q:ZT}(I:Inv X a c H s)(d:Gl X x)(e:X.mg x=bF)(f:bootBuiltins x=!u)(h:Q u s)
  (g:x≠"__name__":=by decide) (i:`k=fF:=by decide):gE `d X.A (y1 (.Name x b) X.env) Q E s:=by
 let{l,j,k}:=I.mod.blt;show Vl I.ok.kind d (Calls.loadGlobal_builtin (by rw[I.ok.glob];show I.mod.glob.keeps I.bk) e (by rw[I.ok.blt];show j.keeps I.bk) ((k x g).trans f) h) i
def nz(b:Gl X x)(c:X.mg x=!u)(r:RelV v u)(d:`k=fF:=by decide):PE X (.Name x a)^tC v:=
 λ_ _ _ H _ I h=>oX I b c {v,H,I,r,h} d
def Gm(b:Gl X x)(c:X.mg x=bF)(d:bootBuiltins x=!u)(r:RelV v u)(e:x≠"__name__":=by decide)(f:`k=fF:=by decide):PE X (.Name x a)^tC v:=
 λ_ _ _ H _ I h=>jH I b c d {v,H,I,r,h} e f
variable {a b:sH}{ta tb:TE}{pos:Pos}
def PC (X:Cx)(op:CmpOp)(a b:sH)(t:TE):Prop:=
 ∀(pins:`l) (s:ot) (σ:St) (H:Hp) (Q:VK),Inv X pins σ H s->t σ H Q->
  gE `d X.A (y1 a X.env) (λv s₁=>gE `d X.A (y1 b X.env) (λu s₂=>gE `d X.A (rd op v u) (EP X pins σ Q) X.xe s₂) X.xe s₁) X.xe s
def tB (t:TE):TT:=λσ H Q=>t σ H λx H1=>∃c,x=.bl c/\Q c H1
def MW(h:PC X d a b t)(e:behindInMarks d b=fF:=by first|show MS _ Z1 Z1|rfl):PE X (.Compare a [d] [b] pos) t:=λc s f H Q I g=>wpAny_Compare1 (h c s f H Q I g) e
def lC(h:PC X f a b t)(g:behindInMarks f b=fF:=by first|show MS _ Z1 Z1|rfl):PT X (.Compare a [f] [b] pos)^tB t:=by
 intro e s i H Q I j;show wpAny_isTrue_Compare1 (aQ (h e s i H _ I j) λv p g=>aQ g λu r k=>aQ k λc w ⟨x,l,m,n,o⟩=>?_) g;let{d,rfl,q}:=o;cases n;show Sk {l,m,q}
def cS(h:PE X e t)(f:∀hZ,isTrue e X.env hZ=(do let v<-hZ;standAt e.pos;gD [v]^truthy v):=by intro _;rfl):PT X e^tB t:=by
 intro c s g H Q I i;show isTrue_plain (aQ (h c s g H _ I i) λv n ⟨x,j,k,l,m⟩=>?_)^f _
 let{d,rfl,q}:=m;cases l;show Sk {j,k,q}
variable {tA tB':TT}{rest:List sH}
def uR (t u:TT):TT:=λσ H Q=>t σ H λc H1=>if c=bU then u σ H1 Q else Q fF H1
def Bw (t u:TT):TT:=λσ H Q=>t σ H λc H1=>if c=bU then Q bU H1 else u σ H1 Q
def Gu (t:TT):TT:=λσ H Q=>t σ H λc H1=>Q (not c) H1
def kO (f:PT X a tA):PW X (.BoolOp .And [a] pos) tA:=by
 intro i d s g H Q I h;show isTrue_and^aQ (f d s g H Q I h) λc j e=>?_
 cases c with
 |true=>show isTrue_and_nil e
 |false=>show e
def iw (f:PT X a tA):PW X (.BoolOp .Or [a] pos) tA:=by
 intro i d s g H Q I h;show isTrue_or^aQ (f d s g H Q I h) λc j e=>?_
 cases c with
 |false=>show isTrue_or_nil e
 |true=>show e
def kz (j:PT X a tA)(k:PW X (.BoolOp .And (b::rest) pos) tB'):PW X (.BoolOp .And (a::b::rest) pos)^uR tA tB':=by
 intro l d s e H Q I h;show isTrue_and^aQ (j d s e H _ I h) λc m n=>?_
 let{f,g,i}:=n;cases c with
 |true=>show k l d m e f Q g i
 |false=>show{f,g,i}
def fM (j:PT X a tA)(k:PW X (.BoolOp .Or (b::rest) pos) tB'):PW X (.BoolOp .Or (a::b::rest) pos)^Bw tA tB':=by
 intro l d s e H Q I h;show isTrue_or^aQ (j d s e H _ I h) λc m n=>?_
 let{f,g,i}:=n;cases c with
 |true=>show{f,g,i}
 |false=>show k l d m e f Q g i
def d7 (e:PT X a tA):PT X (.UnaryOp .Not a pos)^Gu tA:=by
 intro d s f H Q I h;show isTrue_not^e d s f H (λc g=>Q (not c) g) I h
def uz (ta tb:TE):TE:=λσ H Q=>ta σ H λx H1=>∃c,x=.bl c/\if c=bU then tb σ H1 Q else Q (.bl fF) H1
def AE (ta tb:TE):TE:=λσ H Q=>ta σ H λx H1=>∃c,x=.bl c/\if c=bU then Q (.bl bU) H1 else tb σ H1 Q
def AD (ta:TE):TE:=λσ H Q=>ta σ H λx H1=>∃c,x=.bl c/\Q (.bl^not c) H1
def lR{d}(h:PE X a t):PE X (.BoolOp d [a] pos) t:=λc s e H Q I f=>BoolOp_one^h c s e H Q I f
def jI (j:PE X a ta)(k:PE X (.BoolOp .And (b::rest) pos) tb):PE X (.BoolOp .And (a::b::rest) pos)^uz ta tb:=by
 intro d s f H Q I h;show BoolOp_and^aQ (j d s f H _ I h) λv l m=>?_
 let{x,g,i,n,e}:=m;let{c,rfl,e}:=e;cases n;show Sk ?_;cases c with
 |true=>show k d l f g Q i e
 |false=>show{.bl fF,g,i,A2,e}
def LK (j:PE X a ta)(k:PE X (.BoolOp .Or (b::rest) pos) tb):PE X (.BoolOp .Or (a::b::rest) pos)^AE ta tb:=by
 intro d s f H Q I h;show BoolOp_or^aQ (j d s f H _ I h) λv l m=>?_
 let{x,g,i,n,e}:=m;let{c,rfl,e}:=e;cases n;show Sk ?_;cases c with
 |false=>show k d l f g Q i e
 |true=>show{.bl bU,g,i,A2,e}
def wT (f:PE X a ta):PE X (.UnaryOp .Not a pos)^AD ta:=by
 intro d s g H Q I h;show UnaryOp_^aQ (f d s g H _ I h) λv m i=>?_
 let{x,j,k,l,e}:=i;let{c,rfl,e}:=e;cases l;show not_of^Sk {.bl^not c,j,k,A2,e}
end
end L2
namespace L2
open PySem PySem.Spec PyProof.Rows
def aU (K:kc)(H:Hp)(a:vb)(xs:List V):Prop:=
 Rd H a^.lst xs\/
  ∃(o:Obj) (its:Array wj) (n:Nat),K.lookup a=!o/\o.cls=.type "list"/\o.dict=bF/\o.data=.seq its n/\its.size<=se/\bn xs its.toList
def bQ (K:kc)(H:Hp)(a:vb)(xs:List V):Prop:=
 Rd H a^.tup xs\/
  ∃(o:Obj) (its:Array wj) (n:Nat),K.lookup a=!o/\o.cls=.type "tuple"/\o.data=.seq its n/\its.size<=se/\bn xs its.toList
def HQ:wj->Option V
 |.none=>!.aw
 |.bool b=>!.bl b
 |.int i _=>!.int i
 |.str x _=>!.str x
 |.bytes b _=>!.iD b
 |.float b _=>!.ol b
 |.ref a=>!.ref a
 |.type n=>!.ty n
 |_=>bF
def RelV.abs(r:RelV x u):HQ u=!x:=by
 cases x with
 |aw=>cases r;rfl
 |bl _=>cases r;rfl
 |int _=>let{t,rfl}:=r;rfl
 |str _=>let{t,rfl}:=r;rfl
 |iD _=>let{t,rfl}:=r;rfl
 |ol _=>let{t,rfl}:=r;rfl
 |ref _=>cases r;rfl
 |ty _=>cases r;rfl
def RelV.inj(r:RelV x u)(q:RelV y u):x=y:=Q5^r.abs.symm.trans q.abs
theorem bn.inj:∀{a b:List V} {c:List wj},bn a c->bn b c->a=b
 |_,_,_,.nil,.nil=>rfl
 |_,_,_,.cons r t,.cons d e=>by rw[r.inj d,bn.inj t e]
section
variable {X:Cx}{pins:List (vb×Obj)}{σ:St}{H:Hp}{s:ot}{a:vb}{xs ys:List V}
def aU.of {K:kc}(h:H a=!.lst xs):aU K H a xs:=.inl^.inl h
def bQ.of {K:kc}(h:H a=!.tup xs):bQ K H a xs:=.inl^.inl h
def Inv.list (I:`e)(h:aU X.K H a xs):∃b:List wj,bn xs b/\PlainL s.heap a b.toArray/\xs.length<=se:=by
 rcases h with h|⟨o,b,n,c,d,f,g,i,r⟩
 .let{z,b,n,r,e}:=h.ok I.au;show{b,r,{_,n,e,A2,A2,A2},z}
 .show{b.toList,r,{o,n,I.dL a o c,d,f,by simpa using g},?_}
  let e:=r.length;simp only[RP]at e;omega
def Inv.tuple (I:`e)(h:bQ X.K H a xs):∃b:List wj,bn xs b/\IsTup s.heap a b.toArray/\xs.length<=se:=by
 rcases h with h|⟨o,b,n,c,d,f,g,r⟩
 .let{z,b,r,p}:=h.ok I.au;show{b,r,p,z}
 .show{b.toList,r,{o,I.dL a o c,d,n,by simpa using f},?_}
  let e:=r.length;simp only[RP]at e;omega
def Inv.vR (I:`e)(h:aU X.K H a xs)(i:aU X.K H a ys):xs=ys:=by
 let{c,r,{o,n,e,_,_,d},_}:=I.list h;let{b,j,{l,m,f,_,_,g},_}:=I.list i;rw[e]at f;cases f;rw[d]at g;injection g with k _;have:c=b:=by simpa using RF Array.toList k
 subst this;show r.inj j
def Inv.zw (I:`e)(h:bQ X.K H a xs)(i:bQ X.K H a ys):xs=ys:=by
 let{c,r,{o,e,_,n,d},_}:=I.tuple h;let{b,j,{l,f,_,m,g},_}:=I.tuple i;rw[e]at f;cases f;rw[d]at g;injection g with k _;have:c=b:=by simpa using RF Array.toList k
 subst this;show r.inj j
end
abbrev Cx.fz (X:Cx)(E:wj->ot->Prop):Cx:={X with xe:=E}
abbrev Cx.kq (X:Cx):Cx:=X.fz λ_ _=>False
theorem Cx.Ok.fz {X:Cx}(a:X.Ok)(E:ZT):(X.fz E).Ok:=
 {a.mod,a.kind,a.glob,a.blt,a.above,a.inj,a.has,a.nZ,a.hd,a.frames,a.fW,a.tU,a.bs,a.kT,a.nW,a.qD,a.iu,a.lQ}
def Cx.Ok.iT{X:Cx}(a:(X.fz E).Ok):X.Ok:=
 {a.mod,a.kind,a.glob,a.blt,a.above,a.inj,a.has,a.nZ,a.hd,a.frames,a.fW,a.tU,a.bs,a.kT,a.nW,a.qD,a.iu,a.lQ}
section
variable {X:Cx}{pins:List (vb×Obj)}{σ:St}{H:Hp}{s:ot}{E:wj->ot->Prop}
theorem Inv.fz (I:`e)(E:ZT):Inv (X.fz E) pins σ H s:={I.ok.fz E,I.os,I.bare,I.base,I.loc,I.cell,I.free,I.gN,I.pin,I.au,I.len}
theorem Inv.iT (I:Inv (X.fz E) pins σ H s):Inv X pins σ H s:={I.ok.iT,I.os,I.bare,I.base,I.loc,I.cell,I.free,I.gN,I.pin,I.au,I.len}
theorem SP.iT{D:Ends}(h:SP (X.fz E) pins D f c):SP X pins D f c:=by
 cases f with
 |next=>let{a,b,I,q}:=h;show{a,b,I.iT,q}
 |brk=>let{a,b,I,q}:=h;show{a,b,I.iT,q}
 |cont=>let{a,b,I,q}:=h;show{a,b,I.iT,q}
 |ret u=>let{v,a,b,I,r,q}:=h;show{v,a,b,I.iT,r,q}
theorem gi.kq{st:List uL}(h:gi X.kq st t):gi X st t:=λa s b H D I c=>
 RV (h a s b H D (I.fz _) c) (λ_ _ q=>q.iT) λ_ _ z=>False.elim z
end
section
variable {X:Cx}{st:uL}{rest:List uL}{t u:TS}{e:sH}{te:TE}{pos:Pos}
def vv:TS:=λD σ H=>D.nx σ H
def ow (t u:TS):TS:=λD σ H=>t {D with nx:=u D} σ H
def cw:gi X [] vv:=λ_ _ a H _ I h=>T7 {a,H,I,h}
def aC (c:PS X st t)(d:gi X rest u):gi X (st::rest)^ow t u:=by
 intro a s g H D I h;show U2^aQ (c a s g H {D with nx:=u D} I h) λf i q=>?_
 cases f with
 |next=>
  let{b,j,k,q}:=q;show d a i b j D k q
 |ret v=>show q
 |brk=>show q
 |cont=>show q
def az (b:PS X st t):gi X [st] t:=by
 intro a s c H D I h;show U2^aQ (b a s c H D I h) λf d q=>?_
 cases f with
 |next=>show T7 q
 |ret v=>show q
 |brk=>show q
 |cont=>show q
def Mc:TS:=λD σ H=>D.bk σ H
def HN:PS X (.Break pos) Mc:=λ_ _ a H _ I h=>wpAny_Break {a,H,I,h}
def Inv.quiet(I:Inv X a b H s):interactive X.env=fF:=by simp[interactive,I.ok.kind]
def kQ (te:TE):TS:=λD σ H=>te σ H λ_ H1=>D.nx σ H1
def jy (c:PE X e te)(d:swapsWith e bF pos.line X.env=pure fF:=by rfl):PS X (.Expr e pos)^kQ te:=by
 intro a s b H D I h;show wpAny_Expr_any (aQ (c a s b H _ I h) λv k f=>by let{x,g,i,l,j}:=f;show{b,g,i,j}) I.quiet d
def ph (te:TE):TS:=λD σ H=>te σ H D.rt
def bz (c:PE X e te):PS X (.Return (!e) pos)^ph te:=by
 intro a s b H D I h;show wpAny_Return_some^aQ (c a s b H _ I h) λv k d=>by let{x,f,g,i,j}:=d;show{x,b,f,g,i,j}
def nK (c:TT)(t u:TS):TS:=λD σ H=>c σ H λb H1=>if b=bU then t D σ H1 else u D σ H1
def cc(n:PT X c i)(o:gi X a t)(p:gi X b u):PS X (.If c a b pos)^nK i t u:=by
 intro f s g H D I h;show wpAny_If^aQ (n f s g H _ I h) λd j q=>?_
 let{k,l,m}:=q;cases d with
 |true=>show o f j g k D l m
 |false=>show p f j g k D l m
def Ji:TS:=λ_ _ _=>False
def wI:PS X st Ji:=λ_ _ _ _ _ _ h=>h.elim
end
abbrev TG:=V->St->Hp->(St->Hp->Prop)->Prop
abbrev mK:=List V->St->Hp->(St->Hp->Prop)->Prop
def PG (X:Cx)(target:sH)(t:TG):Prop:=
 ∀(pins:`l) (s:ot) (σ:St) (H:Hp) (v:V) (u:wj) (Q:St->Hp->Prop),Inv X pins σ H s->RelV v u->t v σ H Q->
  gE `d X.A (assign target X.env u) (λ_ s'=>∃σ' H',Inv X pins σ' H' s'/\Q σ' H') X.xe s
def qM (X:Cx)(ts:List sH)(t:mK):Prop:=
 ∀(pins:`l) (s:ot) (σ:St) (H:Hp) (vs:List V) (us:List wj) (Q:St->Hp->Prop),Inv X pins σ H s->bn vs us->t vs σ H Q->
  gE `d X.A (assignInOrder ((assignEach ts X.env).map (·.2)) us) (λ_ s'=>∃σ' H',Inv X pins σ' H' s'/\Q σ' H') X.xe s
section
variable {X:Cx}{pos:Pos}
def cp (i:Nat):TG:=λv σ H Q=>Q (σ.set i^!v) H
def Jv{i:Nat}(b:X.N.Nodup)(c:X.N[i]?=!x)(d:Loc X.env.scope x)(e:X.fn x=bU\/X.env.scope.names.lookup x=!.local:=by first|show .inl rfl|show .inr rfl|assumption):PG X (.Name x pos)^cp i:=by
 intro a s g H v u Q I r h;show wpAny_assign_Name^wY I b c d r (λj f=>{_,H,f,h}) e
def pi:mK:=λvs σ H Q=>vs=[]/\Q σ H
def ki (t:TG)(u:mK):mK:=λvs σ H Q=>∃v r,vs=v::r/\t v σ H λσ' H'=>u r σ' H' Q
def lh:qM X [] pi:=by
 intro a s b H c d Q I r h;let{e,h}:=h;subst e;cases r;show assignInOrder_nil {b,H,I,h}
def fC(d:PG X e t)(f:qM X b u)
  (g:(assignEach (e::b) X.env).map (·.2)=assign e X.env::(assignEach b X.env).map (·.2):=by rfl):qM X (e::b)^ki t u:=by
 intro a s i H q w Q I r h;let{v,x,j,h}:=h;subst j;cases r with
 |cons r k=>
  rw[g];show assignInOrder_cons^aQ (d a s i H _ _ _ I r h) λ_ l m=>?_
  let{c,n,o,p}:=m;show f a l c n _ _ Q o k p
def pf (K:kc)(n:Nat)(t:mK):TG:=λv σ H Q=>∃a xs,v=.ref a/\bQ K H a xs/\xs.length=n/\t xs σ H Q
def mZ(l:X.calm=bU)(h:qM X d t)
  (m:(assignEach d X.env).length=n:=by rfl) (f:(assignEach d X.env).findIdx? (·.1)=bF:=by rfl):PG X (.Tuple d k pos)^pf X.K n t:=by
 intro c s i H v u Q I r g;let{a,p,q,w,x,g}:=g;subst q;cases r;let{y,j,z,E}:=I.tuple w;show assign_Tuple_tuple (I.ok.hd l) z (by simp[m,<-x,j.length]) f λA B=>?_;let C:Inv X c i H {s with heap:=A}:=I.kept (t':=s.toks) λb o e=>B b o (Rp^Re e) e;show h c _ i H p _ Q C (by simpa using j) g
def dX (te:TE)(g:TG):TS:=λD σ H=>te σ H λx H1=>g x σ H1 D.nx
def Nz(f:PE X e c)(i:PG X b g)(j:swapsWithSole [b] e pos.line X.env=pure fF:=by rfl)(k:swappedStores [b] e X.env=pure bF:=by rfl)
  (l:(assignEach [b] X.env).map (·.2)=[assign b X.env]:=by rfl):PS X (.Assign [b] e pos)^dX c g:=by
 intro a s d H D I h;show wpAny_Assign_stores (aQ (f a s d H _ I h) λv m ⟨x,n,o,p,r⟩=>?_) j k;rw[l];show aQ (i a m d n x v _ o p r) λ_ t q=>q
def DP{i:Nat}(d:X.N.Nodup)(f:X.N[i]?=!x)(g:Loc X.env.scope x)(j:PE X e c)(k:swapsWith e (!.Name x a) pos.line X.env=pure fF:=by rfl)(l:X.fn x=bU\/X.env.scope.names.lookup x=!.local:=by first|show .inl rfl|show .inr rfl|assumption):
  PS X (.Assign [.Name x a] e pos)^dX c^cp i:=by
 intro b s m H D I h;show wpAny_Assign_Name (aQ (j b s m H _ I h) λv t ⟨y,n,o,p,q⟩=>?_) k;show wY o d f g p (λu r=>{_,n,r,q}) l
end
section
variable {X:Cx}{pos:Pos}
def Co (c:TT)(tb:TS):TS:=λD σ H=>∃W:Nat->St->Hp->Prop,(∃m,W m σ H)/\∀m σ H,W m σ H->
 c σ H λb H1=>if b=bU then∃N:St->Hp->Prop,(∀σ' H',N σ' H'->∃m',m'<m/\W m' σ' H')/\tb {D with nx:=N,ct:=N,bk:=D.nx} σ H1 else D.nx σ H1
def wU(y:PassesOwn `d X.A X.env X.xe)(J:PT X c u)(L:gi X g x):PS X (.While c g [] pos)^Co u x:=by
 intro a s M H D I h;let{W,{O,Q},i}:=h;show wpAny_While^codeAny_whileLoop (λn T=>∃j z,Inv X a j z T/\W n j z) ?_ O {M,H,I,Q}
 rintro n U ⟨e,B,Y,w1⟩;show Tp y^aQ (J a U e B _ Y^i n e B w1) λb s2 q0=>?_;let{C,E,l}:=q0;cases b with
 |true=>
  let{N,G,l}:=l;rw[Q0 A2];show Tp y^aQ (L a s2 e C _ E l) λf s3 m=>?_;cases f with
  |next=>
   let{d,k,o,p}:=m;let{q,r,t}:=G d k p;show{q,r,d,k,o,t}
  |cont=>
   let{d,k,o,p}:=m;let{q,r,t}:=G d k p;show{q,r,d,k,o,t}
  |brk=>show m
  |ret v=>show m
 |false=>
  rw[QV QW];show T7 {e,C,E,l}
end
structure It where
 go:Nat->Hp->Prop
 qh:Nat->Hp->V->Hp->Prop
 stop:Nat->Hp->Prop
def jQ (X:Cx)(pins:`l)(H:Hp)(b:vb):Prop:=
 H b=bF/\b≠X.env.locals/\b∉X.fs/\(b∈X.ex\/X.s₀.heap.objs.size<=b)/\(∀x c,X.env.cells.lookup x=!c->c≠b)/\∀p∈X.pn++pins,p.1≠b
def Inv.iV{f:Hp}(I:Inv X a g H s)(d:s.heap.objs.size<=b)(h:f b=bF):jQ X a f b:=by
 show{h,Ta^Rx I.lt d,I.HB d,.inr^Rh I.sz d,λx c e z=>?_,λp i z=>?_}
 .let{v,q}:=I.cell x c e;show absurd (Rx q.lt^by rw[z];show d)^Sm _
 .show absurd (Rx (Re (I.pin p i).1)^by rw[z];show d)^Sm _
structure jJ (P:qj)(w:pa)(K:kc)(tg:sH)(J:It)(fp:List vb)(it:vb)(tn:Nat->rl->Prop):Prop where
 mem:it∈fp
 obj:∀i h,tn i h->∀b∈fp,∃o,h.get? b=!o/\∀v,o.data≠.cell v
 keep:∀i h h',tn i h->(∀b∈fp,∀o,h.get? b=!o->h'.get? b=!o)->tn i h'
 item:∀(X:Cx),X.prog=P->X.w=w->X.K=K->X.calm=bU->∀(i:Nat) (pins:`l) (s:ot) (σ:St) (H:Hp) (E:wj->ot->Prop),Inv X pins σ H s->(∀b∈fp,jQ X pins H b)->tn i s.heap->J.go i H->
  gE (y3 P w) X.A (pyNext^.ref it) (fun r s1=>∃u,r=!u/\
   gE (y3 P w) X.A (letOwnedTupleGo tg (.ref it) u) (fun _ s2=>∃x H',Inv X pins σ H' s2/\RelV x u/\J.qh i H x H'/\tn (i+1) s2.heap/\∀b∈fp,H' b=bF) E s1) E s
 done:∀(X:Cx),X.prog=P->X.w=w->X.K=K->X.calm=bU->∀(i:Nat) (pins:`l) (s:ot) (σ:St) (H:Hp) (E:wj->ot->Prop),Inv X pins σ H s->(∀b∈fp,jQ X pins H b)->tn i s.heap->J.stop i H->
  gE (y3 P w) X.A (pyNext^.ref it) (fun r s1=>r=bF/\Inv X pins σ H s1) E s
 self:∀(A:om) (i:Nat) (s:ot) (Q:wj->ot->Prop) (E:wj->ot->Prop),tn i s.heap->Q (.ref it) s->gE (y3 P w) A (pyIter^.ref it) Q E s
abbrev TI:=St->Hp->(It->Hp->Prop)->Prop
def BV (X:Cx)(pins:`l)(σ:St)(tg:sH)(R:It->Hp->Prop)(itv:wj)(s2:ot):Prop:=
 ∃(it:vb) (fp:List vb) (tn:Nat->rl->Prop) (J:It) (H':Hp),itv=.ref it/\Inv X pins σ H' s2/\jJ X.prog X.w X.K tg J fp it tn/\tn 0 s2.heap/\(∀b∈fp,jQ X pins H' b)/\R J H'
def PI (X:Cx)(tg iter:sH)(wi:TI):Prop:=
 ∀(pins:`l) (s:ot) (σ:St) (H:Hp) (R:It->Hp->Prop),Inv X pins σ H s->wi σ H R->
  gE `d X.A (y1 iter X.env) (λv s1=>gE `d X.A (pyIter v) (BV X pins σ tg R) X.xe s1) X.xe s
def pB{s:ot}{Q:Unit->ot->Prop}(e:s.heap.get? c=!o)(f:o.cls=.type n)(g:o.data=.fields d)
  (i:["enumerate","zip","dict_itemiterator","dict_reverseitemiterator","odict_iterator","itertools.zip_longest","itertools.pairwise"].contains n=fF) (a:Q () s):gE M A (letOwnedTupleGo b (.ref c) u) Q E s:=by
 unfold letOwnedTupleGo;cases b<;>first
  |show QX a
  |(cases u<;>first
    |show QX a
    |(show QL^wpAny_load e ?_
      rw[f,g];change gE M A (if(["enumerate","zip","dict_itemiterator","dict_reverseitemiterator","odict_iterator","itertools.zip_longest","itertools.pairwise"].contains n&&d[0]?==!rawInt _)=bU then _ else _) Q E s;rw[QV^by intro h;rw[i,Bool.false_and]at h;cases h];show QX a))
def CO (K:kc)(a:vb):It:=
 {λi H=>∃xs x,aU K H a xs/\xs[i]?=!x,λi H x H'=>H'=H/\∀xs,aU K H a xs->xs[i]?=!x,λi H=>∃xs,aU K H a xs/\xs.length<=i}
def Dq (K:kc)(a:vb):It:=
 {λi H=>∃xs x,bQ K H a xs/\xs[i]?=!x,λi H x H'=>H'=H/\∀xs,bQ K H a xs->xs[i]?=!x,λi H=>∃xs,bQ K H a xs/\xs.length<=i}
def ud (lo:Int)(n:Nat):It:={λi _=>i<n,λi H x H'=>H'=H/\x=.int (lo+i),λi _=>n<=i}
def LP {P:qj}{w:pa}{K:kc}{tg:sH}(a it:vb):jJ P w K tg (CO K a) [it] it (λi h=>h.IsListIter it a i) where
 mem:=by simp
 obj:=λi h st b hb=>by
  let e:b=it:=by simpa using hb
  subst e;let{o,e,c,d}:=st;show{o,e,λv z=>by rw[d]at z;cases z}
 keep:=λi h h' st k=>st.at λo e=>k it Z8 o e
 item:=by
  intro X hP hw hK hc i pins s σ H E I hf st hg;subst hP hw hK;let{xs,x,hq,hx}:=hg;let{its,rv,p,hz}:=I.list hq;let{u,hu,ru}:=rv.get hx;let{f0,f1,f2,f3,f4,f5}:=hf it Z8;show wpAny_pyNext_list_item st p.isList (x:=u) (by simpa using hu) λh' st' sb=>?_;let I1:Inv X pins σ H {s with heap:=h'}:=I.turned (t':=s.toks) (λb o hb e=>(sb.2 b hb).trans e) f0 f1 f3 f4 f5;let{o,e,c,d}:=id st';show{u,A2,pB (s:={s with heap:=h'}) e c d Z1 {x,H,I1,ru,{A2,λys hy=>by rw[I.vR hy hq];show hx},st',λb hb=>(hf b hb).1}}
 done:=by
  intro X hP hw hK hc i pins s σ H E I hf st hg;subst hP hw hK;let{xs,hq,hx}:=hg;let{its,rv,p,hz}:=I.list hq;let{f0,f1,f2,f3,f4,f5}:=hf it Z8;let hl:=rv.length;show wpAny_pyNext_list_end (I.ok.hd hc) st p.isList (by simp;omega) λh' eb=>`p
 self:=λ_ _ _ _ _ st h=>wpAny_pyIter_listiter st h
def Jx {P:qj}{w:pa}{K:kc}{tg:sH}(a it:vb):jJ P w K tg (Dq K a) [it] it (λi h=>h.IsTupleIter it a i) where
 mem:=by simp
 obj:=λi h st b hb=>by
  let e:b=it:=by simpa using hb
  subst e;let{o,e,c,d}:=st;show{o,e,λv z=>by rw[d]at z;cases z}
 keep:=λi h h' st k=>st.at λo e=>k it Z8 o e
 item:=by
  intro X hP hw hK hc i pins s σ H E I hf st hg;subst hP hw hK;let{xs,x,hq,hx}:=hg;let{its,rv,p,hz}:=I.tuple hq;let{u,hu,ru}:=rv.get hx;let{f0,f1,f2,f3,f4,f5}:=hf it Z8;show wpAny_pyNext_tuple_item st (show s.heap.IsTuple a its.toArray from p) (x:=u) (by simpa using hu) λh' st' sb=>?_;let I1:Inv X pins σ H {s with heap:=h'}:=I.turned (t':=s.toks) (λb o hb e=>(sb.2 b hb).trans e) f0 f1 f3 f4 f5;let{o,e,c,d}:=id st';show{u,A2,pB (s:={s with heap:=h'}) e c d Z1 {x,H,I1,ru,{A2,λys hy=>by rw[I.zw hy hq];show hx},st',λb hb=>(hf b hb).1}}
 done:=by
  intro X hP hw hK hc i pins s σ H E I hf st hg;subst hP hw hK;let{xs,hq,hx}:=hg;let{its,rv,p,hz}:=I.tuple hq;let{f0,f1,f2,f3,f4,f5}:=hf it Z8;let hl:=rv.length;show wpAny_pyNext_tuple_end (I.ok.hd hc) st (show s.heap.IsTuple a its.toArray from p) (by simp;omega) λh' eb=>`p
 self:=λ_ _ _ _ _ st h=>wpAny_pyIter_tupleiter st h
def JN {P:qj}{w:pa}{K:kc}{tg:sH}(it:vb)(lo:Int)(n:Nat):jJ P w K tg (ud lo n) [it] it (λi h=>IsRangeIter h it (lo+(i:Nat)*1) ((n:Int)-(i:Nat)) 1) where
 mem:=by simp
 obj:=λi h st b hb=>by
  let e:b=it:=by simpa using hb
  subst e;show{_,st,λv z=>by
   let z':Data.fields _=Data.cell v:=z;cases z'}
 keep:=λi h h' st k=>k it Z8 _ st
 item:=by
  intro X hP hw hK hc i pins s σ H E I hf st hg;subst hP hw hK;let{f0,f1,f2,f3,f4,f5}:=hf it Z8;let W:=Walks.range (prog:=X.prog) (w:=X.w) (I.ok.hd hc) it lo 1 n;show W.item i s _ _ hg st λv h' tk hv st' kk=>?_;let{t,rfl}:=hv;let I1:Inv X pins σ H {s with heap:=h',toks:=tk}:=I.turned (λb o hb e=>kk b o (by simpa using hb) e) f0 f1 f3 f4 f5;show{_,A2,pB (s:={s with heap:=h',toks:=tk}) (n:="range_iterator") st' A2 A2 Z1 {.int<|lo+i,H,I1,{t,?_},{A2,A2},st',λb hb=>(hf b hb).1}};rw[Int.mul_one]
 done:=by
  intro X hP hw hK hc i pins s σ H E I hf st hg;subst hP hw hK;let{f0,f1,f2,f3,f4,f5}:=hf it Z8;show wpAny_pyNext_range_end (I.ok.hd hc) st (by have:n<=i:=hg;omega) λh' eb=>`p
 self:=λ_ _ _ _ _ st h=>wpAny_pyIter_rangeiter st h
end L2
namespace L2
open PySem PySem.Spec PyProof.Rows
section
variable {X:Cx}{tg:sH}
def kW (K:kc)(tl:TE):TI:=λσ H R=>tl σ H λx H1=>∃a,x=.ref a/\(∃xs,aU K H1 a xs)/\R (CO K a) H1
def pd (K:kc)(tl:TE):TI:=λσ H R=>tl σ H λx H1=>∃a,x=.ref a/\(∃xs,bQ K H1 a xs)/\R (Dq K a) H1
def Pr(i:PE X l g):PI X tg l^kW X.K g:=by
 intro c s j H R I h;show aQ (i c s j H _ I h) λv d k=>?_;let{x,m,f,n,r}:=k;let{a,e,{y,t},q}:=r;subst e;cases n;let{u,z,p,A}:=f.list t;show S6 p.isList ?_;show{d.heap.objs.size,[d.heap.objs.size],_,_,m,A2,f.kept (t':=d.toks) λb o e=>QR _ e,LP a _,{_,Ra _ A2,A2,A2},λb w=>?_,q};let e:b=d.heap.objs.size:=by simpa using w
 subst e;show f.iV (QU _)^f.au.fresh^QU _
def N4(j:PE X l i):PI X tg l^pd X.K i:=by
 intro c s k H R I h;show aQ (j c s k H _ I h) λv d m=>?_;let{x,n,f,r,t}:=m;let{a,e,{y,u},q}:=t;subst e;cases r;let{g,z,p,A}:=f.tuple u;show UG (show d.heap.IsTuple a g.toArray from p) ?_;show{d.heap.objs.size,[d.heap.objs.size],_,_,n,A2,f.kept (t':=d.toks) λb o e=>QR _ e,Jx a _,{_,Ra _ A2,A2,A2},λb w=>?_,q};let e:b=d.heap.objs.size:=by simpa using w
 subst e;show f.iV (QU _)^f.au.fresh^QU _
def EA{R:It->Hp->Prop}{lo:Int}(I:Inv X c d H s)(h:-(2^62)<=lo)(i:lo<2^62)(j:-(2^62)<=a)(k:a<2^62)
  (q:R (ud lo (a-lo).toNat) H):gE `d X.A (pyIter^.ref s.heap.objs.size) (BV X c d tg R) E {s with heap:=s.heap.push {cls:=.type "range",data:=.fields^List.toArray [.int lo t,.int a u,.int 1 v]},toks:=f}:=by
 show wpAny_pyIter_range (IsRange.new ..) (small_one h i j k) ?_;let g:Inv X c d H {s with heap:=s.heap.push {cls:=.type "range",data:=.fields^List.toArray [.int lo t,.int a u,.int 1 v]},toks:=f}:=I.kept λb o e=>QR _ e;show{(s.heap.push {cls:=.type "range",data:=.fields^List.toArray [.int lo t,.int a u,.int 1 v]}).objs.size,[(s.heap.push {cls:=.type "range",data:=.fields^List.toArray [.int lo t,.int a u,.int 1 v]}).objs.size],_,_,H,A2,
  g.kept (t':=f) λb o e=>QR _ e,JN _ lo (a-lo).toNat,?_,λb l=>?_,q}
 .let m:lo+((0:Nat):Int)*1=lo:=by simp
  let n:(((a-lo).toNat:Nat):Int)-((0:Nat):Int)=gC lo a 1:=by rw[rangeSize_one];split<;>omega
  change IsRangeIter _ _ (lo+((0:Nat):Int)*1) ((((a-lo).toNat:Nat):Int)-((0:Nat):Int)) 1;rw[m,n];show Ra _ A2
 .let e:b=(s.heap.push {cls:=.type "range",data:=.fields^List.toArray [.int lo t,.int a u,.int 1 v]}).objs.size:=by simpa using l
  subst e;show g.iV (QU _)^g.au.fresh^QU _
def zZ (ta:TA):TI:=λσ H R=>ta σ H λvs H1=>∃j:Int,vs=[.int j]/\-(2^62)<=j/\j<2^62/\R (ud 0 j.toNat) H1
def Ab (ta:TA):TI:=λσ H R=>ta σ H λvs H1=>∃i j:Int,vs=[.int i,.int j]/\(-(2^62)<=i/\i<2^62/\-(2^62)<=j/\j<2^62)/\R (ud i (j-i).toNat) H1
def og{a:sH}(g:Gl X "range")(i:X.mg "range"=bF)(k:PA X [a] f)(l:zA [a] X.env=[(fF,y1 a X.env)]:=by rfl):PI X tg (.Call (.Name "range" p) [a] [] b)^zZ f:=by
 intro c s m H R I h;show Call_^jH I g i boot_range^RX (aQ (k b c s m H _ I h) λw x ⟨y,z,n,o,d⟩=>?_) l A2
 let{j,e,d,u,q}:=d;subst e;cases o with
 |cons r v=>
  cases v;let{t,rfl}:=r;show call_range_1^EA n Z4 Z4 d u (by simpa using q)
def Qg(m:Gl X "range")(n:X.mg "range"=bF)(o:PA X [a,b] l)(u:zA [a,b] X.env=[(fF,y1 a X.env),(fF,y1 b X.env)]:=by rfl)(d:zA [b] X.env=[(fF,y1 b X.env)]:=by rfl):
  PI X tg (.Call (.Name "range" p) [a,b] [] c)^Ab l:=by
 intro f s v H R I h;show Call_^jH I m n boot_range^RX (aQ (o c f s v H _ I h) λC E ⟨G,J,w,x,g⟩=>?_) (by rw[u,d]) (by rw[d];rfl)
 let{i,j,e,{g,y,z,A},q}:=g;subst e;cases x with
 |cons r k=>
  cases k with
  |cons B k=>
   cases k;let{t,rfl}:=r;let{L,rfl}:=B;show call_range_2^EA w g y z A q
def mw (wi:TI)(g:TG)(tb:TS):TS:=λD σ H=>wi σ H λJ H1=>∃W:Nat->Nat->St->Hp->Prop,(∃m,W 0 m σ H1)/\∀i m σ H,W i m σ H->
 (J.stop i H/\D.nx σ H)\/(J.go i H/\∃N:St->Hp->Prop,(∀σ' H',N σ' H'->∃m',m'<m/\W (i+1) m' σ' H')/\∀x H',J.qh i H x H'->g x σ H' λσ2 H2=>tb {D with nx:=N,ct:=N,bk:=D.nx} σ2 H2)
def rn (fp:List vb)(h:rl):List (vb×Obj):=fp.filterMap λb=>(h.get? b).map λo=>(b,o)
def tO{a:ZX}{h:rl}(c:b∈a)(e:h.get? b=!o):(b,o)∈rn a h:=UH.mpr {b,c,by rw[e];rfl}
def JM(c:p∈rn a h):p.1∈a/\h.get? p.1=!p.2:=by
 let{b,d,e}:=UH.mp c;cases q:h.get? b with
 |none=>rw[q]at e;cases e
 |some o=>
  rw[q]at e;let f:(b,o)=p:=Q5 e;subst f;show{d,q}
def Inv.pinned{c:ZX}(I:Inv X a f H s)(i:∀b∈c,jQ X a H b)(j:∀b∈c,∃o,s.heap.get? b=!o/\∀v,o.data≠.cell v):Inv X (a++rn c s.heap) f H s:=
 I.u6 λp k=>(Rc.mp k).elim (λz=>I.pin p^Q1 _ z) λz=>by
  let{g,e}:=JM z;let{l,m,n,_}:=i p.1 g;let{o,h,d}:=j p.1 g;rw[e]at h;cases h;show{e,l,m,n,d}
def Inv.uZ(I:Inv X (a++c) b H s):Inv X a b H s:=I.u6 λp d=>I.pin p^Q1 _^Q2 _ d
def cV{iter:sH}(E:PassesOwn `d X.A X.env X.xe)(hc:X.calm=bU)(hi:PI X tg iter wi)(hg:PG X tg g)(j:gi X z tb)
  (hs:∀x,foldedSetIterable iter X.env x=pure x:=by intro _;rfl):PS X (.For tg iter z [] ab)^mw wi g tb:=by
 intro a s σ H D I h;show wpAny_For (aQ (hi a s σ H _ I h) λv s1 h1=>aQ h1 λan s2 h2=>?_) hs;let{it,G,tn,J,H2,e,I2,T,ac,f2,W,{m0,w0},L}:=h2;subst e;let k:∀{y:Hp},(∀b∈G,y b=bF)->∀b∈G,jQ X a y b:=λhn b j=>{hn b j,(f2 b j).2}
 show codeAny_forLoop_any (λn s'=>∃i l y,Inv X a l y s'/\tn i s'.heap/\(∀b∈G,y b=bF)/\W i n l y) ?_ m0 {0,σ,H2,I2,ac,λb j=>(f2 b j).1,w0};rintro n s3 ⟨i,p,Y,I3,M,O,w3⟩;rcases L i n p Y w3 with⟨Q,qn⟩|⟨go,N,hN,step⟩
 .show Tp E^aQ (T.done X A2 A2 A2 hc i a s3 p Y X.xe I3 (k O) M Q) λr s4 q0=>?_
  let{hr,I4}:=q0;subst hr;show T7 {p,Y,I4,qn}
 .show Tp E^aQ (T.item X A2 A2 A2 hc i a s3 p Y X.xe I3 (k O) M go) λr s4 q1=>?_
  let{u,hr,h4}:=q1;subst hr;show Tp E^aQ h4 λ_ s5 q2=>?_;let{x,H5,I5,r5,y5,C,af}:=q2;let aj:=I5.pinned (k af)^T.obj _ _ C;show Tp E^aQ (hg _ s5 p H5 x u _ aj r5^step x H5 y5) λ_ s6 q3=>?_;let{am,H6,I6,q6}:=q3;show Tp E^aQ (j _ s6 am H6 _ I6 q6) λf s7 B=>?_;let again:∀{c:St} {q:Hp},Inv X (a++rn G s5.heap) c q s7->N c q->∃m,m<n/\∃i l y,Inv X a l y s7/\tn i s7.heap/\(∀b∈G,y b=bF)/\W i m l y:=λ{c q} t U=>by
   let{m',hm,w7}:=hN c q U;show{m',hm,i+1,c,q,t.uZ,T.keep _ _ _ C λb j o e=>(t.pin (b,o)^Q1 _^Q1 _^tO j e).1,λb j=>?_,w7};let{o,e,d}:=T.obj _ _ C b j;show(t.pin (b,o)^Q1 _^Q1 _^tO j e).2.1
  cases f with
  |next=>let{c,q,t,U}:=B;show again t U
  |cont=>let{c,q,t,U}:=B;show again t U
  |brk=>let{c,q,t,B}:=B;show{c,q,t.uZ,B}
  |ret v=>let{x7,c,q,t,r7,B}:=B;show{x7,c,q,t.uZ,r7,B}
end
end L2
namespace L2
open PySem PySem.Spec PyProof.Rows
abbrev R2:=V->V->Hp->VK->Prop
def dh (X:Cx)(f:wj->wj->Sem wj)(r:R2):Prop:=
 ∀(pins:`l) (s:ot) (σ:St) (H:Hp) (x y:V) (v u:wj) (Q:VK),Inv X pins σ H s->RelV x v->RelV y u->r x y H Q->
  gE `d X.A (f v u) (EP X pins σ Q) X.xe s
def wy (X:Cx)(f:wj->Sem wj)(r:V->Hp->VK->Prop):Prop:=
 ∀(pins:`l) (s:ot) (σ:St) (H:Hp) (x:V) (v:wj) (Q:VK),Inv X pins σ H s->RelV x v->r x H Q->
  gE `d X.A (f v) (EP X pins σ Q) X.xe s
def iG (X:Cx)(f:wj)(r:List V->Hp->VK->Prop):Prop:=
 ∀(pins:`l) (s:ot) (σ:St) (H:Hp) (xs:List V) (us:List wj) (Q:VK),Inv X pins σ H s->bn xs us->r xs H Q->
  gE `d X.A (call f us) (EP X pins σ Q) X.xe s
def M1 (X:Cx)(r:V->Hp->(Bool->Hp->Prop)->Prop):Prop:=
 ∀(pins:`l) (s:ot) (σ:St) (H:Hp) (x:V) (v:wj) (Q:Bool->Hp->Prop),Inv X pins σ H s->RelV x v->r x H Q->
  gE `d X.A (truthy v) (TP X pins σ Q) X.xe s
def bT (r:R2)(ta tb:TE):TE:=λσ H Q=>ta σ H λx H1=>tb σ H1 λy H2=>r x y H2 Q
def Gk (r:V->Hp->VK->Prop)(ta:TE):TE:=λσ H Q=>ta σ H λx H1=>r x H1 Q
def rI (C:Int->Int->Prop)(g:Int->Int->V):R2:=λx y H Q=>∃i j,x=.int i/\y=.int j/\C i j/\Q (g i j) H
def ie (g:Int->Int->V):R2:=λx y H Q=>∃i j,x=.int i/\y=.int j/\Q (g i j) H
def rU (g:Int->V):V->Hp->VK->Prop:=λx H Q=>∃i,x=.int i/\Q (g i) H
section
variable {X:Cx}{a b c:sH}{ta tb tc:TE}{pos:Pos}
def As(m:PE X a ta)(n:PE X b tb){R:V->V->Hp->Prop}(I:Inv X d e H s)
  (h:ta e H λx l=>tb e l λy g=>R x y g)  {f:wj->wj->Sem wj}
  (o:∀v u k x y g,Inv X d e g k->RelV x v->RelV y u->R x y g->gE `d X.A (f v u) Q X.xe k):
  gE `d X.A (y1 a X.env) (λv i=>gE `d X.A (y1 b X.env) (λu j=>gE `d X.A (f v u) Q X.xe j) X.xe i) X.xe s:=by
 show aQ (m d s e H _ I h) λv p q=>?_;let{x,l,r,t,z}:=q;show aQ (n d p e l _ r z) λu k B=>?_;let{y,g,C,E,G}:=B;show o v u k x y g C t E G
def cU(f:dh X (binaryOp e) r)(g:PE X a ta)(i:PE X b tb):PE X (.BinOp a e b pos)^bT r ta tb:=by
 intro d s j H Q I h;show wpAny_BinOp^As g i I h λv u k x y l m n o q=>f d k j l x y v u Q m n o q
def kG(g:wy X (unaryOp e) r)(i:PE X a ta):PE X (.UnaryOp e a pos)^Gk r ta:=by
 intro d s f H Q I h;show UnaryOp_^aQ (i d s f H _ I h) λv j k=>by let{x,l,m,n,o}:=k;show g d j f l x v Q m n o
def vn {f:wj->wj->Sem wj}{C:Int->Int->Prop}{g:Int->Int->Int}
  (rule:∀(i j:Int) (t u:Tok) (s:ot) (Q:ZT) (E:ZT),C i j->Q (.int (g i j) s.toks) {s with toks:=s.toks+1}->gE `d X.A (f (.int i t)^.int j u) Q E s):
  dh X f^rI C λi j=>.int^g i j:=by
 intro d s n H x y v u Q I e k h;let{i,j,rfl,rfl,l,q}:=h;let{t,rfl}:=e;let{m,rfl}:=k;show rule i j t m s _ _ l {.int^g i j,H,I.tok _,{_,A2},q}
def Cm {f:wj->wj->Sem wj}{g:Int->Int->Int}
  (rule:∀(i j:Int) (t u:Tok) (s:ot) (Q:ZT) (E:ZT),Q (.int (g i j) s.toks) {s with toks:=s.toks+1}->gE `d X.A (f (.int i t)^.int j u) Q E s):
  dh X f^ie λi j=>.int^g i j:=by
 intro d s m H x y v u Q I e k h;let{i,j,rfl,rfl,q}:=h;let{t,rfl}:=e;let{l,rfl}:=k;show rule i j t l s _ _ {.int^g i j,H,I.tok _,{_,A2},q}
def yX {f:wj->wj->Sem wj}{g:Int->Int->Bool}
  (rule:∀(i j:Int) (t u:Tok) (s:ot) (Q:ZT) (E:ZT),Q (.bool^g i j) s->gE `d X.A (f (.int i t)^.int j u) Q E s):
  dh X f^ie λi j=>.bl^g i j:=by
 intro d s m H x y v u Q I e k h;let{i,j,rfl,rfl,q}:=h;let{t,rfl}:=e;let{l,rfl}:=k;show rule i j t l s _ _ {.bl^g i j,H,I,A2,q}
def xv (i j:Int):Prop:=0<j/\j<1073741824
def yo (i j:Int):Prop:=0<=j/\j<=1000000/\i.natAbs<2^64
def pb (i j:Int):Prop:=(-(2^64)<i/\i<2^64)\/(-(2^64)<j/\j<2^64)
def pb.ok(h:pb i j):IntMulOk i j:=by
 rcases h with⟨d,e⟩|⟨d,e⟩
 .show .of_left^intBits_le_64 d e
 .show .of_right^intBits_le_64 d e
def lD:dh X (binaryOp .Add)^ie λi j=>.int (i+j):=Cm λ_ _ _ _ _ _ _ q=>add_int q
def vD:dh X (binaryOp .Sub)^ie λi j=>.int (i-j):=Cm λ_ _ _ _ _ _ _ q=>sub_int q
def BZ:dh X (binaryOp .Mult)^rI pb λi j=>.int (i*j):=vn λ_ _ _ _ _ _ _ d q=>mul_int q d.ok
def iL:dh X (binaryOp .FloorDiv)^rI xv λi j=>.int (i/j):=vn λi j _ _ _ _ _ d q=>by
 let e:(0:Int)<j:=d.1;let f:j<1073741824:=d.2;show floordiv_int Z4 (by rw[Int.fdiv_eq_ediv_of_nonneg i Z4];show q)^.inl^PyProof.noPylong_small Z4
def eY:dh X (binaryOp .Mod)^rI (λ_ j=>0<j) λi j=>.int (i%j):=vn λi j _ _ _ _ _ d q=>by
 let e:(0:Int)<j:=d;show mod_int' Z4^by rw[Int.fmod_eq_emod_of_nonneg i Z4];show q
def JI:dh X (binaryOp .Pow)^rI yo λi j=>.int^(HPow.hPow i j.toNat):=vn λ_ _ _ _ _ _ _ d q=>pow_int_small d.1 d.2.1 d.2.2 q
def Kw {f:wj->Sem wj}{g:Int->Int}
  (rule:∀(i:Int) (t:Tok) (s:ot) (Q:ZT) (E:ZT),Q (.int (g i) s.toks) {s with toks:=s.toks+1}->gE `d X.A (f^.int i t) Q E s):
  wy X f^rU λi=>.int^g i:=by
 intro d s j H x v Q I e h;let{i,rfl,q}:=h;let{t,rfl}:=e;show rule i t s _ _ {.int^g i,H,I.tok _,{_,A2},q}
def lg:wy X (unaryOp .USub)^rU λi=>.int (-i):=Kw λ_ _ _ _ _ q=>neg_int q
end
def wW:V->V->Bool
 |.aw,.aw=>bU|.aw,.int _=>bU|.int _,.aw=>bU|.aw,.bl _=>bU|.bl _,.aw=>bU|.aw,.str _=>bU|.str _,.aw=>bU
 |.int _,.int _=>bU|.bl _,.bl _=>bU|.str _,.str _=>bU|.iD _,.iD _=>bU
 |.int _,.str _=>bU|.str _,.int _=>bU|.bl _,.str _=>bU|.str _,.bl _=>bU
 |_,_=>fF
def uI:R2:=λx y H Q=>wW x y=bU/\Q (.bl^fT (x=y)) H
def mD:R2:=λx y H Q=>wW x y=bU/\Q (.bl^not^fT (x=y)) H
def DG:fT (V.int i=V.int j)=(i==j):=by
 rw[Ry];simp
def DE:fT (V.bl i=V.bl j)=(i==j):=by
 rw[Ry];simp
def EF:fT (V.str i=V.str j)=(i==j):=by
 rw[Ry];simp
def CK:fT (V.iD i=V.iD j)=(i.toList==j.toList):=by
 rw[Ry];cases i;cases j;simp
section
variable {X:Cx}{a b c:sH}{ta tb tc:TE}{pos:Pos}
def dE{Q:VK}(I:Inv X d f H s)(q:Q (.bl k) H)(e:k=g):EP X d f Q (.bool g) s:=by
 subst e;show{.bl k,H,I,A2,q}
def BG:dh X (rd .Eq) uI:=by
 intro k s l H x y v u Q I g d h;let{f,q}:=h;cases x with
 |aw=>
  cases g;cases y with
  |aw=>cases d;show PySem.EqNone.eq_none_none^dE I q Z8
  |bl j=>cases d;show PySem.EqNone.eq_none_bool^dE I q Z8
  |int j=>let{e,rfl}:=d;show PySem.EqNone.eq_none_int^dE I q Z8
  |str j=>let{e,rfl}:=d;show PySem.EqNone.eq_none_str^dE I q Z8
  |_=>show absurd (show fF=bU from f) QW
 |bl i=>
  cases g;cases y with
  |aw=>cases d;show PySem.EqNone.eq_bool_none^dE I q Z8
  |bl j=>cases d;show eq_bool^dE I q DE
  |str j=>let{e,rfl}:=d;show PySem.EqMixed.eq_bool_str^dE I q Z8
  |_=>show absurd (show fF=bU from f) QW
 |int i=>
  let{t,rfl}:=g;cases y with
  |aw=>cases d;show PySem.EqNone.eq_int_none^dE I q Z8
  |int j=>let{e,rfl}:=d;show eq_int^dE I q DG
  |str j=>let{e,rfl}:=d;show PySem.EqMixed.eq_int_str^dE I q Z8
  |_=>show absurd (show fF=bU from f) QW
 |str i=>
  let{t,rfl}:=g;cases y with
  |aw=>cases d;show PySem.EqNone.eq_str_none^dE I q Z8
  |bl j=>cases d;show PySem.EqMixed.eq_str_bool^dE I q Z8
  |int j=>let{e,rfl}:=d;show PySem.EqMixed.eq_str_int^dE I q Z8
  |str j=>let{e,rfl}:=d;show eq_str^dE I q EF
  |_=>show absurd (show fF=bU from f) QW
 |iD i=>
  let{t,rfl}:=g;cases y with
  |iD j=>let{e,rfl}:=d;show W.eq_bytes^dE I q CK
  |_=>show absurd (show fF=bU from f) QW
 |_=>cases y<;>show absurd (show fF=bU from f) QW
def Em:dh X (rd .NotEq) mD:=by
 intro k s l H x y v u Q I g d h;let{f,q}:=h;cases x with
 |aw=>
  cases g;cases y with
  |aw=>cases d;show PySem.EqNone.ne_none_none^dE I q Z8
  |bl j=>cases d;show PySem.EqNone.ne_none_bool^dE I q Z8
  |int j=>let{e,rfl}:=d;show PySem.EqNone.ne_none_int^dE I q Z8
  |str j=>let{e,rfl}:=d;show PySem.EqNone.ne_none_str^dE I q Z8
  |_=>show absurd (show fF=bU from f) QW
 |bl i=>
  cases g;cases y with
  |aw=>cases d;show PySem.EqNone.ne_bool_none^dE I q Z8
  |bl j=>cases d;show ne_bool^dE I q^RF not DE
  |str j=>let{e,rfl}:=d;show PySem.EqMixed.ne_bool_str^dE I q Z8
  |_=>show absurd (show fF=bU from f) QW
 |int i=>
  let{t,rfl}:=g;cases y with
  |aw=>cases d;show PySem.EqNone.ne_int_none^dE I q Z8
  |int j=>let{e,rfl}:=d;show ne_int^dE I q^RF not DG
  |str j=>let{e,rfl}:=d;show PySem.EqMixed.ne_int_str^dE I q Z8
  |_=>show absurd (show fF=bU from f) QW
 |str i=>
  let{t,rfl}:=g;cases y with
  |aw=>cases d;show PySem.EqNone.ne_str_none^dE I q Z8
  |bl j=>cases d;show PySem.EqMixed.ne_str_bool^dE I q Z8
  |int j=>let{e,rfl}:=d;show PySem.EqMixed.ne_str_int^dE I q Z8
  |str j=>let{e,rfl}:=d;show ne_str^dE I q^RF not EF
  |_=>show absurd (show fF=bU from f) QW
 |iD i=>
  let{t,rfl}:=g;cases y with
  |iD j=>let{e,rfl}:=d;show W.ne_bytes^dE I q^RF not CK
  |_=>show absurd (show fF=bU from f) QW
 |_=>cases y<;>show absurd (show fF=bU from f) QW
def ny:dh X (rd .Lt)^ie λi j=>.bl^fT (i<j):=yX λ_ _ _ _ _ _ _ q=>lt_int q
def qP:dh X (rd .Gt)^ie λi j=>.bl^fT (j<i):=yX λ_ _ _ _ _ _ _ q=>gt_int q
def uW:dh X (rd .GtE)^ie λi j=>.bl^fT (j<=i):=yX λ_ _ _ _ _ _ _ q=>ge_int q
def Pc:dh X (rd .IsNot)^λx y H Q=>y=.aw/\Q (.bl^not^fT (x=.aw)) H:=by
 intro d s g H x y v u Q I e f h;let{rfl,q}:=h;cases f;show isnot_none_gen^dE I q ?_
 cases x<;>first
  |(cases e;rfl)
  |(let{t,rfl}:=e;rfl)
def dh.or(h:dh X f r)(k:dh X f e):dh X f^λx y H Q=>r x y H Q\/e x y H Q:=by
 intro d s g H x y v u Q I i j q;rcases q with q|q
 .show h d s g H x y v u Q I i j q
 .show k d s g H x y v u Q I i j q
def Db(b:sH)(h:d≠.In:=by decide)(e:d≠.NotIn:=by decide):behindInMarks d b=fF:=by
 let f:(d==CmpOp.In)=fF:=by cases d<;>first|rfl|show absurd rfl h
 let g:(d==CmpOp.NotIn)=fF:=by cases d<;>first|rfl|show absurd rfl e
 cases b<;>simp[behindInMarks,f,g]
def PN(f:dh X (rd e) r)(g:PE X a ta)(i:PE X b tb)(j:behindInMarks e b=fF):PE X (.Compare a [e] [b] pos)^bT r ta tb:=by
 intro d s k H Q I h;show wpAny_Compare1 (As g i I h λv u l x y m n o p q=>f d l k m x y v u Q n o p q) j
def p7 (t:TE):TT:=λσ H Q=>t σ H λx H'=>∃k,x=.bl k/\Q k H'
theorem IG {op:CmpOp}{r:R2}(ho:dh X (rd op) r)(ha:PE X a ta)(hb:PE X b tb)(hm:behindInMarks op b=fF):PT X (.Compare a [op] [b] pos)^p7^bT r ta tb:=by
 intro pins s σ H Q I h;show wpAny_isTrue_Compare1 (aQ (ha pins s σ H _ I h) fun v s1 ⟨x,H1,I1,r1,q1⟩=>aQ (hb pins s1 σ H1 _ I1 q1) fun u s2 ⟨y,H2,I2,r2,q2⟩=>
  aQ (ho pins s2 σ H2 x y v u _ I2 r1 r2 q2) fun c s3 ⟨z,H3,I3,r3,k,e,q3⟩=>?_) hm
 subst e;cases r3;show wpAny_truthy_bool {H3,I3,q3}
def vk (K:kc)(x:V)(H:Hp)(k:Bool):Prop:=
 match x with
 |.aw=>k=fF
 |.bl b=>k=b
 |.int i=>k=(i !=0)
 |.str y=>y.length<=se/\k=((y.length:Int) !=0)
 |.iD y=>y.size<=se/\k=((y.size:Int) !=0)
 |.ref p=>(∃xs,aU K H p xs/\k= not xs.isEmpty)\/(∃xs,bQ K H p xs/\k= not xs.isEmpty)\/∃kvs,H p=!.dK kvs/\k= not kvs.isEmpty
 |_=>False
def NK(r:KV d f):(not f.isEmpty)= not d.isEmpty:=by
 cases r<;>rfl
def Fi(r:bn e d):(not d.toArray.isEmpty)= not e.isEmpty:=by
 cases r<;>simp
def rE:(se:Nat)<2^63:=by rw[Ts];decide
def JL:M1 X^λx H Q=>∃k,vk X.K x H k/\Q k H:=by
 intro A s G H x v Q I l h;let{k,e,q}:=h;let J:=rE;let L:se=16777216:=Ts;cases x with
 |aw=>
  cases l;let d:k=fF:=e;subst d;show truthy_none {H,I,q}
 |bl b=>
  cases l;let d:k=b:=e;subst d;show Sk {H,I,q}
 |int i=>
  let{t,rfl}:=l;let d:k=(i !=0):=e;subst d;show PySem.P.truthy_int {H,I,q}
 |str y=>
  let{t,rfl}:=l;obtain ⟨C,d⟩:y.length<=se/\k=((y.length:Int) !=0):=e;subst d;show PySem.P.truthy_str Z4 {H,I.tok _,q}
 |iD y=>
  let{t,rfl}:=l;obtain ⟨C,d⟩:y.size<=se/\k=((y.size:Int) !=0):=e;subst d;show W.truthy_bytes Z4 {H,I.tok _,q}
 |ref p=>
  cases l;let d:(∃j,aU X.K H p j/\k= not j.isEmpty)\/(∃j,bQ X.K H p j/\k= not j.isEmpty)\/∃f,H p=!.dK f/\k= not f.isEmpty:=e;rcases d with⟨j,n,d⟩|⟨j,n,d⟩|⟨f,n,d⟩
  .subst d;let{u,r,z,B}:=I.list n;let g:=r.length;show wpAny_truthy_list z.isList (by simp only[Rb];omega) {H,I.tok _,by rw[Fi r];show q}
  .subst d;let{u,r,z,B}:=I.tuple n;let g:=r.length;show truthy_tuple z (by simp only[Rb];omega) {H,I.tok _,by rw[Fi r];show q}
  .subst d;obtain ⟨B,E,o,r,m⟩:f.length<=se/\(p==uU)=fF/\∃o,KV f o/\s.heap.DictOf (dm X.prog X.w) p o:=I.au p _ n;let g:f.length=o.length:=Tf r;show wpAny_truthy_dict E m Z4 {H,I.tok _,by rw[NK r];show q}
 |_=>show(show False from e).elim
def yQ (g:PE X a ta)(i:∀hZ,isTrue a X.env hZ=(do let v<-hZ;standAt a.pos;gD [v]^truthy v)):
  PT X a^λe H Q=>ta e H λx f=>∃k,vk X.K x f k/\Q k f:=by
 intro d s e H Q I h;show isTrue_plain (aQ (g d s e H _ I h) λv j l=>by let{x,m,n,o,p}:=l;show JL d j e m x v Q n o p)^i _
def Vf{x:V}(r:bn [x] d):∃u,d=[u]/\RelV x u:=by
 cases r with
 |cons e f=>cases f;show{_,A2,e}
def vals2(r:bn [x,y] d):∃u e,d=[u,e]/\RelV x u/\RelV y e:=by
 cases r with
 |cons f g=>
  cases g with
  |cons h i=>cases i;show{_,_,A2,f,h}
end
end L2
namespace L2
open PySem PySem.Spec PyProof.Rows
structure oN (h:rl)(x dx C:vb)(mA:Str->Option wj):Prop where
 obj:h.get? x=some (PySem.W.instObj C dx)
 ns:h.Ns1 dx mA
 ne:dx≠x
def ID{h:rl}(n:h.Ns1 c d):∃f,h.get? c=!f/\∀name,W.lookIn name f=!d name:=by
 let{o,g,r,i,j,k,_,l}:=n;show{o,i,λname=>?_};let e:=l name;unfold nsFind findBy at e;rw[<-Array.find?_toList]at e;unfold W.lookIn;rw[j];dsimp only;split
 .rename_i y q
  rw[q]at e;show RF some e
 .rename_i q
  rw[q]at e;let a:g.toList.any (·.refKey)=fF:=by
   rw[Ue];intro y m;let{z,t,b}:=k y^Array.mem_toList_iff.mp m
   simp[DictEntry.refKey,b]
  let p:¬g.toList.any (·.refKey)=bU:=by rw[a];show QW
  rw[QV p];show RF some e
def oN.look(I:oN h x b C c):∃a,W.InstAt h x (W.instObj C b) C^!a/\∀name,W.lookIn name a=!c name:=
 let⟨a,d,e⟩:=ID I.ns
 {a,{I.obj,A2,A2,d},e}
section
variable {prog:qj}{w:pa}{A:om}{E:wj->ot->Prop}{s:ot}{K:kc}{x dx C f:vb}{mA:Str->Option wj}{name:Str}{v:wj}
def PR{Q:ZT}(X:K.In s.heap)(I:oN s.heap x dx C mA)(c:W.plainGet K C name=bU)(d:W.hasDictIn K C=bU)
  (e:qm K (.ref C) name=!bF) (g:mA name=!v) (b:W.handedIn v=bU) (h:Q v {s with toks:=s.toks+1}):
  gE `i A (getAttr (.ref x) name a) Q E s:=by
 let{j,J,i}:=I.look;show W.get_value X J (Vg c).1 (W.findObj_own d e A2^by rw[i,g]) b h
def Ow{Q:wj×List wj->ot->Prop}(X:K.In s.heap)(I:oN s.heap x dx C mA)(a:W.plainGet K C name=bU)
  (c:qm K (.ref C) name=!!.ref f) (d:W.isFn K^.ref f=bU) (e:mA name=bF) (h:Q (.ref f,[.ref x]) s):
  gE `i A (mm (.ref x) name b) Q E s:=by
 let{g,J,i}:=I.look;show W.method_fn X J (Vg a).1 (Vg a).2 c (Tw.mp d) (by change(W.lookIn name g).map (·.isSome)=!fF;rw[i,e];rfl) h
def KQ{Q:Unit->ot->Prop}(X:K.In s.heap)(I:oN s.heap x dx C mA)
  (m:qm K (.ref C) "__setattr__"=!!.builtin "object.__setattr__") (n:W.plainOver K C=bU) (o:W.takerIn K C name=!bF) (p:W.hasDictIn K C=bU)
  (q:PySem.Within mA l) (t:l.length<=se)
  (h:∀e,oN e x dx C (λy=>if y=name then !v else mA y)->rl.SameBut dx s.heap e->Q () {s with heap:=e,toks:=s.toks+2}):
  gE `i A (setAttr (.ref x) name v) Q E s:=by
 let{H,J,L}:=I.look;show W.set_plain X J m^W.osa_open (s:={s with toks:=s.toks+1}) (r:=bF) X J n o λb=>?_;let{M,u,g}:=W.any_some p;let z:s.heap.get? x=!⟨.ref C,!dx,.plain, `r⟩:=I.obj;show QL^QX^QL^QL^wpAny_loadPart z^QL^W.Looks.here (s:={s with toks:=s.toks+1}) (W.looks_clsIn X u) ?_;rw[g];show QX (a:=!dx)^QL^QX^QL ?_;show wpAny_nsSet1 (s:={s with toks:=s.toks+1}) I.ns λe c d=>?_;let{N,B,G,i,j,k}:=c.count^PySem.Within.cons name v q;show QL^wpAny_lookBehind i (by rw[j];show pastItsLine_dict^Rh k (by rw[Rw];omega)) ?_;show QX^h _ {(d.2 _^RG I.ne).trans I.obj,c,I.ne} d
def IE(X:K.In s.heap)(e:W.makesIn K C=bU)
  (i:qm K (.ref C) "__init__"=!!.ref f) (j:zz K^.ref f=!.type "function")
  (h:qi `i (A.under^.builtin "type.__call__" {.ref C::b,c}) (.call (.ref f) {.ref `q::b,c}) (W.InitBack `q R)
   {s with heap:=(s.heap.push W.emptyDict).push^W.instObj C s.heap.objs.size}):
  qi `i A (.call (.ref C) {b,c}) R s:=by
 let{k,g,d,t,os}:=s;show W.make_core (W.makes_of X e) (Ui X i) (λa=>W.bind_fn X a j) (.inl A2) h
end
def dw (f:Str)(v:V):List (Str×V)->List (Str×V)
 |[]=>[(f,v)]
 |(g,x)::r=>if g=f then(g,v)::r else(g,x)::dw f v r
theorem FZ (f g:Str)(v:V):∀c:List (Str×V),(dw f v c).lookup g=if g=f then !v else c.lookup g
 |[]=>by
  change List.lookup g [(f,v)]=_;by_cases h:g=f
  .let a:(g==f)=bU:=Tw.mpr h;simp only[List.lookup,a,Q0 h]
  .let a:(g==f)=fF:=R8.mpr h;simp only[List.lookup,a,QV h]
 |(k,x)::r=>by
  let d:=FZ f g v r;rw[show dw f v ((k,x)::r)=(if k=f then(k,v)::r else(k,x)::dw f v r)from A2];by_cases b:k=f
  .rw[Q0 b]
   by_cases h:g=k
   .let a:(g==k)=bU:=Tw.mpr h;simp only[List.lookup,a,Q0^h.trans b]
   .let a:(g==k)=fF:=R8.mpr h;simp only[List.lookup,a,QV λe:g=f=>h^e.trans b.symm]
  .rw[QV b]
   by_cases h:g=k
   .let a:(g==k)=bU:=Tw.mpr h;simp only[List.lookup,a,QV λe:g=f=>b^h.symm.trans e]
   .let a:(g==k)=fF:=R8.mpr h;simp only[List.lookup,a];show d
theorem xF (f:Str)(v:V):∀a:List (Str×V),f∈(dw f v a).map (·.1)/\∀g,g∈a.map (·.1)->g∈(dw f v a).map (·.1)
 |[]=>{by simp[dw],λg h=>by simp at h}
 |(k,x)::r=>by
  let{c,d}:=xF f v r;rw[show dw f v ((k,x)::r)=(if k=f then(k,v)::r else(k,x)::dw f v r)from A2];by_cases b:k=f
  .rw[Q0 b]
   subst b;show{by simp,λg h=>by simpa using h}
  .rw[QV b]
   show{?_,λg h=>?_}
   .rw[RB]
    show QM _ c
   .rw[RB]at h⊢
    rcases QZ.mp h with e|e
    .show QZ.mpr^.inl e
    .show QM _^d g e
theorem AZ (f:Str)(v:V):∀a:List (Str×V),(dw f v a).length<=a.length+1
 |[]=>by simp[dw]
 |(k,x)::r=>by
  let c:=AZ f v r;rw[show dw f v ((k,x)::r)=(if k=f then(k,v)::r else(k,x)::dw f v r)from A2];by_cases b:k=f
  .rw[Q0 b,Rw,Rw];omega
  .rw[QV b,Rw,Rw];omega
def e9.some_of(r:e9 (!v) o):∃u,o=!u/\RelV v u:=by
 cases o with
 |none=>show(show False from r).elim
 |some u=>show{u,A2,r}
def e9.none_of(r:e9 bF o):o=bF:=by
 cases o with
 |none=>rfl
 |some u=>show(show False from r).elim
def KY(r:RelV v u):W.handedIn u=bU:=by
 cases v with
 |aw=>cases(show u=wj.none from r);rfl
 |bl b=>cases(show u=wj.bool b from r);rfl
 |int i=>let{t,e}:=(show∃t,u=wj.int i t from r);cases e;rfl
 |str x=>let{t,e}:=(show∃t,u=wj.str x t from r);cases e;rfl
 |iD b=>let{t,e}:=(show∃t,u=wj.bytes b t from r);cases e;rfl
 |ol b=>let{t,e}:=(show∃t,u=wj.float b t from r);cases e;rfl
 |ref a=>cases(show u=wj.ref a from r);rfl
 |ty n=>cases(show u=wj.type n from r);rfl
section
variable {P:qj}{w:pa}{H H':Hp}{h h':rl}{a C dx:vb}{fs fs':List (Str×V)}
def uf (au:du P w H h)(e:H a=!.ins C dx fs):∃b,oN h a dx C b/\(∀f,e9 (fs.lookup f)^b f)/\PySem.Within b^fs.map (·.1)/\fs.length<=1000/\H dx=!.own a:=by
 let{d,z,c,g,b,n,r,q}:=(show bZ P w H h a^.ins C dx fs from au a _ e)
 show{b,{g,n,c},r,q,z,d}
end
structure eX (K:kc)(C:vb):Prop where
 pg:PySem.W.plainGet K C Str.empty=bU
 hd:PySem.W.hasDictIn K C=bU
 po:PySem.W.plainOver K C=bU
 sa:qm K (.ref C) "__setattr__"=!!.builtin "object.__setattr__"
def eX.get{K:kc}(c:eX K C)(f:Str):W.plainGet K C f=bU:=c.pg
def cQ (K:kc)(C:vb)(f:Str):Prop:=qm K (.ref C) f=!bF
def cQ.Ll{K:kc}(n:cQ K C f):W.takerIn K C f=!bF:=by
 unfold W.takerIn;rw[show qm K (.ref C) f=!bF from n];rfl
structure ri (K:kc)(C:vb)(m:Str)(f:vb):Prop where
 at_:qm K (.ref C) m=some (!.ref f)
 fn:PySem.W.isFn K^.ref f=bU
 kp:PySem.W.keepIn K^.ref f=bU
section
variable {X:Cx}{pins:List (vb×Obj)}{σ:St}{H:Hp}{s:ot}{a C dx:vb}{fs:List (Str×V)}{f:Str}{v:V}{A:om}{E:wj->ot->Prop}
def He{Q:ZT}(I:`e)(e:H a=!.ins C dx fs)(c:eX X.K C)(n:cQ X.K C f)(l:fs.lookup f=!v)
  (h:∀u d,Inv X pins σ H d->RelV v u->Q u d):gE `d A (getAttr `n f b) Q E s:=by
 let{i,O,r,_,_,_}:=uf I.au e;let{u,j,g}:=e9.some_of (v:=v) (o:=i f) (by rw[<-l];show r f);show PR I.dL O (c.get f) c.hd n j (KY g)^h u _ (I.tok _) g
def Ek{Q:wj×List wj->ot->Prop}(I:`e)(e:H a=!.ins C dx fs)(c:eX X.K C)(k:ri X.K C m g)(l:fs.lookup m=bF)
  (h:Q (.ref g,[.ref a]) s):gE `d A (mm `n m b) Q E s:=by
 let{d,O,r,_,_,_}:=uf I.au e;let i:d m=bF:=e9.none_of (by rw[<-l];show r m);show Ow I.dL O (c.get m) k.at_ k.fn i h
def Nm{Q:Unit->ot->Prop}(I:`e)(e:H a=!.ins C dx fs)(c:eX X.K C)(n:cQ X.K C f)(N:fs.length<1000)(m:RelV y u)
  (h:∀i,Inv X pins σ (upd H a^.ins C dx^dw f y fs) i->Q () i):gE `d A (setAttr `n f u) Q E s:=by
 let{j,O,r,k,_,l}:=uf I.au e;let p:(fs.map (·.1)).length<=se:=by rw[QP,Ts];omega
 show KQ I.dL O c.sa c.po n.Ll c.hd k p λt d B=>h _ ?_;let G:∃o,t.get? dx=!o:=let⟨o,_,_,J,_⟩:=d.ns;{o,J};show I.write (x:=a) (e:=dx) (by rw[e];show True.intro) (.inr l) (λb q L z=>(B.2 b L).trans z) G ?_;show{by rw[aE O.ne];show l,?_,O.ne,d.obj,_,d.ns,λg=>?_,λg M=>?_}
 .have:=AZ f y fs;omega
 .change e9 ((dw f y fs).lookup g) (if g=f then !u else j g);rw[FZ];by_cases q:g=f
  .rw[Q0 q,Q0 q];show m
  .rw[QV q,QV q];show r g
 .by_cases q:g=f
  .rw[q];show(xF f y fs).1
  .show(xF f y fs).2 g (k g λz=>M ?_)
   change(if g=f then !u else j g)=bF;rw[QV q];show z
def Inv.made (I:`e):Inv X pins σ (upd (upd H s.heap.objs.size^.own `q) `q^.ins C s.heap.objs.size [])
  {s with heap:=(s.heap.push W.emptyDict).push^W.instObj C s.heap.objs.size}:=by
 let c:(s.heap.push W.emptyDict).get? s.heap.objs.size=!W.emptyDict:=Ra s.heap A2;let g:((s.heap.push W.emptyDict).push^W.instObj C s.heap.objs.size).get? `q=!W.instObj C s.heap.objs.size:=by
  have:=Ra (s.heap.push W.emptyDict) (o:=W.instObj C s.heap.objs.size) A2;rwa[Sn]at this
 let h:(s.heap.push W.emptyDict).Ns s.heap.objs.size^λ_=>bF:={W.emptyDict, `r,_,c,A2,(λe i=>absurd i Z8),λ_=>A2}
 let j:=I.laid (a:=s.heap.objs.size) (o:=.own<|s.heap.objs.size+1) (h':=s.heap.push W.emptyDict) (t':=s.toks) (λb u q=>QR _ q) (QU _) {_,c};show j.laid (a:=s.heap.objs.size+1) (o:=.ins C s.heap.objs.size []) (t':=s.toks) (λb u q=>QR _ q) (VW^Sn _ _) ?_;let d:s.heap.objs.size≠s.heap.objs.size+1:=Rp^SF _
 show{by rw[aE d,aM],Rk _,d,g,λ_=>bF,(rl.Ns1.of_empty h).at λo q=>QR _ q,λ_=>True.intro,λy k=>absurd A2 k}
def ML{f:Str}{s:ot}(i:y0 e f c^y1 e c=y1 e c)
  (h:gE (y3 b w) A (y1 e c) (λo d=>gE (y3 b w) A (getAttr o f bU) Q E d) E s):gE (y3 b w) A (y1 (.Attribute e f g) c) Q E s:=
 Attribute_any_ h^by rw[arm_eval_Attribute,i]
end
def my (K:kc)(ta:TE)(f:Str):TE:=λσ H Q=>ta σ H λx H1=>∃a C dx fs v,x=.ref a/\H1 a=!.ins C dx fs/\eX K C/\cQ K C f/\fs.lookup f=!v/\Q v H1
def FU (K:kc)(ta tv:TE)(f:Str):TS:=λD σ H=>tv σ H λy H1=>ta σ H1 λx H2=>∃a C dx fs,x=.ref a/\H2 a=!.ins C dx fs/\eX K C/\cQ K C f/\fs.length<1000/\
 D.nx σ^upd H2 a^.ins C dx^dw f y fs
section
variable {X:Cx}{o e value:sH}{f:Str}{pos pos' tpos:Pos}{ta tv:TE}
def eD (d:PE X e ta)(g:y0 e f X.env^y1 e X.env=y1 e X.env):PE X (.Attribute e f pos)^my X.K ta f:=by
 intro b s i H Q I h;show ML g^aQ (d b s i H _ I h) λu z j=>?_
 let{x,k,m,p,a,C,A,B,v,r,t,c,n,l,q}:=j;subst r;obtain rfl:u=wj.ref a:=p;show He m t c n l λE G w y=>{v,k,w,y,q}
def gr (g:PE X o ta)(i:PE X value tv)(j:swapsWith value (!.Attribute o f pos') pos.line X.env=pure fF):PS X (.Assign [.Attribute o f pos'] value pos)^FU X.K ta tv f:=by
 intro b s d H D I h;show plainObj_wpAny_Assign_Attribute (aQ (i b s d H _ I h) λu k ⟨y,m,p,r,q⟩=>aQ (g b k d m _ p q) λt G ⟨x,J,v,w,a,C,L,M,z,A,c,n,l,B⟩=>?_) j;subst z;obtain rfl:t=wj.ref a:=w;show Nm v A c n l r λN E=>{d,_,E,B}
end
section
variable {X:Cx}{pins:List (vb×Obj)}{σ:St}{H:Hp}{s:ot}{A:om}{E:wj->ot->Prop}{Q:wj->ot->Prop}{c:wj}{b:Bool}
inductive ir (K:kc)(H:Hp):V->wj->Prop where
 |aw:ir K H .aw^.type "NoneType"
 |bl (x:Bool):ir K H (.bl x)^.type "bool"
 |int (i:Int):ir K H (.int i)^.type "int"
 |str (x:Str):ir K H (.str x)^.type "str"
 |ol (x:UInt64):ir K H (.ol x)^.type "float"
 |lst {a:vb} {xs:List V} (e:H a=!.lst xs):ir K H `n^.type "list"
 |dj {a:vb} {o:Obj} {xs:List V} (e:H a=!.dj o^.lst xs):ir K H `n^.type "list"
 |tup {a:vb} {xs:List V} (e:H a=!.tup xs):ir K H `n^.type "tuple"
 |dK {a:vb} {kvs:List (aH×V)} (e:H a=!.dK kvs):ir K H `n^.type "dict"
 |dT {a:vb} {kvs:List (List aH×V)} (e:H a=!.dT kvs):ir K H `n^.type "dict"
 |ins {a C dx:vb} {fs:List (Str×V)} (e:H a=!.ins C dx fs) (cl:eX K C) (ha:qm K (.ref C) "__class__"=!!.builtin "object.__class__")
   (hn:PySem.W.specialIn K (.builtin "object.__class__") "__get__"=!!.builtin "getset_descriptor.__get__") (htk:PySem.W.takesIn K^.builtin "object.__class__"=!bU)
   (hm:oD K C^.type "object"=!bU):ir K H `n^.ref C
def Qb(I:`e)(d:RelV x u)(v:ir X.K H x t)(e:W.kitOne X.K t c=!b)(h:∀B,Q (.bool b) {s with toks:=B}):
  gE `d A (call (.builtin "isinstance") [u,c]) Q E s:=by
 cases v with
 |aw=>cases(show u=wj.none from d);show R4 W.kitx_none I.dL True.intro e (λz=>nomatch z) h
 |bl y=>cases(show u=wj.bool y from d);show R4 W.kitx_bool I.dL True.intro e (λz=>nomatch z) h
 |int i=>let{t,q}:=(show∃t,u=wj.int i t from d);cases q;show R4 W.kitx_int I.dL True.intro e (λz=>nomatch z) h
 |str y=>let{t,q}:=(show∃t,u=wj.str y t from d);cases q;show R4 W.kitx_str I.dL True.intro e (λz=>nomatch z) h
 |ol y=>let{t,q}:=(show∃t,u=wj.float y t from d);cases q;show R4 W.kitx_float I.dL True.intro e (λz=>nomatch z) h
 |@lst a k f=>
  cases(show u=wj.ref a from d);let{_,_,n,_,g}:=(show bZ X.prog X.w H s.heap a^.lst k from I.au a _ f)
  show R4 W.kitx_list I.dL {_,g,A2} e (λz=>nomatch z) h
 |@dj a G k f=>
  cases(show u=wj.ref a from d);let{_,_,_,n,_,g}:=(show bZ X.prog X.w H s.heap a^.dj G^.lst k from I.au a _ f)
  show R4 W.kitx_list I.dL {_,g,A2} e (λz=>nomatch z) h
 |@tup a k f=>
  cases(show u=wj.ref a from d);let{_,_,_,p}:=(show bZ X.prog X.w H s.heap a^.tup k from I.au a _ f)
  let{o,g,l,_}:=p;show R4 W.kitx_tuple I.dL {o,g,l} e (λz=>nomatch z) h
 |@dK a j f=>
  cases(show u=wj.ref a from d);let{_,_,Y,_,p}:=(show bZ X.prog X.w H s.heap a^.dK j from I.au a _ f)
  let{o,L,M,g,l,_}:=p;show R4 W.kitx_dict I.dL {o,g,l.1} e (λz=>nomatch z) h
 |@dT a j f=>
  cases(show u=wj.ref a from d);let{_,_,k,_,o,L,M,g,l,_}:=(show bZ X.prog X.w H s.heap a^.dT j from I.au a _ f)
  show R4 W.kitx_dict I.dL {o,g,l.1} e (λz=>nomatch z) h
 |@ins a C dx fs f r N T m U=>
  cases(show u=wj.ref a from d);let{mA,O,_}:=uf I.au f;let{od,J,_}:=O.look;show R4 (W.kitx_own (r.get _) r.hd N T m U) I.dL J e (λz=>nomatch z) h
end
end L2
namespace L2
open PySem PySem.Spec PyProof.Rows
structure cW (k:Nat)(A:om):Prop where
 hd:A.handled=bF
 dp:A.depth+3*k+5<recursionLimit
 un:A.units+16*k+200<cLine
def cW.mono(r:cW k A)(h:j<=k):cW j A:={r.hd,by have:=r.dp;omega,by have:=r.un;omega}
theorem cW.deeper(r:cW (k+1) A)(a:Env):cW k^A.deeper a:=
 {r.hd,by have:=r.dp;change A.depth+1+3*k+5<_;omega,by have:=r.un;change A.units+3+16*k+200<_;omega}
def Jf{A:om}:(A.under^.builtin "type.__call__" {.ref C::a,b}).depth=A.depth+1:=by
 first|rfl|simp[om.under,Code.weight,Code.isCreation,Code.isGuard,Code.isCaller,Code.frames,Code.isFrame,guardIds]
def NR{A:om}:(A.under^.builtin "type.__call__" {.ref C::a,b}).units=A.units+1:=by
 first|rfl|simp[om.under,Code.cUnits,Code.frames,Code.isFrame]
def cW.make(r:cW (k+1) A)(C:vb)(a:List wj)(b:List (Str×wj)):cW k^A.under^.builtin "type.__call__" {.ref C::a,b}:=
 {r.hd,by have:=r.dp;rw[Jf];omega,by have:=r.un;rw[NR];omega}
theorem cW.depth(r:cW k A):A.depth<recursionLimit:=by have:=r.dp;omega
theorem cW.units(r:cW k A):A.units+64<cLine:=by have:=r.un;omega
def bM:TA:=λ_ H Q=>Q [] H
def bq (ta:TE)(tr:TA):TA:=λσ H Q=>ta σ H λx H1=>tr σ H1 λxs H2=>Q (x::xs) H2
section
variable {X:Cx}{e:sH}{es:List sH}{te:TE}{t:TA}{pos:Pos}
def aq:PA X [] bM:=λ_ _ _ _ H Q I h=>VA {[],H,I,.nil,h}
def ai (d:PE X e te)(f:PA X es t)(g:zA (e::es) X.env=(fF,y1 e X.env)::zA es X.env:=by rfl):PA X (e::es)^bq te t:=by
 intro b a s c H Q I h;rw[g];change gE _ _ (spliced ((fF,y1 e X.env)::gA b^zA es X.env)) _ _ s;show TQ^aQ (d a s c H _ I h) λu i j=>?_
 let{x,k,l,m,n}:=j;show aQ (f b a i c k _ l n) λy z o=>by let{p,q,r,v,w}:=o;show{x::p,q,r,.cons m v,w}
def vi (t:TA):TE:=λσ H Q=>t σ H λxs H1=>xs.length<=se/\∀p,H1 p=bF->Q (.ref p)^upd H1 p^.tup xs
def ma (t:TA):TE:=λσ H Q=>t σ H λxs H1=>xs.length<=se/\∀p,H1 p=bF->Q (.ref p)^upd H1 p^.lst xs
def eG {g}(h:PA X es t):PE X (.Tuple es g pos)^vi t:=by
 intro a s i H Q I j;show wpAny_Tuple_spliced^aQ (h pos a s i H _ I j) λk c ⟨l,d,f,r,z,q⟩=>{by rw[<-r.length];show z,?_}
 let m:d c.heap.objs.size=bF:=f.au.fresh^QU _
 show{.ref c.heap.objs.size,upd d c.heap.objs.size^.tup l,f.laid (t':=c.toks) (λb u e=>QR _ e) (QU _) ?_,A2,q _ m};show{z,k,r,{_,Ra _ A2,A2,_,A2}}
def dA (h:PA X es t):PE X (.List es pos)^ma t:=by
 intro a s g H Q I i;show wpAny_List_spliced^aQ (h pos a s g H _ I i) λj c ⟨k,d,f,r,z,q⟩=>{by rw[<-r.length];show z,?_}
 let l:d c.heap.objs.size=bF:=f.au.fresh^QU _
 show{.ref c.heap.objs.size,upd d c.heap.objs.size^.lst k,f.laid (t':=c.toks) (λb u e=>QR _ e) (QU _) ?_,A2,q _ l};show{z,j,0,r,Ra _ A2}
end
abbrev Sp:=List V->Hp->VK->XK->Prop
abbrev gX:=List Env->Hp->ot->XK->wj->ot->Prop
structure oB (P:qj)(w:pa)(K:kc)(mg:Str->Option wj)(base:rl)(A:om)(outer:List Env)(s:ot)(H:Hp):Prop where
 frames:A.frames=some outer
 mod:Mod K mg base
 bs:∀b o,base.get? b=!o->s.heap.get? b=!o/\H b=bF
 kT:base.objs.size<=s.heap.objs.size
 iu:s.heap.FunFrames base outer
 lQ:∀b∈dr outer,H b=bF
 au:du P w H s.heap
 bare:p0 s.gens
def CE (outer:List Env)(P:qj)(w:pa)(H:Hp)(s:ot)(Q:VK)(u:wj)(s':ot):Prop:=
 ∃v H',s'.os=s.os/\p0 s'.gens/\Un (dr outer) [] H H' s.heap s'.heap/\du P w H' s'.heap/\RelV v u/\Q v H'
def CR (CX:gX)(outer:List Env)(P:qj)(w:pa)(H:Hp)(s:ot)(Q:VK)(E:XK)(r:Result)(s':ot):Prop:=
 match r with
 |.ok (.ret u)=>CE outer P w H s Q u s'
 |.ok _=>False
 |.error e=>CX outer H s E e s'
structure bw (P:qj)(w:pa)(K:kc)(mg:Str->Option wj)(base:rl)(CX:gX)(k:Nat)(f:vb)(fd:mu)(ps:List Str)(sp:Sp):Prop where
 len:∀vs H Q E,sp vs H Q E->vs.length=ps.length
 run:∀(A:om) (outer:List Env) (s:ot) (H:Hp) (args:Args) (us:List wj) (vs:List V) (Q:VK) (E:XK),cW k A->oB P w K mg base A outer s H->BindsTo s fd args^ps.zip us->bn vs us->sp vs H Q E->
  qi (y3 P w) A (.call (.ref f) args) (CR CX outer P w H s Q E) s
theorem bw.mono{K:kc}{base:rl}(F:bw P w K c base d j f e g i)(h:j<=k):
  bw P w K c base d k f e g i:={F.len,λA a s H b l m Q E n=>F.run A a s H b l m Q E^n.mono h}
def oB.make{K:kc}{base:rl}(e:oB P w K b base A a s H)(C:vb)(c:List wj)(d:List (Str×wj)):
  oB P w K b base (A.under^.builtin "type.__call__" {.ref C::c,d}) a s H:=⟨by first|show e.frames|(simpa[om.under,Code.envs,Code.isFrame,pushEnvs]using e.frames),e.mod,e.bs,e.kT,e.iu,e.lQ,e.au,e.bare⟩
section
variable {X:Cx}{pins:List (vb×Obj)}{σ:St}{H:Hp}{s s':ot}
def Inv.zg (I:`e):oB X.prog X.w X.K X.mg X.base X.A X.stack s H:=
 {I.ok.frames,I.ok.mod,I.bs,Rh I.ok.kT I.sz,I.stack,I.zj,I.au,I.bare}
def Inv.after(I:`e)(h:CE X.stack X.prog X.w H s Q u s'):EP X pins σ Q u s':=by
 let{v,e,os,a,f,au,r,q}:=h;let{i,g,d,t,c}:=s';obtain rfl:c=s.os:=os;show{v,e,I.call (h':=i) (g':=g) (d':=d) (t':=t) (ch:=[]) f au a λb z=>absurd z Z8,r,q}
end
def ja (sp:Sp)(dvs:List V)(E:XK)(t:TA):TE:=λσ H Q=>t σ H λvs H1=>sp (vs++dvs) H1 Q E
def mP (C:vb)(m:Str)(sp:Sp)(dvs:List V)(E:XK)(ta:TE)(t:TA):TE:=λσ H Q=>ta σ H λx H1=>∃a dx fs,x=.ref a/\H1 a=!.ins C dx fs/\fs.lookup m=bF/\
 t σ H1 λvs H2=>sp (x::(vs++dvs)) H2 Q E
def uw (C:vb)(sp:Sp)(dvs:List V)(E:XK)(t:TA):TE:=λσ H Q=>t σ H λvs H1=>∀x dx,H1 x=bF->H1 dx=bF->dx≠x->
 sp (.ref x::(vs++dvs)) (upd (upd H1 dx^.own x) x^.ins C dx []) (λv H2=>v=.aw/\Q (.ref x) H2) E
def Binds (K:kc)(fd:mu)(ps:List Str)(ds:List wj):Prop:=
 ∀(s:ot) (us:List wj),K.In s.heap->(us++ds).length=ps.length->BindsTo s fd {us,[]}^ps.zip (us++ds)
def Binds.all{K:kc}{b:ZY}(h:∀a:List wj,a.length=b.length->bindArgs c {a,[]}=pure^b.zip a):Binds K c b []:=λs a _ d=>by
 rw[Ro]at d⊢;show .of_eq^h a d
def nX (CX:gX)(X:Cx)(E:XK):Prop:=∀(pins:`l) (σ:St) (H:Hp) (s:ot) (e:wj) (s':ot),Inv X pins σ H s->CX X.stack H s E e s'->X.xe e s'
section
variable {X:Cx}{CX:gX}{k:Nat}{f C:vb}{fd:mu}{ps:List Str}{sp:Sp}{dvs:List V}{ds:List wj}{E:XK}{x m:Str}{p pos apos:Pos}{e o:sH}{es:List sH}{ta:TE}{t:TA}
def zu(F:bw X.prog X.w X.K X.mg X.base CX k f fd ps sp)(g:cW k X.A)(i:Binds X.K fd ps ds)(j:bn dvs ds)(l:nX CX X E)
  (I:Inv X a c H s) (r:bn vs us) (h:sp (vs++dvs) H Q E):gE `d X.A (call (.ref f) us) (EP X a c Q) X.xe s:=by
 let d:bn (vs++dvs) (us++ds):=r.append j;let n:(us++ds).length=ps.length:=by rw[<-d.length];show F.len _ _ _ _ h
 show Wm^Ut (F.run X.A X.stack s H {us,[]} (us++ds) (vs++dvs) Q E g I.zg (i s us I.dL n) d h) λr q b=>?_
 cases r with
 |error e=>show l a c H s e q I b
 |ok v=>
  cases v with
  |ret u=>show I.after b
  |next=>show False.elim b
  |brk=>show False.elim b
  |cont=>show False.elim b
def JU (F:bw X.prog X.w X.K X.mg X.base CX k f fd ps sp)(g:cW k X.A)(i:Gl X x)(j:X.mg x=!.ref f)(l:zC X.K^.ref f=bU)(n:Binds X.K fd ps ds)(u:bn dvs ds)(v:nX CX X E)
  (y:PA X (e::es) t) (b:`k=fF:=by decide) (z:zA (e::es) X.env=(fF,y1 e X.env)::zA es X.env:=by rfl) (c:(gA pos^zA es X.env).any (·.1)=fF:=by rfl):
  PE X (.Call (.Name x p) (e::es) [] pos)^ja sp dvs E t:=by
 intro a s B H Q I h;show SH^oX I i j ?_ b
 show UI (h₀:=X.base) I.ok.mod.fR l (aQ (y pos a s B H _ I h) λG J ⟨L,M,d,r,q⟩=>{d.dL,?_}) z c;show zu F g n u v d r q
def Ik(z:PE X o ta)(c:eX X.K C)(i:ri X.K C m f)(F:bw X.prog X.w X.K X.mg X.base CX k f fd ps sp)(B:cW k X.A)(G:Binds X.K fd ps ds)(J:bn dvs ds)(L:nX CX X E)(M:PA X (e::es) t)
  (d:zA (e::es) X.env=(fF,y1 e X.env)::zA es X.env:=by rfl) (g:(gA pos^zA es X.env).any (·.1)=fF:=by rfl)
  (N:y1 (.Call (.Attribute o m apos) (e::es) [] pos) X.env=(do
   let j<-y1 o X.env
   standAt apos.atName
   let(f,first)<-gD [j] (mm j m pl)
   zB pos f first (gA pos^zA (e::es) X.env)^backToKw pos^y2 [] X.env):=by rfl):
  PE X (.Call (.Attribute o m apos) (e::es) [] pos)^mP C m sp dvs E ta t:=by
 intro b s n H Q I h;show V7 (pl:=pl) (aQ (z b s n H _ I h) λu O ⟨x,T,v,U,a,dx,fs,Y,ea,l,q⟩=>?_) N;subst Y;obtain rfl:u=wj.ref a:=U;show Ek v ea c i l ?_;show UI (first:=[.ref a]) (h₀:=X.base) I.ok.mod.fR i.kp (aQ (M pos b O n T _ v q) λus s2 ⟨vs,H2,y,r,q2⟩=>{y.dL,?_}) d g;show zu (us:=.ref a::us) (vs:=.ref a::vs) F B G J L y (.cons A2 r) q2
def Hv(j:PE X o ta)(c:eX X.K C)(g:ri X.K C m f)(F:bw X.prog X.w X.K X.mg X.base CX k f fd ps sp)(n:cW k X.A)(r:Binds X.K fd ps ds)(v:bn dvs ds)(y:nX CX X E)
  (z:y1 (.Call (.Attribute o m apos) [] [] pos) X.env=(do
   let i<-y1 o X.env
   standAt apos.atName
   let(f,first)<-gD [i] (mm i m pl)
   zB pos f first (gA pos^zA [] X.env)^backToKw pos^y2 [] X.env):=by rfl):
  PE X (.Call (.Attribute o m apos) [] [] pos)^mP C m sp dvs E ta bM:=by
 intro b s B H Q I h;show V7 (pl:=pl) (aQ (j b s B H _ I h) λu M ⟨x,N,d,G,a,O,T,J,L,l,q⟩=>?_) z;subst J;obtain rfl:u=wj.ref a:=G;show Ek d L c g l ?_;show W.callWith_K0 (first:=[.ref a]) d.dL g.kp^zu (us:=[.ref a]) (vs:=[.ref a]) F n r v y d (.cons A2 .nil) q
structure Mk (K:kc)(C f:vb):Prop where
 makes:PySem.W.makesIn K C=bU
 init:qm K (.ref C) "__init__"=some (!.ref f)
 fn:PySem.W.isFn K^.ref f=bU
 kp:PySem.W.keepIn K^.ref C=bU
def Of{Q:VK}(M:Mk X.K C f)(F:bw X.prog X.w X.K X.mg X.base CX k f fd ps sp)(q:cW (k+1) X.A)(y:Binds X.K fd ps ds)(z:bn dvs ds)
  (B:nX CX X E) (I:Inv X a i H s) (r:bn j c)
  (h:∀x d,H x=bF->H d=bF->d≠x->sp (.ref x::(j++dvs)) (upd (upd H d^.own x) x^.ins C d []) (λv G=>v=.aw/\Q (.ref x) G) E):
  gE `d X.A (call (.ref C) c) (EP X a i Q) X.xe s:=by
 let l:=h `q s.heap.objs.size (I.au.fresh^Wt _) (I.au.fresh^QU _)^Rp^SF _
 let g:=Inv.made (C:=C) I;let n:bn (V.ref `q::(j++dvs)) (wj.ref `q::(c++ds)):=.cons A2^r.append z
 let J:(wj.ref `q::c++ds).length=ps.length:=by
  let e:=n.length;rw[F.len _ _ _ _ l]at e;show e.symm
 show Wm^IE (f:=f) I.dL M.makes M.init (Tw.mp M.fn)^Ut (F.run _ X.stack _ _ {wj.ref `q::c,[]} (wj.ref `q::(c++ds)) _ _ E (q.make C c [])
  (g.zg.make C c []) (y _ (wj.ref `q::c) g.dL J) n l) λr L b=>?_
 cases r with
 |error e=>show B a i _ _ e L g b
 |ok N=>
  cases N with
  |ret u=>
   let{v,O,T,U,Y,q3}:=g.after b;subst Y;show{U,{V.ref<|s.heap.objs.size+1,O,T,A2,q3}}
  |next=>show False.elim b
  |brk=>show False.elim b
  |cont=>show False.elim b
def Hi (M:Mk X.K C f)(F:bw X.prog X.w X.K X.mg X.base CX k f fd ps sp)(g:cW (k+1) X.A)(i:Gl X x)(j:X.mg x=!.ref C)(l:Binds X.K fd ps ds)(n:bn dvs ds)(u:nX CX X E)
  (v:PA X (e::es) t) (b:`k=fF:=by decide) (y:zA (e::es) X.env=(fF,y1 e X.env)::zA es X.env:=by rfl) (c:(gA pos^zA es X.env).any (·.1)=fF:=by rfl):
  PE X (.Call (.Name x p) (e::es) [] pos)^uw C sp dvs E t:=by
 intro a s z H Q I h;show SH^oX I i j ?_ b
 show UI (h₀:=X.base) I.ok.mod.fR M.kp (aQ (v pos a s z H _ I h) λB G ⟨J,L,d,r,q⟩=>{d.dL,?_}) y c;show Of M F g l n u d r q
end
def PK (X:Cx)(kws:List Keyword)(t:TA):Prop:=
 ∀(pos:Pos) (pins:`l) (s:ot) (σ:St) (H:Hp) (Q:List V->Hp->Prop),Inv X pins σ H s->t σ H Q->gE `d X.A (evalAll^(backToKw pos^y2 kws X.env).map (·.2)) (AP X pins σ Q) X.xe s
section
variable {X:Cx}{CX:gX}{k:Nat}{f C:vb}{fd:mu}{ps ks:List Str}{sp:Sp}{E:XK}{x m:Str}{p pos apos kpos:Pos}{e o:sH}{es:List sH}{kws:List Keyword}{te ta:TE}{t tk:TA}{nm:Option Str}
def Ef:PK X [] bM:=λ_ _ _ _ H Q I h=>wpAny_evalAll_nil {[],H,I,.nil,h}
def GN (d:PE X e te)(g:PK X kws t):PK X ({nm,e,kpos}::kws)^bq te t:=by
 intro b a s c H Q I h;change gE _ _ (evalAll ((do let v<-y1 e X.env;standAt b;pure v)::(backToKw b^y2 kws X.env).map (·.2))) _ _ s;show wpAny_evalAll_cons^QL^aQ (d a s c H _ I h) λu i ⟨x,j,l,n,q⟩=>QL^VC^QX ?_
 show aQ (g b a i c j _ l q) λG J r=>by let{w,y,z,A,B}:=r;show{x::w,y,z,.cons n A,B}
variable {g:List wj->List wj->List wj}{gV:List V->List V->List V}
end
structure cb (N P:List Str)(sc:Scope):Prop where
 kind:sc.kind=.function
 co:sc.isCoroutine=fF
 gen:sc.isGenerator=fF
 nd:N.Nodup
 pre:N.take P.length=P
 par:∀x∈P,sc.names.lookup x=!.local\/sc.names.lookup x=some .cell
 Pp:∀y∈sc.names,y.2≠.free
theorem D9{kindOf:Str->Option NameKind}:∀{binds:List (Str×wj)} {m:ZU},(∀v,(x,v)∉binds)->bindL kindOf binds m x=m x
 |[],_,_=>rfl
 |(n,v)::r,m,h=>by
  unfold bindL;rw[D9 λw a=>h w^QM _ a];split
  .have:x≠n:=by rintro rfl;show h v QQ
   simp[this]
  .rfl
theorem Cv{kindOf:Str->Option NameKind}:∀{binds:List (Str×wj)} {m:ZU},(∀v,(x,v)∉binds)->bindC kindOf binds m x=m x
 |[],_,_=>rfl
 |(n,v)::r,m,h=>by
  unfold bindC;rw[Cv λw a=>h w^QM _ a];split
  .rfl
  .have:x≠n:=by rintro rfl;show h v QQ
   simp[this]
theorem AR{kindOf:Str->Option NameKind}:∀{P:ZY} {a:List wj} {i:Nat} {m:ZU},P.Nodup->P[i]?=!x->a[i]?=!v->kindOf x=!.local->
  bindL kindOf (P.zip a) m x=!v
 |[],_,_,_,_,h,_,_=>by simp at h
 |_::_,[],_,_,_,_,h,_=>by simp at h
 |p::P,w::a,0,m,d,b,c,e=>by
  simp at b c;subst b;subst c;change bindL kindOf ((p,w)::P.zip a) m p=_;unfold bindL;rw[D9 λv f=>(Th.mp d).1 (UD f).1,Q0 e];simp
 |p::P,w::a,i+1,m,d,b,c,e=>by
  change bindL kindOf ((p,w)::P.zip a) m x=_;unfold bindL;show AR (i:=i) (Th.mp d).2 (by simpa using b) (by simpa using c) e
theorem Ez{kindOf:Str->Option NameKind}:∀{P:ZY} {a:List wj} {i:Nat} {m:ZU},P.Nodup->P[i]?=!x->a[i]?=!v->kindOf x≠!.local->
  bindC kindOf (P.zip a) m x=!v
 |[],_,_,_,_,h,_,_=>by simp at h
 |_::_,[],_,_,_,_,h,_=>by simp at h
 |p::P,w::a,0,m,d,b,c,e=>by
  simp at b c;subst b;subst c;change bindC kindOf ((p,w)::P.zip a) m p=_;unfold bindC;rw[Cv λv f=>(Th.mp d).1 (UD f).1,QV e];simp
 |p::P,w::a,i+1,m,d,b,c,e=>by
  change bindC kindOf ((p,w)::P.zip a) m x=_;unfold bindC;show Ez (i:=i) (Th.mp d).2 (by simpa using b) (by simpa using c) e
def start (N:List Str)(vs:List V):St:=vs.map some++List.replicate (N.length-vs.length) bF
def gL (CX:gX)(P:qj)(w:pa)(K:kc)(mg:Str->Option wj)(base:rl)(N:List Str)(qual:Str)(scope:Scope)(f:vb)(cd:wj)(A:om)(outer:List Env)(s:ot)(H:Hp)(E:XK):Cx where
 prog:=P
 w:=w
 K:=K
 mg:=mg
 base:=base
 A:=A.deeper (envOfC qual scope s.heap.objs.size f cd)
 N:=N
 s₀:=s
 H₀:=H
 env:=envOfC qual scope s.heap.objs.size f cd
 outer:=outer
 stack:=envOfC qual scope s.heap.objs.size f cd::outer
 ex:=[]
 calm:=bU
 fn:=λ_=>bU
 pn:=[]
 xe:=λe s'=>gE (y3 P w) (A.deeper^envOfC qual scope s.heap.objs.size f cd) (leaving (envOfC qual scope s.heap.objs.size f cd) e) (λ_ s''=>CX outer H s E e s'') (λe' s''=>CX outer H s E e' s'') s'
def DW{a:Scope}(h:a.names.lookup x=!.cell):∃c,(cellsFrom n a.names []).lookup x=!c:=by
 let q:=UO a.names n []^.inl h;show VD.mp q
def Dd{K:kc}{base:rl}{A:om}{t:List V}
  (S:cb N o d) (hd:A.handled=bF) (m:oB P w K O base A g s H) (hl:t.length=o.length) (r:bn t Q)
  (x:InCallC s s.heap.objs.size (bindL (envOfC j d s.heap.objs.size f J).kindOf (o.zip Q) λ_=>bF) (cellsFrom `q d.names []) (bindC (envOfC j d s.heap.objs.size f J).kindOf (o.zip Q) λ_=>bF) U):
  Inv (gL T P w K O base N j d f J A g s H E) [] (start N t) H U:=by
 let ab:o.length<=N.length:=by have:=RF List.length S.pre;rw[Rr]at this;omega
 let{L,tk,rfl,Y}:=x.done;let B:∀b:vb,b∉(gL T P w K O base N j d f J A g s H E).ex:=λb z=>absurd (show b∈([]:ZX)from z) Z8;show⟨{m.mod,S.kind,A2,A2,QU _,λy z c L l=>?_,λy C=>?_,λy c _ h=>?_,λ_=>hd,om.frames_deeper m.frames,.inr {A2,A2},λb z=>absurd z^B b,m.bs,m.kT,λb _ _=>B b,λb z=>absurd z^B b,m.iu,m.lQ},
  rfl,m.bare,Un.kept Y,{_,x.toInCall.ns,λi y v L l h3=>?_},λy c h=>{_,x.cell y c h},m.au.fresh^QU _,λy c h=>?_,λp G=>absurd (show p∈([]:ZV)from G) Z8,m.au.kept Y,?_⟩
 .show name_of_addr x.apart (TB L)^TB l
 .let C:d.names.lookup y=!.cell\/d.names.lookup y=!.free:=C;rcases C with C|C
  .show DW C
  .show absurd A2^S.Pp _^TB C
 .show Sf^x.above y c^TB h
 .let M:i<t.length:=by
   unfold start at l;by_cases M:i<t.length
   .show M
   .rw[Rn^by simpa using M]at l
    rw[List.getElem?_replicate]at l;split at l<;>cases l
  let ha:t[i]?=!v:=by
   unfold start at l;rw[Rj (by simpa using M),QY]at l;cases e:t[i]? with
   |none=>rw[e]at l;cases l
   |some a=>rw[e]at l;cases l;rfl
  let{u,hu,rv}:=r.get ha;let G:o[i]?=!y:=by
   rw[<-S.pre,RW Z4];show L
  let I:o.Nodup:=by rw[<-S.pre];show S.nd.sublist^List.take_sublist _ _
  show{u,rv,?_};rcases S.par y (QT G)with k|k
  .show .inl {k,AR I G hu k}
  .let{c,e}:=DW (n:=s.heap.objs.size+1) k;show .inr {.inl k,c,e,?_};let q:=x.cell y c e;rw[Ez I G hu^by change d.names.lookup y≠_;rw[k];decide]at q;show q
 .show m.au.fresh^Sf^x.above y c^TB h
 .unfold start;change _=N.length;rw[Q7,QP,List.length_replicate];omega
def FS{K:kc}{base:rl}{name:Str}{kV:wj}
    {sp:Sp} (lk:K.lookup f=!{oc,od,.func^A1 name d h i a dV kV C pm an g ct,ab}) (ac:l0 K g d=bU) (S:cb N Y a)
  (G:∀j H Q E,sp j H Q E->j.length=Y.length)
  (p:∀(A:om) (c:List Env) (s:ot) (H:Hp) (j:List V) (Q:VK) (E:XK),cW k^A.deeper^envOfC d a s.heap.objs.size f g->sp j H Q E->
   ∃t,gi (gL T P w K U base N d a f g A c s H E) i t/\t {nx:=λ_ m=>Q .aw m,rt:=Q} (start N j) H):
  bw P w K U base T (k+1) f (A1 name d h i a dV kV C pm an g ct) Y sp:=by
 show{G,λA c s H aj us j Q E hr L hb r M=>?_};let hl:=G _ _ _ _ M;let KX:K.In s.heap:=L.mod.fR.keeps λb o e=>(L.bs b o e).1;let af:s.heap.NoLimit:=L.mod.nolimit.keeps λb o e=>(L.bs b o e).1;let z:∀y∈Y.zip us,a.names.lookup y.1=!.local\/(a.names.lookup y.1=!.cell/\((cellsFrom `q a.names []).lookup y.1).isSome=bU):=λq0 hy=>by
  let{n,v}:=q0;rcases S.par n (UD hy).1 with q|q
  .show .inl q
  .show .inr {q,UO _ _ _^.inl q}
 show codeAny_call_function hr.depth (KX _ _ lk) A2 S.co S.gen A2 (W.codeRec_of KX ac)^hb _ _ _ _ ?_
 show Vm S.kind z λam he s1 x=>?_;subst he;show{af.keeps x.toInCall.keep,codeAny_func ?_};let{t,ht,hq}:=p A c s H j Q E (hr.deeper _) M;let I:Inv (gL T P w K U base N d a f g A c s H E) [] (start N j) H s1:=Dd S hr.hd L hl r x;show RV (ht [] s1 (start N j) H _ I hq) (λfl s' B=>?_) λe s' B=>B;let O:∀{l:St} {m:Hp} {v:V} {u:wj},Inv (gL T P w K U base N d a f g A c s H E) [] l m s'->RelV v u->Q v m->CE c P w H s Q u s':=
  λ{l m v u} J rv q=>{v,m,J.os,J.bare,J.base,J.au,rv,q}
 cases fl with
 |ret u=>
  let{v,l,m,J,rv,q}:=B;show O J rv q
 |next=>
  let{l,m,J,q}:=B;show O (v:=V.aw) (u:=wj.none) J A2 q
 |brk=>
  let{_,_,_,q}:=B;show False.elim q
 |cont=>
  let{_,_,_,q}:=B;show False.elim q
end L2
namespace L2
open PySem PySem.Spec PyProof.Rows
section
variable {X:Cx}{x:Str}{p pos:Pos}{e:sH}{es:List sH}{t:TA}{id T:String}{r:List V->Hp->VK->Prop}
def cN (r:List V->Hp->VK->Prop)(t:TA):TE:=λσ H Q=>t σ H λvs H1=>r vs H1 Q
def pE (d:iG X (.builtin id) r)(f:Gl X x)(g:X.mg x=bF)(i:bootBuiltins x=!.builtin id)(j:PA X (e::es) t)(k:x≠"__name__":=by decide)(b:`k=fF:=by decide)
  (he:zA (e::es) X.env=(fF,y1 e X.env)::zA es X.env:=by rfl) (hpl:(gA pos^zA es X.env).any (·.1)=fF:=by rfl):PE X (.Call (.Name x p) (e::es) [] pos)^cN r t:=by
 intro a s c H Q I h;show SH^jH I f g i ?_ k b
 show PyProof.Rows.callWith_builtin1 (aQ (j pos a s c H _ I h) λl m n=>by let{o,q,u,v,w}:=n;show d a m c q o l Q u v w) he hpl
def pC (f:iG X (.type T) r)(g:Gl X x)(i:X.mg x=bF)(j:bootBuiltins x=!.type T)(k:PA X (e::es) t)(l:x≠"__name__":=by decide)(b:`k=fF:=by decide)
  (he:zA (e::es) X.env=(fF,y1 e X.env)::zA es X.env:=by rfl) (c:(gA pos^zA es X.env).any (·.1)=fF:=by rfl):PE X (.Call (.Name x p) (e::es) [] pos)^cN r t:=by
 intro a s d H Q I h;show SH^jH I g i j ?_ l b
 show RX (aQ (k pos a s d H _ I h) λm n o=>by let{q,u,v,w,y}:=o;show f a n d u q m Q v w y) he c
end
end L2
namespace HT
open PySem PyProof.Rows
section
open PySem.SeqAt
open PySem.AutoSeq1 (wpAny_loadPart')
open PySem.MeetsSeq PySem.MeetsSeq2 PySem.MeetsSeq3
end
section
variable {prog:qj}{w:pa}{A:om}{E:wj->ot->Prop}{s:ot}
def Ij{d a:List wj}{Q:ZT}(v:IsTup s.heap t d.toArray)(x:IsTup s.heap b a.toArray)(l:d≠[])
  (y:a=[]->Q (.ref t) s) (z:a≠[]->Q (.ref s.heap.objs.size) {s with heap:=s.heap.push {cls:=.type "tuple",data:=.seq (d++a).toArray}})
  (k:d.length+a.length<=se):gE `i A (binaryOp .Add (.ref t)^.ref b) Q E s:=by
 let{{cls,m,data,o},i,p,n,q}:=id v;let{{r,f,data2,g},c,h,u,d6}:=id x;simp only at p q h d6;subst p q h d6;let e:d.toArray++a.toArray=(d++a).toArray:=by simp
 by_cases j:a=[]
 .show concat_meets {_,i,A2} {_,c,A2} VM seq_tuple_add UP UM (Uw _ _)
   (tuple_addW1 t b d.toArray a.toArray n u m f o g (by simpa using l)^by simp[j]) {i,c,y j}
 .show concat_meets {_,i,A2} {_,c,A2} VM seq_tuple_add UP UM (Uw _ _)
   (tuple_addW2 t b d.toArray a.toArray n u m f o g (by simpa using l) (by simpa using j)^by rw[Rb,Rb];show k) {i,c,?_}
  rw[e];show z j
def ce (n d:Nat):Option Int->Nat
 |none=>d
 |some v=>if v<0 then(v+(n:Int)).toNat else min v.toNat n
def Ex (n d:Nat):ce n d bF=d:=A2
def sU (n d k:Nat):ce n d (!(k:Int))=min k n:=by
 change(if(k:Int)<0 then((k:Int)+(n:Int)).toNat else min (k:Int).toNat n)=min k n;rw[QV Z4,Sa]
def Mw (n d:Nat)(b:d<=n)(o:Option Int):ce n d o<=n:=by
 cases o with
 |none=>show b
 |some v=>
  change(if v<0 then(v+(n:Int)).toNat else min v.toNat n)<=n;by_cases a:v<0
  .rw[Q0 a];omega
  .rw[QV a];show Nat.min_le_right _ _
def F7 (v:Int)(n d:Nat):(if v<0 then max (v+(n:Int)) 0 else min v (n:Int))=((ce n d^!v:Nat):Int):=by
 change(if v<0 then max (v+(n:Int)) 0 else min v (n:Int))=(((if v<0 then(v+(n:Int)).toNat else min v.toNat n):Nat):Int)
 by_cases a:v<0
 .simp only[Q0 a];omega
 .simp only[QV a];omega
def PU (lo a:Option Int)(n:Nat):Builtin.Slice.sliceAdjust lo a 1 (n:Int)=(((ce n 0 lo:Nat):Int),((ce n n a:Nat):Int)):=by
 let b:¬((1:Int)<0):=by omega
 unfold Builtin.Slice.sliceAdjust;simp only[b,Ux];show Prod.ext ?_ ?_
 .cases lo with
  |none=>rfl
  |some v=>show F7 v n 0
 .cases a with
  |none=>rfl
  |some v=>show F7 v n n
def Kf (i j:Nat):Builtin.Slice.slicePlaces (i:Int) (j:Int) 1=j-i:=by
 unfold Builtin.Slice.slicePlaces;let a:(1:Int)>0:=by omega
 simp only[a,UE,Int.ediv_one];split<;>omega
def FO{Q:Option Int->ot->Prop}(p:IsPart v o)(h:Q o s):gE `i A (Builtin.Slice.slicePartIndex v) Q E s:=by
 cases p with
 |none=>show slicePart_none h
 |int i t=>show slicePart_int h
def NP{lo:Option Int}{Q:Int×Int×Nat->ot->Prop}(g:s.heap.IsSliceOf f d e .none)(i:IsPart d lo)(j:IsPart e a)
  (h:Q (((ce n 0 lo:Nat):Int),1,ce n n a-ce n 0 lo) s):gE `i A (Builtin.Slice.sliceApplied (.ref f)^pure (n:Int)) Q E s:=by
 let{os,b,k,c}:=id g;unfold Builtin.Slice.sliceApplied Builtin.Slice.sliceFields;show QL^QL^RN b c (x:=d) A2^QL^RN b c (x:=e) A2^QL^RN b c (x:=.none) A2^QX ?_;show QL^slicePart_none ?_;change gE _ _ (if((1:Int)==0)=bU then _ else _) _ _ s;rw[QV Z1];show QL^FO i^QL^FO j^QL^QX ?_;change gE _ _ (match Builtin.Slice.sliceAdjust lo a 1 (n:Int)with|(lo,a)=>pure (lo,(1:Int),Builtin.Slice.slicePlaces lo a 1)) _ _ s;rw[PU lo a n];change gE _ _ (pure (((ce n 0 lo:Nat):Int),(1:Int),Builtin.Slice.slicePlaces ((ce n 0 lo:Nat):Int) ((ce n n a:Nat):Int) 1)) _ _ s;rw[Kf];show QX h
def Kk (a:Array wj)(i k:Nat):((List.range k).filterMap λ(m:Nat)=>a[((i:Int)+(m:Int)*1).toNat]?).toArray=((a.toList.drop i).take k).toArray:=by
 let e:(λ(m:Nat)=>a[((i:Int)+(m:Int)*1).toNat]?)=λm=>a[i+m]?:=by
  funext m;have:((i:Int)+(m:Int)*1).toNat=i+m:=by omega
  rw[this]
 rw[e];have:=pick_run a i k;rw[List.filterMap_map]at this;let b:((λx=>a[x]?)∘λx=>i+x)=λm=>a[i+m]?:=A2;rw[b]at this;rw[this]
def Hb{lo:Option Int}{Q:ZT}(d:IsTup s.heap t a)(n:s.heap.IsSliceOf e k l .none)(o:IsPart k lo)(p:IsPart l c)
  (r:¬(ce a.size 0 lo=0/\ce a.size a.size c=a.size))
  (h:Q (.ref s.heap.objs.size) {s with heap:=s.heap.push {cls:=.type "tuple",data:=.seq ((a.toList.drop^ce a.size 0 lo).take (ce a.size a.size c-ce a.size 0 lo)).toArray}})
  (u:a.size<=se):gE `i A (getItem (.ref t)^.ref e) Q E s:=by
 let b:sizeOk^.seq ((a.toList.drop^ce a.size 0 lo).take<|ce a.size a.size c-ce a.size 0 lo).toArray:=by
  change((a.toList.drop^ce a.size 0 lo).take<|ce a.size a.size c-ce a.size 0 lo).toArray.size<=se;rw[Rb,Rr,Uu,RP];omega
 let x:ce a.size a.size c<=a.size:=Mw _ _ (QU _) c;let{os,f,g,v}:=id n;let i:s.TypeIs (.ref e) "slice":={os,f,g}
 unfold getItem
 try with_reducible show So ?_
 first|show QL^QX ?_|skip
 show QL^wpAny_sequenceKey d.typeIs Z1 ?_
 show QL (RO (name:=Str.ofString "__getitem__") d.typeIs Tz
  (Sg Tz d.typeIs entry_tuple_getitem ?_^args_tuple_getitem _ _))
 change gE _ _ (Builtin.Tuple.tupleItemsOf^.ref t>>=_) _ _ s;show QL^tupleItemsOf_ d ?_
 show QL^Vi i ?_
 rw[Q0 Z1];show QL^NP n o p ?_
 let j:¬((((ce a.size 0 lo:Nat):Int)==0&&(1:Int)==1&&(ce a.size a.size c-ce a.size 0 lo)==a.size)=bU):=by
  intro q;rw[RJ,RJ]at q;let y:((ce a.size 0 lo:Nat):Int)=0:=eq_of_beq q.1.1;let z:ce a.size a.size c-ce a.size 0 lo=a.size:=eq_of_beq q.2;show r {by omega,by omega}
 change gE _ _ (if(((ce a.size 0 lo:Nat):Int)==0&&(1:Int)==1&&(ce a.size a.size c-ce a.size 0 lo)==a.size)=bU then _ else _) _ _ s;rw[QV j,Kk]
 first
  |show QL (m:=Builtin.Tuple.tupleExact _)^RS (QX {_,A2,QX h}) b
  |show QL (m:=Builtin.Tuple.tupleExact _)^RS (QL^QX^QX {_,A2,QX h}) b
  |show QL^QL (m:=Builtin.Tuple.tupleExact _)^RS (QX^QX {_,A2,QX h}) b
  |show QL^QL (m:=Builtin.Tuple.tupleExact _)^RS (QX {_,A2,QX h}) b
end
end HT
namespace L2
open PySem PySem.Spec PyProof.Rows
abbrev TO:=St->Hp->(Option Int->Hp->Prop)->Prop
def PO (X:Cx)(e:Option sH)(t:TO):Prop:=
 ∀(pins:`l) (s:ot) (σ:St) (H:Hp) (Q:Option Int->Hp->Prop),Inv X pins σ H s->t σ H Q->
  gE `d X.A (evalPart e X.env) (λu s'=>∃o H',Inv X pins σ H' s'/\IsPart u o/\Q o H') X.xe s
def Ev:TO:=λ_ H Q=>Q bF H
def vg (t:TE):TO:=λσ H Q=>t σ H λx H1=>∃i,x=.int i/\Q (!i) H1
section
variable {X:Cx}{e:sH}{te:TE}{lo hi:Option sH}{tl th:TO}{pos p2:Pos}
def sS:PO X bF Ev:=by
 intro a s b H Q I h;rw[evalPart_none];show QX {bF,H,I,.none,h}
def oA (h:PE X e te):PO X (!e)^vg te:=by
 intro a s b H Q I c;rw[evalPart_some];show aQ (h a s b H _ I c) λu l d=>?_;let{x,f,g,j,k}:=d;let{i,rfl,q}:=k;let{t,rfl}:=j;show{!i,f,g,.int i t,q}
def z9 (X:Cx)(r:V->Option Int->Option Int->Hp->VK->Prop):Prop:=
 ∀(pins:`l) (s:ot) (σ:St) (H:Hp) (x:V) (v vl vu:wj) (lo hi:Option Int) (sl:vb) (Q:VK),Inv X pins σ H s->RelV x v->s.heap.IsSliceOf sl vl vu .none->IsPart vl lo->IsPart vu hi->r x lo hi H Q->
  ∃T id,typeLookup (.type T) "__getitem__"=pure^!.builtin id/\s.TypeIs v T/\gE `d X.A (getItem v^.ref sl) (EP X pins σ Q) X.xe s
def xo (r:V->Option Int->Option Int->Hp->VK->Prop)(te:TE)(tl th:TO):TE:=λσ H Q=>te σ H λx H1=>tl σ H1 λl H2=>th σ H2 λu H3=>r x l u H3 Q
def pN(j:z9 X r)(k:PE X e te)(m:PO X lo tl)(n:PO X hi th):PE X (.Subscript e (.Slice lo hi bF p2) pos)^xo r te tl th:=by
 intro a s d H Q I h;show Subscript_^aQ (k a s d H _ I h) λv o p=>?_
 let{x,t,y,z,B}:=p;show wpAny_Slice^aQ (m a o d t _ y B) λf C ⟨l,E,G,J,L⟩=>aQ (n a C d E _ G L) λg c M=>?_;let{u,i,N,O,U}:=M;rw[evalPart_none];show QX ?_;let Y:Inv X a d i {c with heap:=c.heap.push {cls:=.type "slice",data:=.fields^List.toArray [f,g,.none]}}:=N.kept (t':=c.toks) λb ob q=>QR _ q;let{T,id,hT,ht,hg}:=j a {c with heap:=c.heap.push {cls:=.type "slice",data:=.fields^List.toArray [f,g,.none]}} d i x v f g l u c.heap.objs.size Q Y z (rl.IsSliceOf.new ..) J O U;change gE `d X.A (subscriptTail e (.Slice lo hi bF p2) v^.ref c.heap.objs.size) (EP X a d Q) X.xe {c with heap:=c.heap.push {cls:=.type "slice",data:=.fields^List.toArray [f,g,.none]}};show tail_any (ops:=[.ref c.heap.objs.size,v]) ht hT hg^by with_unfolding_all rfl
def iY (xs:List V)(lo hi:Option Int):List V:=(xs.drop^HT.ce xs.length 0 lo).take (HT.ce xs.length xs.length hi-HT.ce xs.length 0 lo)
def A8 (a:List V)(lo hi:Option Int):(iY a lo hi).length<=a.length:=by
 unfold iY;rw[Rr,Uu];omega
def DT (K:kc):V->Option Int->Option Int->Hp->VK->Prop:=λx lo hi H Q=>∃a xs,x=.ref a/\bQ K H a xs/\
 ¬(HT.ce xs.length 0 lo=0/\HT.ce xs.length xs.length hi=xs.length)/\∀p,H p=bF->Q (.ref p)^upd H p^.tup^iY xs lo hi
def tH:z9 X^DT X.K:=by
 intro pins s σ H x v vl vu lo hi sl Q I rx hs pl pu h;let{a,xs,rfl,hx,hw,q}:=h;cases rx;let{its,r,ht,hz}:=I.tuple hx;let hlen:its.toArray.size=xs.length:=by rw[Rb];show r.length.symm
 show{"tuple",_,Tz.lookup,ht.typeIs,?_};show HT.Hb ht hs pl pu (by rw[hlen];show hw) ?_ (by rw[hlen];show hz);rw[hlen];show{.ref s.heap.objs.size,_,I.laid (t':=s.toks) (o:=.tup^iY xs lo hi) (λb ob q=>QR _ q) (QU _) ?_,A2,q _^I.au.fresh^QU _};show{Rh (A8 xs lo hi) hz,_,(r.drop^HT.ce xs.length 0 lo).take (HT.ce xs.length xs.length hi-HT.ce xs.length 0 lo),IsTup.new _ _}
def KG (K:kc):R2:=λx y H Q=>∃a b xs ys,x=.ref a/\y=.ref b/\bQ K H a xs/\bQ K H b ys/\xs≠[]/\xs.length+ys.length<=se/\
 (ys=[]->Q `n H)/\(ys≠[]->∀p,H p=bF->Q (.ref p)^upd H p^.tup (xs++ys))
def bn.uD(r:bn a b):b=[]↔a=[]:=by
 cases r with
 |nil=>simp
 |cons _ _=>simp
def Lp:dh X (binaryOp .Add)^KG X.K:=by
 intro pins s σ H x y v u Q I rx ry h;let{a,b,xs,ys,rfl,rfl,ha,hb,hx,hz,q1,q2}:=h;cases rx;cases ry;let{its,r1,p1,_}:=I.tuple ha;let{its2,r2,p2,_}:=I.tuple hb;show HT.Ij p1 p2 (λz=>hx^r1.uD.mp z) (λz=>{.ref a,H,I,A2,q1^r2.uD.mp z}) (λz=>?_) (by rw[<-r1.length,<-r2.length];show hz);show{.ref s.heap.objs.size,_,I.laid (t':=s.toks) (o:=.tup (xs++ys)) (λb ob q=>QR _ q) (QU _) ?_,A2,q2 (λw=>z^r2.uD.mpr w) _^I.au.fresh^QU _};show{by rw[Q7];show hz,_,r1.append r2,IsTup.new _ _}
end
end L2
namespace L2
open PySem PySem.Spec PyProof.Rows
def lW (n:Nat)(i:Int):Option Nat:=if 0<=i then(if i<n then !i.toNat else bF)else if-(n:Int)<=i then some (i+n).toNat else bF
def dI {α:Type}(xs:List α)(i:Int):Option α:=(lW xs.length i).bind λj=>xs[j]?
def Ma(h:lW n i=!j):seqIndex? i n=!j/\j<n/\-(n:Int)<=i/\i<n:=by
 unfold lW at h;by_cases b:0<=i
 .rw[Q0 b]at h
  by_cases a:i<n
  .rw[Q0 a]at h
   let e:i.toNat=j:=Q5 h;show{by rw[seqIndex_of b a,e],by omega,by omega,a}
  .rw[QV a]at h;cases h
 .rw[QV b]at h
  by_cases a:-(n:Int)<=i
  .rw[Q0 a]at h
   let e:(i+n).toNat=j:=Q5 h;show{by rw[seqIndex_neg Z4 a,e],by omega,a,by omega}
  .rw[QV a]at h;cases h
def lL(h:dI a i=!v):∃j,seqIndex? i a.length=!j/\a[j]?=!v/\j<a.length/\-(a.length:Int)<=i/\i<a.length:=by
 unfold dI at h;cases e:lW a.length i with
 |none=>rw[e]at h;cases h
 |some j=>
  rw[e]at h;let{c,d,f,g}:=Ma e;show{j,c,h,d,f,g}
def vm{j:Nat}(h:a[j]?=!v):dI a (j:Int)=!v:=by
 let c:j<a.length:=(QN.mp h).1;let e:lW a.length (j:Int)=!j:=by
  unfold lW;rw[Q0 Z4,Q0 Z4];simp
 unfold dI;rw[e];show h
def Kx(a:List b)(v:b):dI (a++[v]) (-1)=!v:=by
 let c:(a++[v]).length=a.length+1:=by simp
 let e:lW (a++[v]).length (-1)=!a.length:=by
  unfold lW;rw[c,QV Z1,Q0 Z4];congr 1;omega
 unfold dI;rw[e];change(a++[v])[a.length]?=!v;simp
def vp (b:sH):Prop:=∀o i,subscripted b fF o i=operate [o,i]^getItem o i
def mf (X:Cx)(r:R2):Prop:=
 ∀(value slice:sH) (pins:`l) (s:ot) (σ:St) (H:Hp) (x y:V) (v u:wj) (Q:VK),Inv X pins σ H s->RelV x v->RelV y u->r x y H Q->
  subscripted slice fF v u=operate [v,u]^getItem v u->gE `d X.A (subscriptTail value slice v u) (EP X pins σ Q) X.xe s
def ur (X:Cx)(id:String)(r:V->List V->Hp->VK->Prop):Prop:=
 ∀(pins:`l) (s:ot) (σ:St) (H:Hp) (x:V) (xs:List V) (v:wj) (us:List wj) (Q:VK),Inv X pins σ H s->RelV x v->bn xs us->r x xs H Q->
  gE `d X.A (call (.builtin id) (v::us)) (EP X pins σ Q) X.xe s
section
variable {X:Cx}{a b:sH}{ta tb:TE}{pos:Pos}
def mf.or(h:mf X r)(l:mf X f):mf X^λx y H Q=>r x y H Q\/f x y H Q:=by
 intro c d e s g H x y v u Q I i j q k;rcases q with q|q
 .show h c d e s g H x y v u Q I i j q k
 .show l c d e s g H x y v u Q I i j q k
def N6(d:mf X r)(e:PE X a ta)(f:PE X b tb)(g:vp b):PE X (.Subscript a b pos)^bT r ta tb:=by
 intro c s i H Q I h;show Subscript_^As e f I h λv u j x y k l m n q=>d a b c j i k x y v u Q l m n q^g _ _
def Bb (K:kc):R2:=λx y H Q=>∃p xs i v,x=.ref p/\y=.int i/\aU K H p xs/\dI xs i=!v/\Q v H
def Df (K:kc):R2:=λx y H Q=>∃p xs i v,x=.ref p/\y=.int i/\bQ K H p xs/\dI xs i=!v/\Q v H
def FN:R2:=λx y H Q=>∃z i c,x=.str z/\y=.int i/\z.length<=se/\dI z.cps.toList i=!c/\Q (.str {(List.toArray [c])}) H
def G9:mf X^Bb X.K:=by
 intro f g c s o H x y v u Q I E G h A;let{p,Y,i,z,rfl,rfl,J,L,q}:=h;cases E;let{t,rfl}:=G;let{k,r,l,hz}:=I.list J;let{j,e,M,h3,N,O}:=lL L;let{w,B,m}:=r.get M;let T:=r.length;let hn:=rE;let d:EP X c o Q w s:={z,H,I,m,q}
 by_cases C:0<=i
 .let n:i.toNat=j:=by
   rw[seqIndex_of C O]at e;show Q5 e
  show item_listR l.isList C Z4 (by rw[n];simpa using B) d A
 .let n:(i+(k.toArray.size:Int)).toNat=j:=by
   rw[seqIndex_neg Z4 N]at e;rw[Rb,<-T];show Q5 e
  show subscriptTail_builtinR (x:=w) l.isList.typeIs slot_list_getitem.lookup
   (wpAny_getItem_list_neg (Q:=λr U=>r=w/\EP X c o Q r U) l.isList Z4 (by rw[Rb]<;>omega) Z4 (by rw[n];simpa using B) {A2,d}) A
def Oh:mf X^Df X.K:=by
 intro d e c s k H x y v u Q I m n h o;let{p,N,i,z,rfl,rfl,A,B,q}:=h;cases m;let{t,rfl}:=n;let{C,r,l,O}:=I.tuple A;let{j,E,G,T,U,Y}:=lL B;let{w,J,f}:=r.get G;let L:=r.length;let hn:=rE;let g:EP X c k Q w s:={z,H,I,f,q}
 show subscriptTail_builtinR (x:=w) l.typeIs slot_tuple_getitem.lookup
  (getItem_tuple (j:=j) (Q:=λr M=>r=w/\EP X c k Q r M) l Z4 Z4 (by rw[Rb,<-L];show E) (by simpa using J) {A2,g}) o
def Lm:mf X FN:=by
 intro d e f s C H x y v u Q I k l h m;let{z,i,c,rfl,rfl,E,n,q}:=h;let{t,rfl}:=k;let{G,rfl}:=l;let{j,g,o,J,p,r}:=lL n;let w:z.cps.toList.length=z.length:=by simp[Str.length]
 rw[w]at g p r;let L:=rE;show tail_any (typeIs_str s z t) slot_str_getitem.lookup (getItem_str (c:=c) (by
  let A:fT (i< -(2^63:Int))=fF:=Ri Z4;let B:fT (i≥2^63)=fF:=Ri Z4;rw[A,B,VE]) (by rw[g];simpa using o) {.str {(List.toArray [c])},H,I.tok _,{_,A2},q}) m
def eP (K:kc):R2:=λx y H Q=>Bb K x y H Q\/Df K x y H Q\/FN x y H Q
def HJ:mf X^eP X.K:=G9.or^Oh.or Lm
def Ky (lo hi:Option Int)(n:Nat):(sliceBounds lo hi bF n).1=((HT.ce n 0 lo:Nat):Int)/\(sliceBounds lo hi bF n).2.1=((HT.ce n n hi:Nat):Int)/\(sliceBounds lo hi bF n).2.2=1:=by
 show{?_,?_,A2}
 .cases lo with
  |none=>simp[sliceBounds,HT.ce]
  |some i=>
   simp only[sliceBounds,HT.ce,VN,show(1:Int)>0 by decide,UE];by_cases h:i<0
   .simp only[h,UE]<;>omega
   .simp only[h,Ux]<;>omega
 .cases hi with
  |none=>simp[sliceBounds,HT.ce]
  |some i=>
   simp only[sliceBounds,HT.ce,VN,show(1:Int)>0 by decide,UE];by_cases h:i<0
   .simp only[h,UE]<;>omega
   .simp only[h,Ux]<;>omega
def Qa (its:List wj)(lo hi:Option Int):slicePick its.toArray lo hi bF=((its.drop^HT.ce its.length 0 lo).take (HT.ce its.length its.length hi-HT.ce its.length 0 lo)).toArray:=by
 let{h1,h2,h3}:=Ky lo hi its.toArray.size;unfold slicePick;rw[h1,h2,h3];simp only[sliceRange_one,pick_run,Rb]<;>rfl
def Gz (K:kc):V->Option Int->Option Int->Hp->VK->Prop:=λx lo hi H Q=>∃a xs,x=.ref a/\aU K H a xs/\∀p,H p=bF->Q (.ref p)^upd H p^.lst^iY xs lo hi
def Fg:z9 X^Gz X.K:=by
 intro pins s σ H x v vl vu lo hi sl Q I rx hs pl pu h;let{a,xs,rfl,hx,q}:=h;cases rx;let{its,r,ht,hz}:=I.list hx;let hlen:=r.length;show{"list",_,slot_list_getitem.lookup,ht.isList.typeIs,?_};show wpAny_getItem_list_slice ht.isList hs pl pu .none Z8 ?_ (by rw[Rb]<;>omega);rw[Qa,<-hlen];show{.ref s.heap.objs.size,_,I.laid (t':=s.toks) (o:=.lst^iY xs lo hi) (λb ob q=>QR _ q) (QU _) ?_,A2,q _^I.au.fresh^QU _};show{Rh (A8 xs lo hi) hz,_,0,(r.drop^HT.ce xs.length 0 lo).take (HT.ce xs.length xs.length hi-HT.ce xs.length 0 lo),Ra _ A2}
def JE:iG X (.builtin "len")^λj H Q=>∃p d,j=[.ref p]/\(aU X.K H p d\/bQ X.K H p d)/\Q (.int d.length) H:=by
 intro k s n H j o Q I r h;let{p,d,rfl,e,q}:=h;let{u,rfl,l}:=Vf r;cases l;let t:=rE;rcases e with e|e
 .let{f,g,i,m}:=I.list e;let c:=g.length;show Calls.call_len_list i.isList (by simp only[Rb]<;>omega) {.int d.length,H,I.tok _,{s.toks+1,by rw[Rb,c]},q}
 .let{f,g,i,m}:=I.tuple e;let c:=g.length;show len_tuple i (by simp only[Rb]<;>omega) {.int d.length,H,I.tok _,{s.toks+1,by rw[Rb,c]},q}
def I0:iG X (.type "list")^λC H Q=>∃p f,C=[.ref p]/\(aU X.K H p f\/bQ X.K H p f)/\∀l,H l=bF->Q (.ref l)^upd H l^.lst f:=by
 intro j s G H C L Q I r h;let{p,f,rfl,k,q}:=h;let{u,rfl,J}:=Vf r;cases J;let m:∀(c:List wj),bn f c->f.length<=se->∀(d:rl) (g:Nat),(∀b E,s.heap.get? b=!E->d.get? b=!E)->
   d.get? s.heap.objs.size=!{cls:=.type "list",dict:=bF,data:=.seq c.toArray g,slots:= `r}->EP X j G Q (.ref s.heap.objs.size) {s with heap:=d}:=λc i t d g v e=>
  {.ref s.heap.objs.size,_,I.laid (t':=s.toks) v (QU _)^show bZ X.prog X.w _ d _^.lst f from{t,c,g,i,e},A2,q _^I.au.fresh^QU _}
 rcases k with k|k
 .let{c,i,y,t}:=I.list k;let x:=i.length;let{o,z,A,n,B}:=y.isList;show call_list_seq p (.inl A2) z A B (λd g v e=>m c i t d g v e) (by simp only[Rb]<;>omega)
 .let{c,i,y,t}:=I.tuple k;let x:=i.length;let{o,z,A,n,B}:=y;show call_list_seq p (.inr A2) z A B (λd g v e=>m c i t d g v e)^by simp only[Rb]<;>omega
def O6:iG X (.type "tuple")^λm H Q=>∃p f,m=[.ref p]/\((aU X.K H p f/\∀l,H l=bF->Q (.ref l)^upd H l^.tup f)\/(bQ X.K H p f/\Q (.ref p) H)):=by
 intro c s n H m B Q I r h;let{p,f,rfl,h}:=h;let{u,rfl,y}:=Vf r;cases y;rcases h with⟨i,q⟩|⟨i,q⟩
 .let{d,j,k,t}:=I.list i;let v:=j.length;show call_tuple_list k.isList (λg z=>?_) (by simp only[Rb]<;>omega);let x:Inv X c n H {s with heap:=g}:=I.kept (t':=s.toks) z;let A:Inv X c n (upd H g.objs.size^.tup f) {s with heap:=g.push {cls:=.type "tuple",data:=.seq d.toArray}}:=
   x.laid (t':=s.toks) (λb o e=>QR _ e) (QU _)^show bZ X.prog X.w _ _ _^.tup f from{t,d,j,IsTup.new _ _}
  show{.ref g.objs.size,_,A,A2,q _^x.au.fresh^QU _}
 .let{d,j,k,t}:=I.tuple i;show call_tuple_same k {.ref p,H,I,A2,q}
def iZ (K:kc)(T:String)(x:V)(H:Hp):Prop:=match x with
 |.str _=>T="str"
 |.int _=>T="int"
 |.ref p=>(T="list"/\∃xs,aU K H p xs)\/(T="tuple"/\∃o,K.lookup p=!o/\o.cls=.type "tuple"/\o.dict=bF)\/
   (T="dict"/\((∃kvs,H p=!.dK kvs)\/∃kvs,H p=!.dT kvs))\/(T="set"/\∃S n,H p=!.set S n)
 |_=>False
def FJ(I:Inv X g u H s)(r:RelV x v)(h:iZ X.K T x H):
  s.TypeIs v T/\∀a,v=.ref a->∃m,s.heap.get? a=!m/\m.dict=bF:=by
 cases x with
 |str z=>
  let{t,rfl}:=r;cases(show T="str" from h);show{typeIs_str s z t,λ_ e=>nomatch e}
 |int i=>
  let{t,rfl}:=r;cases(show T="int" from h);show{typeIs_int s i t,λ_ e=>nomatch e}
 |ref p=>
  cases r;rcases h with⟨rfl,B,w⟩|⟨rfl,o,d,y,j⟩|⟨rfl,d⟩|⟨rfl,S,n,d⟩
  .let{A,_,q,_}:=I.list w;show{q.isList.typeIs,λa e=>?_};cases e;let{o,n,e,c,j,_}:=q;show{o,e,j}
  .show{{o,I.dL p o d,y},λa e=>?_}
   cases e;show{o,I.dL _ o d,j}
  .let z:∃o,s.heap.get? p=!o/\o.ExactDict:=by
    rcases d with⟨k,d⟩|⟨k,d⟩
    .let{_,_,_,_,o,_,_,e,f,_}:=I.au p _ d;show{o,e,f}
    .let{_,_,_,_,o,_,_,e,f,_}:=I.au p _ d;show{o,e,f}
   let{o,e,f}:=z;show{{o,e,f.1},λa l=>?_};cases l;show{o,e,f.2.1}
  .let{o,_,_,_,e,f,_}:=I.au p _ d;show{{o,e,f.1},λa l=>?_};cases l;show{o,e,f.2.1}
 |_=>show False.elim h
def zO (K:kc)(T:String)(r:V->List V->Hp->VK->Prop)(to:TE):TE:=λσ H Q=>to σ H λx H1=>iZ K T x H1/\r x [] H1 Q
def lp (K:kc)(T:String)(r:V->List V->Hp->VK->Prop)(to:TE)(t:TA):TE:=λσ H Q=>to σ H λx H1=>iZ K T x H1/\t σ H1 λxs H2=>r x xs H2 Q
variable {o e:sH}{es:List sH}{to:TE}{t:TA}{name:Str}{apos cpos:Pos}{T id:String}{r:V->List V->Hp->VK->Prop}
def Ff (m:PlainAttrs T)(g:Slot T name id)(i:typeOf^.builtin id=pure^.type "method_descriptor")(n:ur X id r)(p:PE X o to)
  (d:y0 o name X.env^y1 o X.env=y1 o X.env:=by rfl) (f:(apos.endLine==cpos.line)=bU:=by rfl):PE X (.Call (.Attribute o name apos) [] [] cpos)^zO X.K T r to:=by
 intro c s j H Q I h;show wpAny_Call_method0_late d f^aQ (p c s j H _ I h) λv q u=>?_
 let{x,w,k,l,y,z}:=u;let{A,B}:=FJ k l y;show{T,id,m,g,i,A,B,Tb A2^PySem.evalArgs_none^n c q j w x [] v [] Q k l .nil z}
def qe (q:PlainAttrs T)(i:Slot T name id)(k:typeOf^.builtin id=pure^.type "method_descriptor")(u:ur X id r)(w:PE X o to)(y:PA X (e::es) t)
  (f:y0 o name X.env^y1 o X.env=y1 o X.env:=by rfl)
  (j:((gA cpos^zA (e::es) X.env).all (λx=> not x.1)&&(backToKw cpos^y2 [] X.env).all (λx=>x.1.isSome)
   &&fT ((e::es).length+([]:List Keyword).length+(if([]:List Keyword).isEmpty then 0 else 1)<30))=bU:=by rfl)
  (g:(apos.endLine==cpos.line)=bU:=by rfl) (z:zA (e::es) X.env=(fF,y1 e X.env)::zA es X.env:=by rfl) (d:(gA cpos^zA es X.env).any (·.1)=fF:=by rfl):
  PE X (.Call (.Attribute o name apos) (e::es) [] cpos)^lp X.K T r to t:=by
 intro c s l H Q I h;show wpAny_Call_method_late f j g A2^aQ (w c s l H _ I h) λv A B=>?_
 let{x,C,m,n,E,G}:=B;let{J,L}:=FJ m n E;show{T,id,q,i,k,J,L,?_};let p:=y cpos c A l C _ m G;rw[z]at p⊢;show Tb (by change(fF||(gA cpos^zA es X.env).any (·.1))=fF;rw[d]<;>rfl)^Uj ?_;show aQ p λM N O=>by let{U,Y,I2,r2,q2}:=O;show u c N l Y x U v M Q I2 n r2 q2
end
end L2
namespace L2
open PySem PySem.Spec PyProof.Rows
def rD (X:Cx)(id:String)(r:V->List V->Hp->VK->Prop):Prop:=
 ∀(pins:`l) (s:ot) (σ:St) (H:Hp) (x:V) (xs:List V) (v:wj) (us:List wj) (Q:VK),Inv X pins σ H s->RelV x v->bn xs us->r x xs H Q->
  gE `d X.A (call (.builtin id) (v::us)) (EP X pins σ Q) X.xe s
def bn.one:∀{x:V} {a:List wj},bn [x] a->∃u,a=[u]/\RelV x u
 |_,_,.cons r .nil=>{_,A2,r}
def bn.two:∀{x y:V} {a:List wj},bn [x,y] a->∃u v,a=[u,v]/\RelV x u/\RelV y v
 |_,_,_,.cons r^.cons q .nil=>{_,_,A2,r,q}
def bn.zero:∀{a:List wj},bn [] a->a=[]
 |_,.nil=>rfl
theorem bn.dropLast(h:bn a b):bn a.dropLast b.dropLast:=by
 induction h with
 |nil=>show .nil
 |cons r t c=>
  cases t with
  |nil=>show .nil
  |cons q d=>show .cons r c
def NY(l:List c):l.eraseIdx (l.length-1)=l.dropLast:=by
 induction l with
 |nil=>rfl
 |cons a r d=>
  cases r with
  |nil=>rfl
  |cons b r=>
   let e:(a::b::r).length-1=((b::r).length-1)+1:=by
    let f:(a::b::r).length=r.length+2:=A2;let g:(b::r).length=r.length+1:=A2;omega
   rw[e,List.eraseIdx_cons_succ,d]
   all_goals rfl
section
variable {X:Cx}{pins:List (vb×Obj)}{σ:St}{H:Hp}{s:ot}{l b:vb}{xs ys zs:List V}
def Inv.zn{a its':List wj}{f:Array wj->Array wj}(I:`e)(d:H l=!.lst xs)
  (e:s.heap.get? l=!{cls:=.type "list",data:=.seq a.toArray n}) (g:f a.toArray=its'.toArray) (h:bn ys its') (i:ys.length<=se):
  Inv X pins σ (upd H l^.lst ys) {s with heap:=s.heap.update l^Obj.mapSeq f,toks:=c}:=by
 let q:=PySem.IsL.update e f;rw[g]at q;show I.write (x:=l) (e:=l) (by rw[d];show trivial) (.inl A2) (λm u j k=>(Sh s.heap (Obj.mapSeq f)^RG j).trans k) {_,q} ?_;show{i,its',_,h,q}
def Inv.IS(I:`e)(c:bn ys a)(d:ys.length<=se):
  Inv X pins σ (upd H s.heap.objs.size^.lst ys) {s with heap:=s.heap.push {cls:=.type "list",data:=.seq a.toArray},toks:=t'}:=
 I.laid (λ_ _ q=>QR _ q) (QU _) {d,a,0,c,Ra _ A2}
theorem Inv.fresh (I:`e):H s.heap.objs.size=bF:=I.au.fresh^QU _
def Inv.oO (I:`e)(c:H l=!.lst xs):xs.length<=se/\∃(a:List wj) (n:Nat),bn xs a/\xs.length=a.length/\s.heap.get? l=!{cls:=.type "list",data:=.seq a.toArray n}:=by
 let{z,a,n,r,e}:=I.au l _ c;show{z,a,n,r,r.length,e}
def yJ(h:n<=se):Builtin.List.listTooLong n=fF:=by
 unfold Builtin.List.listTooLong;show Ri Z4
end
section
variable {X:Cx}
def pp:V->List V->Hp->VK->Prop:=λx vs H Q=>∃l xs y,x=.ref l/\vs=[y]/\H l=!.lst xs/\xs.length<se/\Q .aw^upd H l^.lst (xs++[y])
def Dg:rD X "list.append" pp:=by
 intro b s i H x j v k Q I d f h;let{l,m,y,rfl,rfl,c,o,q}:=h;cases d;let{u,rfl,g}:=f.one;let{z,a,n,r,p,e}:=I.oO c;show Vn F.slot_list_append {_,e,A2} F.entry_list_append (F.args_list_append_2 _ _) (PySem.list_append l a.toArray n u^by rw[Rb];omega) {e,?_};show{.aw,_,I.zn (its':=a++[u]) c e Z8 (r.append^.cons g .nil) ?_,A2,q};rw[Q7,R6];omega
def EM:V->List V->Hp->VK->Prop:=λx vs H Q=>∃l b xs zs,x=.ref l/\vs=[.ref b]/\H l=!.lst xs/\H b=!.lst zs/\xs.length+zs.length<=se/\Q .aw^upd H l^.lst (xs++zs)
def xa:rD X "list.extend" EM:=by
 intro g s A H x B v C Q I j k h;let{l,b,E,G,rfl,rfl,i,m,J,q}:=h;cases j;let{u,rfl,o}:=k.one;cases o;let{z,c,n,r,L,e}:=I.oO i;let{M,a,p,t,w,y}:=I.oO m;let f:c.toArray.size+a.toArray.size<=se:=by rw[Rb,Rb];omega
 let d:¬(not c.toArray.isEmpty&&Builtin.List.listTooLong (c.toArray.size+a.toArray.size))=bU:=by
  rw[yJ f,Wb];show QW
 show Vn TN {_,e,A2} F.entry_list_extend (F.args_list_extend_2 _ _)
  (AutoSeq1.list_extend_list_list_0 l c.toArray n b a.toArray p d (by rw[Rb];omega) Z4) {e,y,?_}
 show{.aw,_,I.zn (its':=c++a) i e Z8 (r.append t) ?_,A2,q};rw[Q7];omega
def PZ:V->List V->Hp->VK->Prop:=λx vs H Q=>∃l xs y,x=.ref l/\vs=[]/\H l=!.lst xs/\xs[xs.length-1]?=!y/\Q y^upd H l^.lst xs.dropLast
def Hm:rD X "list.pop" PZ:=by
 intro d s p H x t v w Q I g i h;let{l,A,y,rfl,rfl,f,j,q}:=h;cases g;let b:=i.zero;subst b;let{z,a,n,r,k,e}:=I.oO f;let{u,m,o}:=r.get j;let c:a.toArray[a.toArray.size-1]?=!u:=by
  change a.toArray[a.length-1]?=!u;rw[<-UV,<-k];show m
 show Vn F.slot_list_pop {_,e,A2} F.entry_list_pop (F.args_list_pop_1 _) (MeetsSeq.list_pop_last l a.toArray n u c^by rw[Rb];omega) {e,?_};show{y,_,I.zn (its':=a.dropLast) f e ?_ r.dropLast ?_,o,q}
 .change a.toArray.eraseIdxIfInBounds (a.toArray.size-1)=a.dropLast.toArray;rw[Rb,List.eraseIdxIfInBounds_toArray,NY]
 .rw[List.length_dropLast]
  omega
def CU:R2:=λx y H Q=>∃l b xs zs,x=.ref l/\y=.ref b/\H l=!.lst xs/\H b=!.lst zs/\xs.length+zs.length<=se/\∀p,H p=bF->Q (.ref p)^upd H p^.lst (xs++zs)
def qB:dh X (binaryOp .Add) CU:=by
 intro d s t H x y v u Q I f g h;let{l,b,w,A,rfl,rfl,i,j,B,q}:=h;cases f;cases g;let{z,c,n,r,C,e}:=I.oO i;let{E,a,G,k,m,o}:=I.oO j;show PySem.P.add_list e o ?_ (by rw[Rb,Rb];omega);let p:c.toArray++a.toArray=(c++a).toArray:=by simp
 rw[p];show{.ref _,_,I.IS (t':=s.toks) (r.append k) (by rw[Q7];omega),A2,q _ I.fresh}
end
section
variable {prog:qj}{w:pa}{A:om}{E:wj->ot->Prop}{s:ot}

set_option maxRecDepth 100000 in

end
section
variable {X:Cx}
end
end L2
namespace L2
open PySem PySem.Spec PyProof.Rows
section
variable {κ:Type} [DecidableEq κ]
def bD (kvs:List (κ×V))(k:κ):Option V:=(kvs.find? λkv=>fT (kv.1=k)).map (·.2)
def cr (kvs:List (κ×V))(k:κ)(v:V):List (κ×V):=
 if(kvs.any λkv=>fT (kv.1=k))=bU then kvs.map (λkv=>if kv.1=k then(kv.1,v)else kv)else kvs++[(k,v)]
def ii{p:κ×V}(e:p.1=k):bD (p::r) k=!p.2:=by simp[bD,RQ,e]
def ic{p:κ×V}(e:¬p.1=k):bD (p::r) k=bD r k:=by simp[bD,RQ,e]
theorem ml (k:κ):∀a:List (κ×V),(a.any λb=>fT (b.1=k))=(bD a k).isSome
 |[]=>rfl
 |p::r=>by
  rw[U5];by_cases e:p.1=k
  .simp only[ii e,Q9 e,Bool.true_or,Option.isSome_some]
  .rw[ic e,Ri e,Bool.false_or];show ml k r
theorem AT (k j:κ)(y:V):∀a:List (κ×V),bD (a.map λb=>if b.1=k then(b.1,y)else b) j=(bD a j).map λx=>if j=k then y else x
 |[]=>rfl
 |p::r=>by
  let c:=AT k j y r;rw[RB];by_cases h:p.1=k
  .rw[Q0 h]
   by_cases e:p.1=j
   .rw[ii (p:=(p.1,y)) e,ii e,UF,Q0^e.symm.trans h]
   .rw[ic (p:=(p.1,y)) e,ic e,c]
  .rw[QV h]
   by_cases e:p.1=j
   .rw[ii (p:=p) e,ii e,UF,QV λz=>h^e.trans z]
   .rw[ic (p:=p) e,ic e,c]
theorem Fp (k j:κ)(y:V):∀a:List (κ×V),bD a k=bF->bD (a++[(k,y)]) j=if j=k then !y else bD a j
 |[],_=>by
  by_cases e:k=j
  .rw[Q0 e.symm];show ii (p:=(k,y)) e
  .rw[QV λz=>e z.symm];show ic (p:=(k,y)) e
 |p::r,b=>by
  rw[U7];let c:¬p.1=k:=λz=>by rw[ii z]at b;cases b
  rw[ic c]at b;let d:=Fp k j y r b;by_cases e:p.1=j
  .rw[ii e,ii e,QV λz=>c^e.trans z]
  .rw[ic e,ic e,d]
def zH (b:List (κ×V))(k j:κ)(y:V):bD (cr b k y) j=if j=k then !y else bD b j:=by
 unfold cr;by_cases a:(b.any λc=>fT<|c.1=k)=bU
 .rw[Q0 a,AT]
  rw[ml]at a;by_cases e:j=k
  .let{x,d}:=VD.mp a;rw[Q0 e,e,d,UF,Q0 A2]
  .rw[QV e]
   cases bD b j with
   |none=>rfl
   |some x=>rw[UF,QV e]
 .rw[QV a]
  show Fp k j y b ?_;rw[ml]at a;cases q:bD b k with
  |none=>rfl
  |some x=>rw[q]at a;show(a A2).elim
def oI (a:List (κ×V))(k:κ)(v:V):(cr a k v).length<=a.length+1:=by
 unfold cr;split
 .rw[QP];omega
 .rw[Q7,Rw,SI];omega
def Ac {a:List (κ×V)}{k:κ}(v:V)(h:bD a k=bF):cr a k v=a++[(k,v)]:=by
 unfold cr;rw[ml,h];show QV Z1
def e9.su(r:e9 o u):o.isSome=u.isSome:=by
 cases o with
 |none=>cases u with
  |none=>rfl
  |some _=>show(show False from r).elim
 |some _=>cases u with
  |none=>show(show False from r).elim
  |some _=>rfl
theorem e9.getD(r:e9 o u)(b:RelV d a):RelV (o.getD d)^u.getD a:=by
 cases o with
 |none=>cases u with
  |none=>show b
  |some _=>show(show False from r).elim
 |some _=>cases u with
  |none=>show(show False from r).elim
  |some _=>show r
def KV.val(r:KV a f)(k:κ):e9 (bD a k)^valueAt f k:=by
 unfold KV at r;induction r with
 |nil=>show True.intro
 |@cons p q l c h t i=>
  let{g,j}:=h;by_cases e:p.1=k
  .let d:q.1=k:=g.symm.trans e;let b:valueAt (q::c) k=!q.2:=by simp[valueAt,RQ,d]
   rw[ii e,b];show j
  .let d:¬q.1=k:=λz=>e^g.trans z;let b:valueAt (q::c) k=valueAt c k:=by simp[valueAt,RQ,d]
   rw[ic e,b];show i
theorem KV.any(r:KV a c)(k:κ):(a.any λb=>fT (b.1=k))=c.any λb=>fT (b.1=k):=by
 unfold KV at r;induction r with
 |nil=>rfl
 |cons h t d=>rw[U5,U5,d,h.1]
def KV.oW(r:KV b d)(k:κ)(f:RelV y u):
  KV (b.map λa=>if a.1=k then(a.1,y)else a) (d.map λa=>if a.1=k then(a.1,u)else a):=by
 unfold KV at r⊢;induction r with
 |nil=>show .nil
 |@cons p q j l h t g=>
  rw[RB,RB];show .cons ?_ g;let{c,i}:=h;by_cases e:p.1=k
  .rw[Q0 e,Q0^c.symm.trans e];show{c,f}
  .rw[QV e,QV λz=>e^c.trans z];show{c,i}
def KV.put(r:KV a b)(k:κ)(c:RelV y u):KV (cr a k y)^stored b k u:=by
 unfold cr stored;rw[r.any k];by_cases e:(b.any λd=>fT<|d.1=k)=bU
 .rw[Q0 e,Q0 e];show r.oW k c
 .rw[QV e,QV e];show Paired.snoc r {A2,c}
theorem KV.length(r:KV a b):a.length=b.length:=Tf r
end
def kJ(r:RelV (kV k) u):(dm P w).is k u=bU:=by
 cases k with
 |inl i=>let{t,e}:=(show∃t,u=wj.int i t from r);subst e;show OI P w i t
 |inr x=>let{t,e}:=(show∃t,u=wj.str x t from r);subst e;show Ou P w x t
theorem Cb:∀{a:List aH} {b:List wj},bn (a.map kV) b->ItemsAre (dm P w) a b
 |[],_,r=>by rw[TU]at r;cases r;show .nil
 |k::a,_,r=>by
  rw[RB]at r;cases r with
  |cons h t=>show .cons (kJ h)^Cb t
abbrev KT (H:Hp):List (List aH×V)->List (List aH×vb×wj)->Prop:=Paired λp q=>p.1=q.1/\H q.2.1=!.tup^p.1.map kV/\RelV p.2 q.2.2
def KT.val(r:KT H a f)(k:List aH):e9 (bD a k)^(atKey f k).map (·.2):=by
 induction r with
 |nil=>show True.intro
 |@cons p q l c h t i=>
  let{g,_,j}:=h;by_cases e:p.1=k
  .let d:q.1=k:=g.symm.trans e;let b:atKey (q::c) k=!q.2:=by simp[atKey,RQ,d]
   rw[ii e,b];show j
  .let d:¬q.1=k:=λz=>e^g.trans z;let b:atKey (q::c) k=atKey c k:=by simp[atKey,RQ,d]
   rw[ic e,b];show i
def KT.oW(r:KT H a d)(k:List aH)(g:RelV y u):
  KT H (a.map λc=>if c.1=k then(c.1,y)else c)^d.map^putAt k u:=by
 induction r with
 |nil=>show .nil
 |@cons p q l m h t i=>
  rw[RB,RB];show .cons ?_ i;let{b,f,j}:=h;unfold putAt;by_cases e:p.1=k
  .rw[Q0 e,Q0^b.symm.trans e];show{b,f,g}
  .rw[QV e,QV λz=>e^b.trans z];show{b,f,j}
def KT.put(r:KT H a c)(k:List aH)(f:H b=!.tup^k.map kV)(d:RelV y u):
  KT H (cr a k y)^storedH c k b u:=by
 let e:(a.any λg=>fT<|g.1=k)=(atKey c k).isSome:=by
  rw[ml,(r.val k).su,Uf]
 unfold cr storedH;rw[e];by_cases q:(atKey c k).isSome=bU
 .rw[Q0 q,Q0 q];show r.oW k d
 .rw[QV q,QV q];show Paired.snoc r {A2,f,d}
def KT.keeps{c:Hp}(r:KT H a d)(f:∀b e,H b=!.tup e->c b=!.tup e):KT c a d:=
 Paired.zY r λ_ _ z=>{z.1,f _ _ z.2.1,z.2.2}
section
variable {P:qj}{w:pa}{H:Hp}{h:rl}{a:vb}
def zL(b:du P w H h)(e:Rd H a u):bZ P w H h a u:=e.ok b
def jg(d:du P w H h)(e:Rd H a^.dK b):b.length<=se/\(a==uU)=fF/\∃c,KV b c/\h.DictOf (dm P w) a c:=
 show bZ P w H h a^.dK b from zL d e
def wP(d:du P w H h)(e:H a=!.dK b):b.length<=se/\(a==uU)=fF/\∃c,KV b c/\h.DictOf (dm P w) a c:=jg d^.inl e
def mM {b:List aH}(d:du P w H h)(e:H a=!.tup^b.map kV):(tupleKind^dm P w).is h b a:=by
 let{_,c,r,o,f,g,n,i}:=(show bZ P w H h a^.tup^b.map kV from d a _ e)
 show{o,c.toArray,n,f,g,i,by simpa using Cb r}
def mj(f:du P w H h)(e:Rd H a^.dT b):b.length<=se/\(a==uU)=fF/\
  ∃d,KT H b d/\h.DictOfH (tupleKind^dm P w) a d:=by
 let{z,y,d,r,o,i,j,k,n,s,u,v}:=(show bZ P w H h a^.dT b from zL f e)
 show{z,y,d,r,o,i,j,k,n,s,u,λx c=>?_,v};let all:∀{l:List (List aH×V)} {m:List (List aH×vb×wj)},KT H l m->∀x∈m,(tupleKind^dm P w).is h x.1 x.2.1:=by
  intro l m q;induction q with
  |nil=>intro x c;show nomatch c
  |@cons p q B C g t A=>
   intro x c;rcases QZ.mp c with e|c
   .subst e;show mM f (by rw[<-g.1];show g.2.1)
   .show A x c
 show all r x c
def Ds(d:du P w H h)(e:H a=!.dT b):b.length<=se/\(a==uU)=fF/\
  ∃c,KT H b c/\h.DictOfH (tupleKind^dm P w) a c:=mj d^.inl e
end
def dg (H:Hp)(a:vb)(y:V)(r:Option V):Prop:=
 (∃kvs k,Rd H a^.dK kvs/\y=kV k/\r=bD kvs k)\/∃kvs k b,Rd H a^.dT kvs/\y=.ref b/\H b=!.tup^k.map kV/\r=bD kvs k
def gK (H:Hp)(a:vb)(y v:V)(H':Hp):Prop:=
 (∃kvs k,H a=!.dK kvs/\y=kV k/\kvs.length<se/\H'=upd H a^.dK^cr kvs k v)\/
 ∃kvs k b,H a=!.dT kvs/\y=.ref b/\H b=!.tup^k.map kV/\kvs.length<se/\H'=upd H a^.dT^cr kvs k v
theorem dg.k {H:Hp}{a:vb}{b:List (aH×V)}{k:aH}(e:H a=!.dK b):dg H a (kV k)^bD b k:=.inl {b,k,.inl e,A2,A2}
def dg.t{H:Hp}{k:List aH}(e:H a=!.dT c)(d:H b=!.tup^k.map kV):dg H a (.ref b)^bD c k:=.inr {c,k,b,.inl e,A2,d,A2}
theorem gK.k {H:Hp}{a:vb}{b:List (aH×V)}{k:aH}{v:V}(e:H a=!.dK b)(c:b.length<se):gK H a (kV k) v^upd H a^.dK^cr b k v:=.inl {b,k,e,A2,c,A2}
def gK.t{H:Hp}{k:List aH}(e:H a=!.dT c)(d:H b=!.tup^k.map kV)(f:c.length<se):
  gK H a (.ref b) v^upd H a^.dT^cr c k v:=.inr {c,k,b,e,A2,d,f,A2}
section
variable {X:Cx}{pins:List (vb×Obj)}{σ:St}{H:Hp}{s:ot}{a:vb}{y v:V}{u r:wj}{o:Option V}{A:om}{E:wj->ot->Prop}
def Inv.rB (I:`e):uU<s.heap.objs.size:=by
 let h:jk<s.heap.objs.size:=(I.mod.glob.keeps I.bk).lt;show Nat.lt_trans Z1 h
def Pg {Q:ZT}(x:A.units+1<cLine)(I:`e)(g:dg H a y^!v)(q:RelV y u)(h:∀d t,Inv X pins σ H t->RelV v d->Q d t):
  gE `d A (getItem `n u) Q E s:=by
 rcases g with⟨f,k,e,i,l⟩|⟨f,k,b,e,i,B,l⟩
 .subst i;let{z,C,G,bK,j}:=jg I.au e;let{d,m,c}:=e9.some_of (v:=v) (o:=valueAt G k) (by rw[l];show bK.val k);show wpAny_getItem_of (kJ q) j.mapOf m^h d _ (I.tok _) c
 .subst i;cases(show u=wj.ref b from q);let{z,C,J,bK,j}:=mj I.au e;let{d,m,c}:=e9.some_of (v:=v) (o:=(atKey J k).map (·.2)) (by rw[l];show bK.val k);let{p,L,n}:=Ru.mp m;show wpAny_getItem_heap (SJ x) (mM I.au B) j L ?_;rw[n];show h d _ (I.tok _) c
def IY {Q:ZT}(n:A.units+1<cLine)(I:`e)(g:dg H a y o)(j:RelV y u)(h:∀m,Inv X pins σ H m->Q (.bool o.isSome) m):
  gE `d A (rd .In u^.ref a) Q E s:=by
 rcases g with⟨c,k,e,d,l⟩|⟨c,k,b,e,d,p,l⟩
 .subst d;let{z,f,t,bK,i}:=jg I.au e;show wpAny_in_of (kJ j) f i.mapOf ?_;rw[<-(bK.val k).su,<-l];show h _^I.tok _
 .subst d;cases(show u=wj.ref b from j);let{z,f,x,bK,i}:=mj I.au e;show wpAny_in_heap (SJ n) (mM I.au p) f i ?_;let q:=(bK.val k).su;rw[Uf]at q;rw[<-q,<-l];show h _^I.tok _
def Ng {Q:ZT}(n:A.units+1<cLine)(I:`e)(g:dg H a y o)(j:RelV y u)(h:∀m,Inv X pins σ H m->Q (.bool^not o.isSome) m):
  gE `d A (rd .NotIn u^.ref a) Q E s:=by
 rcases g with⟨c,k,e,d,l⟩|⟨c,k,b,e,d,p,l⟩
 .subst d;let{z,f,t,bK,i}:=jg I.au e;show wpAny_notIn_of (kJ j) f i.mapOf ?_;rw[<-(bK.val k).su,<-l];show h _^I.tok _
 .subst d;cases(show u=wj.ref b from j);let{z,f,x,bK,i}:=mj I.au e;show wpAny_notIn_heap (SJ n) (mM I.au p) f i ?_;let q:=(bK.val k).su;rw[Uf]at q;rw[<-q,<-l];show h _^I.tok _
def rN(I:`e)(h:rV^H a)(i:rl.SameBut a s.heap c)(j:∃q,c.get? a=!q)(f:bZ X.prog X.w (upd H a d) c a d):
  Inv X pins σ (upd H a d) {s with heap:=c,toks:=g}:=
 I.write (x:=a) (e:=a) h (.inl A2) (λb q k z=>(i.2 b k).trans z) j f
def qW{d:rl}{b:List (aH×V)}(z:b.length<=se)(f:(a==uU)=fF)(bK:KV b c)(g:d.DictOf (dm P w) a c):
  bZ P w e d a^.dK b:={z,f,c,bK,g}
def Mn{Q:Unit->ot->Prop}(T:A.units+1<cLine)(I:`e)(g:gK H a y v C)(G:RelV y u)(J:RelV v r)(h:∀L,Inv X pins σ C L->Q () L):
  gE `d A (setItem `n u r) Q E s:=by
 rcases g with⟨d,k,e,j,l,m⟩|⟨d,k,b,e,j,M,l,m⟩
 .subst j m;let{z,n,U,bK,p}:=wP I.au e;let t:U.length<=se:=by rw[<-bK.length];show z
  let x:(cr d k v).length<=se:=by have:=oI d k v;omega
  show wpAny_setItem_pairs (hsz:=t) (kJ G) p λN f B=>h _ ?_;let Y:∃q,N.get? a=!q:=let⟨q,_,_,i,_⟩:=f;{q,i};show rN I (by rw[e];show True.intro) B Y^qW x n (bK.put k J) f
 .subst j m;cases(show u=wj.ref b from G);let{z,n,xs,bK,p}:=Ds I.au e;let t:xs.length<=se:=by rw[<-Tf bK];show z
  let x:(cr d k v).length<=se:=by have:=oI d k v;omega
  show wpAny_setItem_heap (hsz:=t) (SJ T) (mM I.au M) p λN f B=>h _ ?_;let{q,es,ep,i,h2,h3,h4,_,h5}:=f;show rN I (by rw[e];show True.intro) B {q,i} {x,n,_,(bK.put k M J).keeps λc ys O=>?_,q,es,ep,i,h2,h3,h4,h5};rw[aE^Fx O e λz=>nomatch z];show O
end
section
variable {X:Cx}{pins:List (vb×Obj)}{σ:St}{H:Hp}{s:ot}{a:vb}{kvs:List (aH×V)}{k:aH}{u:wj}{A:om}{E:wj->ot->Prop}
def OU {Q:ZT}(I:`e)(e:Rd H a^.dK kvs)(h:∀t b,Inv X pins σ H b->Q (.int kvs.length t) b):gE `d A (call (.builtin "len") [.ref a]) Q E s:=by
 let{z,c,f,bK,d}:=jg I.au e;show call_len_dict c d (by rw[<-bK.length];rw[Ts]at z;omega) ?_;rw[<-bK.length];show h _ _^I.tok _
end
def C8 (i:sH):Prop:=∀ov iv,subscripted i fF ov iv=operate [ov,iv]^getItem ov iv
def KS{id:String}
  (q:typeLookup (.type T) "__getitem__"=pure^!.builtin id) (t:C8 b)
  (h:gE (y3 a w) A (y1 c j) (λo f=>gE (y3 a w) A (y1 b j) (λi d=>d.TypeIs o T/\gE (y3 a w) A (getItem o i) Q E d) E f) E s):
  gE (y3 a w) A (y1 (.Subscript c b n) j) Q E s:=by
 show Subscript_^RV h (λo f l=>RV l (λi d e=>?_) λ_ _ x=>x) λ_ _ x=>x
 let{p,e}:=e;unfold subscriptTail;show QL ?_;rw[getitemInPython_of_ne p.not_modules];show QL^wpAny_specialOf p q ?_;let k:gE (y3 a w) A (subscripted b fF o i) (λr g=>gE (y3 a w) A (letTemporaryGo c o r>>=λ_=>pure r) Q E g) E d:=by
  rw[t o i];show wpAny_operating^RV e (λr g m=>QL^wpAny_letTemporaryGo^QX m) λ_ _ x=>x
 first
  |show QX^QL k
  |show QL^QX^QL k
  |show QL k
def NW(I:Inv X c h H s)(g:dg H a y o):s.TypeIs `n "dict":=by
 rcases g with⟨d,k,e,_,_⟩|⟨d,k,b,e,_,_,_⟩
 .let{_,_,i,_,f}:=jg I.au e;show f.typeIs
 .let{_,_,j,_,f}:=mj I.au e;show f.typeIs
def yA (td ty:TE):TE:=λσ H Q=>td σ H λx H1=>ty σ H1 λy H2=>∃a v,x=.ref a/\dg H2 a y^!v/\Q v H2
def pr (ty td:TE):TE:=λσ H Q=>ty σ H λy H1=>td σ H1 λx H2=>∃a o,x=.ref a/\dg H2 a y o/\Q (.bl o.isSome) H2
def sJ (ty td:TE):TE:=λσ H Q=>ty σ H λy H1=>td σ H1 λx H2=>∃a o,x=.ref a/\dg H2 a y o/\Q (.bl^not o.isSome) H2
def p9 (td ty tv:TE):TS:=λD σ H=>tv σ H λv H1=>td σ H1 λx H2=>ty σ H2 λy H3=>∃a H4,x=.ref a/\gK H3 a y v H4/\D.nx σ H4
section
variable {X:Cx}{o i e value:sH}{pos pos' tpos:Pos}{td ty tv:TE}
def y4 (j:X.A.units+1<cLine)(k:PE X o td)(l:PE X i ty)(m:C8 i):PE X (.Subscript o i pos)^yA td ty:=by
 intro b s d H Q I h;show KS PySem.F.slot_dict_getitem.lookup m^aQ (k b s d H _ I h) λu n ⟨x,p,q,r,t⟩=>aQ (l b n d p _ q t) λJ L w=>?_
 let{y,z,f,B,a,v,C,g,E}:=w;subst C;obtain rfl:u=wj.ref a:=r;show{NW f g,Pg j f g B λM N G c=>{v,z,G,c,E}}
def sR (d:X.A.units+1<cLine)(f:PE X i ty)(j:PE X o td):PC X .In i o^pr ty td:=by
 intro b s c H Q I h;show aQ (f b s c H _ I h) λE k ⟨y,l,m,n,p⟩=>aQ (j b k c l _ m p) λu G q=>?_;let{x,r,t,v,a,w,z,g,B}:=q;subst z;obtain rfl:u=wj.ref a:=v;show IY d t g n λJ C=>{.bl w.isSome,r,C,A2,B}
def rT (d:X.A.units+1<cLine)(f:PE X i ty)(j:PE X o td):PC X .NotIn i o^sJ ty td:=by
 intro b s c H Q I h;show aQ (f b s c H _ I h) λE k ⟨y,l,m,n,p⟩=>aQ (j b k c l _ m p) λu G q=>?_;let{x,r,t,v,a,w,z,g,B}:=q;subst z;obtain rfl:u=wj.ref a:=v;show Ng d t g n λJ C=>{.bl^not w.isSome,r,C,A2,B}
def jW (d:X.A.units+1<cLine)(f:PE X o td)(j:PE X i ty)(k:PE X value tv)(l:swapsWith value (!.Subscript o i pos') pos.line X.env=pure fF):
  PS X (.Assign [.Subscript o i pos'] value pos)^p9 td ty tv:=by
 intro b s c H D I h;show wpAny_Assign_Subscript (aQ (k b s c H _ I h) λr m ⟨v,n,p,q,t⟩=>aQ (f b m c n _ p t) λu w ⟨x,z,B,C,E⟩=>aQ (j b w c z _ B E) λQ T ⟨y,U,G,J,a,L,M,g,N⟩=>?_) l;subst M;obtain rfl:u=wj.ref a:=C;show Mn d G g J q λY O=>{c,L,O,N}
end
def Cd(h:rl)(a:uU<h.objs.size):bZ P w H (h.push {cls:=.type "dict",data:=.dict^List.toArray []}) h.objs.size^.dK []:=
 {Rk _,R8.mpr^RG^Rp a,[],.nil,rl.DictOf.new h}
def OJ(h:rl)(a:uU<h.objs.size):bZ P w H (h.push {cls:=.type "dict",data:=.dict^List.toArray []}) h.objs.size^.dT []:=
 {Rk _,R8.mpr^RG^Rp a,[],.nil,_, `r,0,Ra _ A2,{A2,A2,A2},A2,A2,Tq}
def vx:TE:=λ_ H Q=>∀p,H p=bF->Q (.ref p)^upd H p^.dK []
def yR:TE:=λ_ H Q=>∀p,H p=bF->Q (.ref p)^upd H p^.dT []
section
variable {X:Cx}{pos:Pos}
def oM:PE X (.Dict [] [] pos) vx:=λb s c H Q I h=>
 wpAny_Dict_empty {.ref s.heap.objs.size,_,I.laid (a:=s.heap.objs.size) (o:=.dK []) (t':=s.toks) (λ_ _ q=>QR _ q) (QU _)^Cd s.heap I.rB,A2,h _^I.au.fresh^QU _}
def vP:PE X (.Dict [] [] pos) yR:=λb s c H Q I h=>
 wpAny_Dict_empty {.ref s.heap.objs.size,_,I.laid (a:=s.heap.objs.size) (o:=.dT []) (t':=s.toks) (λ_ _ q=>QR _ q) (QU _)^OJ s.heap I.rB,A2,h _^I.au.fresh^QU _}
end
def wx:List (TE×TE)->St->Hp->(List (V×V)->Hp->Prop)->Prop
 |[],_,H,Q=>Q [] H
 |(tk,tv)::r,σ,H,Q=>tk σ H λx H1=>tv σ H1 λy H2=>wx r σ H2 λps H3=>Q ((x,y)::ps) H3
abbrev VV:List (V×V)->List (wj×wj)->Prop:=Paired λp q=>RelV p.1 q.1/\RelV p.2 q.2
def v9 (X:Cx)(pos:Pos)(mI:List^Option sH)(values:List sH)(trs:List (TE×TE)):Prop:=
 ∀(pins:`l) (s:ot) (σ:St) (H:Hp) (Q:List (V×V)->Hp->Prop),Inv X pins σ H s->wx trs σ H Q->
  gE `d X.A (evalPairs^pairTrees mI values X.env pos) (λvs s'=>∃ps H',Inv X pins σ H' s'/\VV ps vs/\Q ps H') X.xe s
def Ni:v9 X a [] [] []:=λb s c H Q I h=>pairTrees_nil_walk {[],H,I,.nil,h}
theorem G2 {X:Cx}{pos:Pos}{k v:sH}{ks:List^Option sH}{vs:List sH}{tk tv:TE}{trs:List (TE×TE)}(hk:PE X k tk)(hv:PE X v tv)(hr:v9 X pos ks vs trs):
  v9 X pos ((!k)::ks) (v::vs) ((tk,tv)::trs):=fun pins s σ H Q I h=>
 pairTrees_cons_walk (aQ (hk pins s σ H _ I h) fun u s1 ⟨x,H1,I1,rx,q1⟩=>aQ (hv pins s1 σ H1 _ I1 q1) fun w2 s2 ⟨y,H2,I2,ry,q2⟩=>
  aQ (hr pins s2 σ H2 _ I2 q2) fun ws s3 ⟨ps,H3,I3,bK,q3⟩=>{(x,y)::ps,H3,I3,.cons {rx,ry} bK,q3})
def cg (kvs more:List (aH×V)):List (aH×V):=more.foldl (λacc kv=>cr acc kv.1 kv.2) kvs
def KV.merge:∀{a:List (aH×V)} {b:List (aH×wj)} {kvs:List (aH×V)} {vs:List (aH×wj)},KV a b->KV kvs vs->KV (cg kvs a)^merged vs b:=by
 intro a b kvs vs r;unfold KV at r;induction r generalizing kvs vs with
 |nil=>intro q;show q
 |@cons p q f g h t c=>
  intro d;let e:KV (cr kvs p.1 p.2)^stored vs q.1 q.2:=by
   have:=d.put p.1 h.2;rw[<-h.1];show this
  show c e
theorem uo:∀(b a:List (aH×V)),(cg a b).length<=a.length+b.length
 |[],a=>by change a.length<=a.length+0;omega
 |p::r,a=>by
  let c:=uo r^cr a p.1 p.2
  let d:=oI a p.1 p.2;change(cg (cr a p.1 p.2) r).length<=_;rw[Rw];omega
theorem Dx:∀{d:List (aH×V)} {f:List (wj×wj)},VV (d.map λg=>(kV g.1,g.2)) f->∃e,Carries (dm P w) f e/\KV d e
 |[],_,r=>by rw[TU]at r;cases r;show{[],True.intro,.nil}
 |p::d,_,r=>by
  rw[RB]at r;cases r with
  |@cons a b j k h t=>
   let{e,c,q}:=Dx (P:=P) (w:=w) t;let{l,i}:=b;show{(p.1,i)::e,{kJ h.1,A2,c},.cons {A2,h.2} q}
def AF (trs:List (TE×TE)):TE:=λσ H Q=>∀p,H p=bF->wx trs σ (upd H p^.dK []) λps H2=>H2 p=!.dK []/\∃kvs:List (aH×V),ps=kvs.map (λkv=>(kV kv.1,kv.2))/\kvs.length<=15/\Q (.ref p)^upd H2 p^.dK^cg [] kvs
def Hy(h:v9 X d mI b f)(g:mI.all (·.isSome)=bU)(n:mI.length=b.length)(p:mI≠[])
  (l:mI.length<=15):PE X (.Dict mI b d)^AF f:=by
 intro i s r H Q I q;let t:=I.au.fresh^QU s.heap.objs.size
 let u:=I.laid (a:=s.heap.objs.size) (o:=.dK []) (h':=s.heap.push {cls:=.type "dict",data:=.dict^List.toArray []}) (t':=s.toks) (λ_ _ q=>QR _ q) (QU _)^Cd s.heap I.rB
 show wpAny_Dict_walk (knd:=dm X.prog X.w) g n p l^aQ (h i _ r _ _ u^q _ t) λY s2 v=>?_
 let{ps,H2,m,bK,e,j,x,lk,y}:=v;subst x;let{A,c,B}:=Dx (P:=X.prog) (w:=X.w) bK;let{z,C,E,G,J}:=wP m.au e;cases G;show{A,c,J,λL k M=>{.ref s.heap.objs.size,_,?_,A2,y}};let N:(cg [] j).length<=se:=by
  let O:=uo j [];rw[SI]at O;rw[Ts];omega
 let T:∃q,L.get? s.heap.objs.size=!q:=let⟨q,_,_,U,_⟩:=k;{q,U};show rN m (by rw[e];show True.intro) M T^qW N C (B.merge .nil) k
structure M2 (X:Cx)(o:sH)(m:Str)(apos:Pos)(e f:sH)(cpos:Pos):Prop where
 base:y0 o m X.env^y1 o X.env=y1 o X.env
 dz:((gA cpos^zA [e,f] X.env).all (fun x=> not x.1)&&(backToKw cpos^y2 [] X.env).all (fun x=>x.1.isSome)
  &&fT (([e,f]:List sH).length+([]:List Keyword).length+(if([]:List Keyword).isEmpty then 0 else 1)<30))=bU
 line:(apos.endLine==cpos.line)=bU
 trees:gA cpos^zA [e,f] X.env=[(fF,y1 e X.env),(fF,y1 f X.env)]
def ua (H:Hp)(a:vb):Prop:=(∃kvs,Rd H a^.dK kvs)\/∃kvs,Rd H a^.dT kvs
def zv(I:Inv X f l H s)(d:ua H a):
  s.TypeIs `n "dict"/\(∀b,wj.ref a=.ref b->∃c,s.heap.get? b=!c/\c.dict=bF)/\(a==uU)=fF:=by
 rcases d with⟨h,e⟩|⟨h,e⟩
 .let{_,i,m,_,g}:=jg I.au e;show{g.typeIs,λb q=>?_,i};cases q;let{c,_,_,j,k,_}:=g;show{c,j,k.2.1}
 .let{_,i,n,_,g}:=mj I.au e;show{g.typeIs,λb q=>?_,i};cases q;let{c,_,_,j,k,_}:=g;show{c,j,k.2.1}
section
variable {X:Cx}{pins:List (vb×Obj)}{σ:St}{H:Hp}{s:ot}{a:vb}{y d:V}{u r:wj}{o:Option V}{A:om}{E:wj->ot->Prop}
def Nj {Q:ZT}(t:A.units+1<cLine)(I:`e)(g:dg H a y o)(m:RelV y u)(n:RelV d r)(h:∀p q,Inv X pins σ H q->RelV (o.getD d) p->Q p q):
  gE `d A (call (.builtin "dict.get") [.ref a,u,r]) Q E s:=by
 rcases g with⟨f,k,e,i,l⟩|⟨f,k,b,e,i,v,l⟩
 .subst i;let{z,j,B,bK,c}:=jg I.au e;show TX UW c.typeIs VX (VO _ _ _) (meets_dict_get_default (dm X.prog X.w) a (kJ m) j r) {_,c.mapOf,h _ _ (I.tok _) ?_};rw[l];show(bK.val k).getD n
 .subst i;cases(show u=wj.ref b from m);let{z,j,x,bK,c}:=mj I.au e;show TX UW c.typeIs VX (VO _ _ _) (meetsH_dict_get_default (tupleKind^dm X.prog X.w) a b j r) {SJ t,k,x,mM I.au v,c,h _ _ (I.tok _) ?_};rw[l];show(bK.val k).getD n
end
def rH (td ty tx:TE):TE:=λσ H Q=>td σ H λx H1=>∃a,x=.ref a/\ua H1 a/\ty σ H1 λy H2=>tx σ H2 λz H3=>∃o,dg H3 a y o/\Q (o.getD z) H3
section
variable {X:Cx}{o e f:sH}{apos cpos:Pos}{td ty tx:TE}
def t6 (k:X.A.units+1<cLine)(l:PE X o td)(n:PE X e ty)(p:PE X f tx)(m:M2 X o "get" apos e f cpos):PE X (.Call (.Attribute o "get" apos) [e,f] [] cpos)^rH td ty tx:=by
 intro b s c H Q I h;show wpAny_Call_method m.base m.dz m.line UN UW PySem.F.type_dict_get^aQ (l b s c H _ I h) λu q r=>?_
 let{x,t,j,v,a,w,d,B}:=r;subst w;obtain rfl:u=wj.ref a:=v;let{C,E,_}:=zv j d;show{C,E,?_};rw[m.trees];show Tb A2^Uj^TQ (aQ (n b q c t _ j B) λiv G ⟨y,J,L,M,N⟩=>
  TQ^aQ (p b G c J _ L N) λfv s3 ⟨z,O,T,U,ov,g,Y⟩=>VA ?_)
 show Nj k T g M U λw' s4 I4 i=>{_,O,I4,i,Y}
end
section
variable {X:Cx}{pins:List (vb×Obj)}{σ:St}{H:Hp}{s:ot}{a:vb}{kvs:List (aH×V)}{A:om}{E:wj->ot->Prop}
end
section
variable {X:Cx}{pins:List (vb×Obj)}{σ:St}{H:Hp}{s:ot}{a:vb}{y:V}{u:wj}{A:om}{E:wj->ot->Prop}
end
end L2
namespace A4
open PySem PySem.W PySem.Calls PyProof.Rows
def O4:∀(c:List Int) (d:List wj),WellAll P h d^c.map WData.int->IntsAre d c:=by
 intro c;induction c with
 |nil=>
  intro d w;rw[TU]at w;cases w;show .nil
 |cons n c e=>
  intro d w;rw[RB]at w;cases w with
  |cons a b=>
   cases a;show .cons _ _^e _ b
def Pf{l:OpenLaw}(s:l.most=!n)
  (e:l.row.toRowW.claim.pre args=bU) (k:WellAll P h c args):
  ∃a o b,c=[wj.ref a]/\args=[WData.list^b.map WData.int]/\h.get? a=!{cls:=.type "list",data:=.seq o.toArray}/\IntsAre o b/\b.length<=n:=by
 let m:WShape.hasAll [] args [.list .int]=bU:=(pre_splitW e).1;let p:l.pre.holds [] {args:=args}=bU:=(pre_splitW e).2;let{d,r,rfl,t,u}:=hasAllW_cons m;obtain rfl:=hasAllW_nil u;let{A,rfl,v}:=hasW_list t;let{b,rfl}:=items_int v;let f:b.length<=n:=by
  unfold OpenLaw.pre at p;let i:(WTm.not^.lt (.lit^.int (n:Int))^.len^.arg 0).holds [] {args:=[.list^b.map .int]}=bU:=by
   let i:=(holds_andW p).1;rw[s]at i;show i
  let j:=condW_of i^w_not^w_lt w_lit^w_len_list^w_arg A2
  rw[QP]at j;show RA λq=>?_;let w:(n:Int)<((b.length:Nat):Int):=by omega
  first
   |(rw[Q9 w]at j;show absurd j Z1)
   |(simp at j;omega)
 cases k with
 |cons x y=>
  cases y;cases x with
  |list z g=>show{_,_,b,A2,A2,z,O4 b _ g,f}
def Nu (l:OpenLaw)(args:List WData):l.row.toRowW.claim.post args (.bool bU) args=bU:=
 postW_of (r:=l.row.toRowW) (X:=(bU==bU))
  (show WShape.has [] (.bool bU) .bool=bU by first|rfl|decide|simp[WShape.has,WShape.arms,WShape.armsAll])
  (show(WTm.eq .res^.lit^.bool bU).value [] {args:=args,res:=!.bool bU,after:=args}=!(.bool<|bU==bU)from w_eq_bool (w_res A2) w_lit) A2
def OC{l:OpenLaw}{H:pa->rl->Prop}{d:DefRec}
  (N:l.most=!n) (x:d.params.defaults=[])
  (call:∀(w:pa) (e b:ot) (s y:ZU) (j:vb) (o:Obj) (z t g:wj) (a:vb) (i:List wj) (u:List Int),
   Ground q c [] E w e s y b.heap->H w b.heap->
   b.heap.get? j=!o->o.data=.func^docDef d.name d.params d.body d.scope z t g->b.heap.CodeRec t d.name->s d.name=!.ref j->
   b.heap.get? a=!{cls:=.type "list",data:=.seq i.toArray}->IntsAre i u->u.length<=n->b.gens= `r->
   qi (y3 l.prog w) callerA (.call (.ref j) {[.ref a],[]}) (λr v=>r=.ok^.ret^.bool bU/\OldK b.heap v.heap/\v.os=b.os/\p0 v.gens) b):
  WalkO q c E H l.row.toRowW d []^λf i=>PySem.call f i:=by
 intro w e b s y G Y j o z t g O kV Q T A I B U J L as k M ab C ac;obtain rfl:O=.none:=Dflts.none I x;obtain rfl:kV=.none:=Dflts.noKw I;let{a,i,u,rfl,rfl,m,h,p}:=Pf N k C;show enter_call^Ut (call w e b s y j o z t g a i u G Y Q (fd_plain T) A B m h p U) λr v hq=>?_
 let{rfl,h2,h3,h4}:=hq;show{.inl {.bool bU,.bool bU,[],A2,λ_=>A2,.bool bU,Nu l _,λ_=>{List.Pairwise.nil,λ_ hm=>(nomatch hm)}},h2,h3,h4}
section
variable {prog:qj}{w:pa}{A:om}{E:wj->ot->Prop}{s:ot}{K:Frag}
end
end A4
namespace L2
open PySem PySem.Spec PyProof.Rows
theorem x3:∀{a:List wj} {b:List Int},IntsAre a b->bn (b.map V.int) a
 |_,_,.nil=>.nil
 |_,_,.cons n t h=>.cons {t,A2}^x3 h
def zk (H:Hp):Prop:=∀b,H b=bF\/∃o xs,H b=!.dj o^.lst xs
def Np{K:kc}{c:ot}{p:List wj}
  (KX:K.In c.heap) (B:c.heap.Ns jk y) (g:c.heap.Ns builtinsNs Q) (U:∀x:Str,x≠"__name__"->Q x=bootBuiltins x) (C:c.heap.NoLimit) (hg:c.gens= `r)
  (O:c.heap.get? a=!{cls:=.type "list",data:=.seq p.toArray}) (hi:IntsAre p A) (hl:A.length<=se) (hr:cW k callerA)
  (F:∀base:rl,K.In base->base.Ns jk y->bw P w K y base CX k T fd [x] sp) (t:∀(s:ot) (u:wj),BindsTo s fd {[u],[]} [(x,u)])
  (Y:∀H:Hp,zk H->aU K H a^A.map V.int->sp [.ref a] H (λv _=>v=.bl bU) λ_ _ _=>False)
  (ab:∀H e i,CX [] H c (λ_ _ _=>False) e i->False):
  qi (y3 P w) callerA (.call (.ref T) {[.ref a],[]}) (λr i=>r=.ok^.ret^.bool bU/\OldK c.heap i.heap/\i.os=c.os/\p0 i.gens) c:=by
 let rv:=x3 hi;let E:=hi.length;let l:∀H:Hp,zk H->aU K H a^A.map V.int->du P w H c.heap->(∀b,H b≠bF->b=a)->(H a≠bF->K.lookup a=bF)->
   qi (y3 P w) callerA (.call (.ref T) {[.ref a],[]}) (λr i=>r=.ok^.ret^.bool bU/\OldK c.heap i.heap/\i.os=c.os/\p0 i.gens) c:=by
  intro H hO hS au hA hK;let f:∀{b:vb} {o:Obj},c.heap.get? b=!o->H b=bF->(lP c.heap H).get? b=!o:=λe n=>Hs e n;let ac:∀{b:vb} {o:Obj} {G:Array DictEntry} {I:Nat},c.heap.get? b=!o->o.data=.dict G I->H b=bF:=λ{b o G I} e d=>by
   cases q:H b with
   |none=>rfl
   |some u=>
    let e':b=a:=hA b (by rw[q];simp);subst e';rw[O]at e;cases e;let d':Data.seq p.toArray _=Data.dict G I:=d;cases d'
  let j:∀{b:vb} {m:ZU},c.heap.Ns b m->(lP c.heap H).Ns b m:=λ{b m} q0=>by let{o,G,I,e,d,r}:=q0;show{o,G,I,f e^ac e d,d,r}
  let J:K.In^lP c.heap H:=λb o e=>f (KX b o e) (by
   cases q:H b with
   |none=>rfl
   |some u=>
    let e':b=a:=hA b (by rw[q];simp);subst e';rw[hK^by rw[q];simp]at e;cases e)
  let hM:Mod K y^lP c.heap H:={J,j B,{Q,j g,U},let⟨mc,h1,h2⟩:=C;{mc,j h1,h2}}
  let e0:oB P w K y (lP c.heap H) callerA [] c H:={A2,hM,λb o e=>JX e,VW^IB _ _,trivial,λb g=>absurd (show b∈([]:ZX)from g) Z8,au,.of_eq hg}
  show Ut ((F _ J^j B).run callerA [] c H {[.ref a],[]} [.ref a] [.ref a] _ _ hr e0 (t c^.ref a) (.cons A2 .nil)^Y H hO hS) λr i h=>?_;cases r with
  |error e=>show(ab H e i h).elim
  |ok fl=>
   cases fl with
   |next=>show False.elim h
   |brk=>show False.elim h
   |cont=>show False.elim h
   |ret u=>
    let{v,H',os,L,un,M,r',q}:=h;let q':v=.bl bU:=q;subst q';obtain rfl:u=wj.bool bU:=r';show{A2,OldK.of_keep λb o e=>?_,os,L};cases q:H b with
    |none=>show un.keep b o e q (by intro z;show absurd (show b∈([]:ZX)from z) Z8) Z8
    |some u=>
     rcases hO b with z|⟨ob,xs,z⟩
     .rw[q]at z;cases z
     .let z2:=un.jf b ob _ z;let{e1,_}:=au b _ z;let{e2,_}:=M b _ z2;rw[e]at e1;cases e1;show e2
 cases hk:K.lookup a with
 |some o=>
  let e:=KX a o hk;rw[O]at e;cases e;show l (λ_=>bF) (λ_=>.inl A2) (.inr {_,p.toArray,_,hk,A2,A2,A2,by rw[Rb,E];show hl,by simpa using rv}) (λb u z=>by let N:(bF:Option HO)=!u:=z;cases N) (λb z=>absurd A2 z) λz=>absurd A2 z
 |none=>
  show l (λb=>if b=a then !.dj {cls:=.type "list",data:=.seq p.toArray}^.lst^A.map V.int else bF) (λb=>?_) (.inl^.inr {{cls:=.type "list",data:=.seq p.toArray},Q0 A2}) (λb u z=>?_) (λb z=>?_) λ_=>hk
  .by_cases g:b=a
   .show .inr {_,_,Q0 g}
   .show .inl^QV g
  .by_cases g:b=a
   .let N:=(Q0 g).symm.trans z;cases N;subst g;show{O,by rw[QP];show hl,p,_,rv,O}
   .let N:=(QV g).symm.trans z;cases N
  .by_cases g:b=a
   .show g
   .show absurd (QV g) z
end L2
namespace L2
open PySem PySem.Spec PyProof.Rows
def Lw{l:W.OpenLaw}{L:pa->rl->Prop}{d:DefRec}{K:Params->kc}{CX:pa->gX}{sp:pa->Sp}
  (U:l.most=!n) (z:n<=se) (A:d.params.defaults=[]) (hr:cW k callerA)
  (hY:∀(w:pa) (h:rl),L w h->(K w.params).In h)
  (F:∀(w:pa) (m:ZU) (t:vb) (h:rl),(K w.params).In h->h.Ns jk m->m d.name=!.ref t->
   ∃B:mu,(∀(s:ot) (u:wj),BindsTo s B {[u],[]} [(x,u)])/\
    ∀base:rl,(K w.params).In base->base.Ns jk m->bw l.prog w (K w.params) m base (CX w) k t B [x]^sp w)
  (C:∀(w:pa) (H:Hp) (a:vb) (y:List Int),y.length<=n->zk H->aU (K w.params) H a^y.map V.int->sp w [.ref a] H (λv _=>v=.bl bU) λ_ _ _=>False)
  (E:∀(w:pa) (H:Hp) (s:ot) (e:wj) (I:ot),CX w [] H s (λ_ _ _=>False) e I->False):
  W.WalkO q i Q L l.row.toRowW d []^λf M=>PySem.call f M:=by
 show A4.OC U A λw N p m mb t o pm cd ab a M y G Y ho hd ac J r j c hg=>?_;let O:=hY w _ Y;let{B,hb,hF}:=F w m t _ O G.T.g J;show Np O G.T.g G.T.b G.T.builtins G.T.nolimit hg r j (Rh c z) hr hF hb (λH hO hS=>C w H a y c hO hS) λH e I=>E w H p e I
end L2
namespace L2
open PySem PySem.Spec PyProof.Rows
def o0 (s:uL):Arguments:=match s with
 |.FunctionDef _ a _ _ _ _ _ _ _ _=>a
 |_=>{posonlyargs:=[],args:=[],vararg:=bF,kwonlyargs:=[],kw_defaults:=[],kwarg:=bF,defaults:=[]}
def jX (s:uL):List uL:=match s with
 |.FunctionDef _ _ b _ _ _ _ _ _ _=>b
 |_=>[]
def bH (s:uL):Scope:=match s with
 |.FunctionDef _ _ _ _ _ _ sc _ _ _=>sc
 |_=>{kind:=.function,names:=[],isGenerator:=fF,isCoroutine:=fF}
abbrev bO:gX:=λ_ _ _ _ _ _=>False
abbrev E0:XK:=λ_ _ _=>False
def tP:nX bO X E0:=λ_ _ _ _ _ _ _ h=>h.elim
structure bB (K:kc)(x qual:Str)(st:uL)(f:vb)(fd:mu):Prop where
 ex:∃(oc:wj) (od:Option vb) (kV doc pm:wj) (an:Option vb) (cdv ct:wj) (osl:Array^Option wj),
  fd=PySem.W.fnOf x qual (o0 st) (jX st) (bH st) .none kV doc pm an cdv ct/\K.lookup f=!⟨oc,od,.func fd,osl⟩/\PySem.W.codeIn K cdv qual=bU
 kp:PySem.W.keepIn K^.ref f=bU
section
variable {P:qj}{w:pa}{K:kc}{mg:Str->Option wj}{base:rl}
def bB.ok{st:uL}{g:Sp}(F:bB K x b st f m)(S:cb N e^bH st)(i:∀vs H Q E,g vs H Q E->vs.length=e.length)
  (d:∀(c:wj) (A:om) (a:List Env) (s:ot) (H:Hp) (vs:List V) (Q:VK) (E:XK),cW k^A.deeper^envOfC b (bH st) s.heap.objs.size f c->g vs H Q E->
   ∃t,gi (gL bO P w K mg base N b (bH st) f c A a s H E).kq (jX st) t/\t {nx:=λ_ n=>Q .aw n,rt:=Q} (start N vs) H):bw P w K mg base bO (k+1) f m e g:=by
 let{v,y,kV,o,z,B,c,C,p,rfl,r,j}:=F.ex;show FS r j S i λA a s H vs Q E u l=>?_;let{t,h,q}:=d c A a s H vs Q E u l;show{t,h.kq,q}
def bB.binds{st:uL}{d:ZY}(F:bB K x a st f k)
  (h:∀(kV b e:wj) (g:Option vb) (c i:wj) (j:List wj),j.length=d.length->bindArgs (A1 x a (o0 st) (jX st) (bH st) .none kV b e g c i) {j,[]}=pure^d.zip j):Binds K k d []:=by
 let{n,o,kV,b,e,g,c,i,l,rfl,p,m}:=F.ex;show .all^h kV b e g c i
def zW{st:uL}{kV:wj}(l:K.lookup f=!{j,m,.func^A1 x a (o0 st) (jX st) (bH st) .none kV d h g b i,e})
  (c:l0 K b a=bU) (k:zC K^.ref f=bU):bB K x a st f^A1 x a (o0 st) (jX st) (bH st) .none kV d h g b i:={{j,m,kV,d,h,g,b,i,e,A2,l,c},k}
end
def fH(a:cW k A):A.units+1<cLine:=TY (Nat.add_le_add_left (by decide:1<=64) _) a.units
def cH(h:n<=1000):n<se:=TY h Z1
section
variable {X:Cx}
def pv(i:Nat)(c:X.N[i]?=!x:=by rfl)(d:rX X.env.scope x:=by first|show Or.inl rfl|show Or.inr^Or.inl rfl|show Or.inr^Or.inr rfl)(e:`k=fF:=by decide)
  (b:(x==("__classdict__":Str))=fF:=by decide):PE X (.Name x a)^aW i:=B9 c d e b
end
def ae (H H':Hp):Prop:=∀b o,H b=!o->H' b=!o
def ae.refl (H:Hp):ae H H:=λ_ _ h=>h
def ae.trans(a:ae H d)(b:ae d e):ae H e:=λc o h=>b c o^a c o h
section
variable {κ:Type} [DecidableEq κ]
end
end L2
namespace PySem
section
variable {env:Env}
def LN (names:List (Str×NameKind)):∀(cs:List (Str×vb)),(∀n,(n,NameKind.free)∈names->∃c,env.cells.lookup n=!c)->
  ∃cl,(forIn names cs (λ(x:Str×NameKind) (r:List (Str×vb))=>if(x.2==NameKind.free)=bU then(do let c<-cellOf env x.1;pure^ForInStep.yield ((x.1,c)::r))else pure^ForInStep.yield r):Sem^List (Str×vb))=pure cl/\
   (∀n c,cl.lookup n=!c->env.cells.lookup n=!c\/cs.lookup n=!c)/\(∀n,((n,NameKind.free)∈names\/∃c,cs.lookup n=!c)->∃c,cl.lookup n=!c):=by
 induction names with
 |nil=>intro cs _;show{cs,A2,λn c h=>.inr h,λn h=>h.elim (λz=>nomatch z) id}
 |cons x r ih=>
  intro cs h;let{n,k}:=x;let hr:∀n,(n,NameKind.free)∈r->∃c,env.cells.lookup n=!c:=λm hm=>h m^QM _ hm;by_cases hk:k=.free
  .subst hk;let{c,hc}:=h n QQ;let{cl,e,h1,h2}:=ih ((n,c)::cs) hr;show{cl,?_,λm d hd=>?_,λm hm=>?_}
   .rw[Va]
    simp only[U3,UE];let q:cellOf env n=pure c:=by unfold cellOf;rw[hc]
    rw[q];show e
   .rcases h1 m d hd with z|z
    .show .inl z
    .rw[Si]at z
     by_cases hmn:m=n
     .subst hmn;simp only[U3]at z;show .inl^hc.trans z
     .have:(m==n)=fF:=by simpa using hmn
      rw[this]at z;show .inr z
   .show h2 m ?_
    rcases hm with z|⟨d,z⟩
    .rcases QZ.mp z with z|z
     .let{rfl,_}:=Wu z;show .inr {c,by simp[Si]}
     .show .inl z
    .right
     rw[Si];cases(m==n)
     .show{d,z}
     .show{c,A2}
  .let hb:(k==NameKind.free)=fF:=by simpa using hk
   let{cl,e,h1,h2}:=ih cs hr;show{cl,?_,h1,λm hm=>h2 m ?_}
   .rw[Va]
    simp only[hb,TR,Ux];show e
   .rcases hm with z|z
    .rcases QZ.mp z with z|z
     .show absurd (Wu z).2.symm hk
     .show .inl z
    .show .inr z
def BK {scope:Scope}(h:∀n,(n,NameKind.free)∈scope.names->∃c,env.cells.lookup n=!c):
  ∃a,closureFor scope env=pure a/\(∀n c,a.lookup n=!c->env.cells.lookup n=!c)/\(∀n,(n,NameKind.free)∈scope.names->∃c,a.lookup n=!c):=by
 let{a,e,b,d}:=LN scope.names [] h;show{a,?_,λn c f=>(b n c f).elim id λz=>(by simp at z),λn g=>d n^.inl g};simp only[closureFor];let q:=RF (λt=>t>>=λr=>(pure r:Sem (List<|Str×vb))) e;show q
end
section
variable {prog:qj}{w:pa}{A:om}{R:Result->ot->Prop}{s:ot}
def Ko {elt target iter:sH}{ifs:List sH}{scope:Scope}{pos:Pos}{it acc:wj}{env:Env}(I:Nat->ot->Prop)
  (turn:∀n s,I n s->gE `i A (pyNext it) (λr s₁=>match r with
   |none=>R (.ok .next) s₁
   |some v=>gE `i A (letOwnedTupleGo target it v) (λ_ s₁'=>gE `i A (assign target env v) (λ_ s₂=>
     gE `i A (forIn ifs bU λc r=>if r=bU then do let ok<-isTrue c env^y1 c env;pure^ForInStep.yield ok else pure^ForInStep.yield r) (λok s₃=>
      if ok=bU then gE `i A (y1 elt env) (λx s₄=>
       gE `i A (call (.builtin "list.append") [acc,x]) (λ_ s₅=>∃m,m<n/\I m s₅) (λ_ _=>False) s₄) (λ_ _=>False) s₃
      else∃m,m<n/\I m s₃) (λ_ _=>False) s₂) (λ_ _=>False) s₁') (λ_ _=>False) s₁) (λ_ _=>False) s)
  (n:Nat) (h:I n s):
  qi `i A (.compLoop (.ListComp elt [{target,iter,ifs,0}] scope pos) 0 it acc env) R s:=by
 show codeAny_loop A2 I (λn s hI=>?_) n h;change gE _ A ((compTurn (.ListComp elt [{target,iter,ifs,0}] scope pos) 0 it acc env).onRaise^λx=>do noteFrame x env;theTreesLotGoes x) _ _ s;show wpAny_noted ?_;rw[compTurn_list];show QL^VC^QL^RV (turn n s hI) (λr s₁ h₁=>?_) λ_ _ h'=>h'.elim;cases r with
 |none=>show QX h₁
 |some v=>
  show QL^RV h₁ (λ_ s₁' h₁'=>?_) λ_ _ h'=>h'.elim;show QL^RV h₁' (λ_ s₂ h₂=>QL^RV h₂ (λok s₃ h₃=>?_) λ_ _ h'=>h'.elim) λ_ _ h'=>h'.elim;cases ok with
  |false=>show QX {A2,h₃}
  |true=>
   show QL^QL^RV h₃ (λx s₄ h₄=>QL^RV h₄ (λ_ s₅ h₅=>QX^QX {A2,h₅}) λ_ _ h'=>h'.elim) λ_ _ h'=>h'.elim
end
end PySem
namespace L2
open PySem PySem.Spec PyProof.Rows
theorem mem_of_lookup:∀{l:List (Str×NameKind)} {x:Str} {k:NameKind},l.lookup x=!k->(x,k)∈l
 |[],_,_,h=>by simp at h
 |(n,j)::r,x,k,h=>by
  rw[Si]at h;by_cases e:x=n
  .subst e;simp only[U3]at h;cases h;show QQ
  .have:(x==n)=fF:=by simpa using e
   rw[this]at h;show QM _^mem_of_lookup h
theorem F8 {a:Env}:∀{b:List (Str×NameKind)} {x:Str},b.lookup x=!.free->
  (b.map λ(n,k)=>if(k==NameKind.free&&a.scope.kind==.function&&a.kindOf n==!.cell)then(n,NameKind.cell)else(n,k)).lookup x=!.cell\/
  (b.map λ(n,k)=>if(k==NameKind.free&&a.scope.kind==.function&&a.kindOf n==!.cell)then(n,NameKind.cell)else(n,k)).lookup x=!.free
 |[],_,h=>by simp at h
 |(n,k)::r,x,h=>by
  let e:=@F8 a r x;change List.lookup x ((if(k==NameKind.free&&a.scope.kind==.function&&a.kindOf n==!.cell)=bU then(n,NameKind.cell)else(n,k))::_)=_\/List.lookup x ((if(k==NameKind.free&&a.scope.kind==.function&&a.kindOf n==!.cell)=bU then(n,NameKind.cell)else(n,k))::_)=_;cases c:x==n with
  |true=>
   simp only[Si,c]at h;cases h;by_cases d:(NameKind.free==NameKind.free&&a.scope.kind==.function&&a.kindOf n==!.cell)=bU
   .rw[Q0 d];simp only[Si,c];show .inl trivial
   .rw[QV d];simp only[Si,c];show .inr trivial
  |false=>
   simp only[Si,c]at h;by_cases d:(k==NameKind.free&&a.scope.kind==.function&&a.kindOf n==!.cell)=bU
   .rw[Q0 d];simp only[Si,c];show e h
   .rw[QV d];simp only[Si,c];show e h
def BC{a:Scope}(c:∀y∈a.names,y.2≠.cell)(i:k=.cell\/k=.free)(h:(relabel a b).names.lookup x=!k):(x,NameKind.free)∈a.names:=by
 let{{n,j},f,e}:=Q6.mp^mem_of_lookup h;by_cases d:(j==NameKind.free&&b.scope.kind==.function&&b.kindOf n==!.cell)=bU
 .let g:(n,NameKind.cell)=(x,k):=by simpa only[d,UE]using e
  let l:j=.free:=by
   simp only[RJ]at d;show Tw.mp d.1.1
  subst l;cases g;show f
 .let g:(n,j)=(x,k):=by
   have:=e;simp only[d]at this;show this
  cases g;rcases i with rfl|rfl
  .show absurd A2^c _ f
  .show f
section
variable {X:Cx}
def bW (X:Cx)(N':List Str)(scope:Scope)(cl:List (Str×vb))(C:vb)(fp:List vb)(s:ot)(H:Hp):Cx:=
 {X with N:=N',s₀:=s,H₀:=H,env:=compEnvC scope cl C X.env,outer:=X.stack,stack:=X.stack,ex:=fp,fn:=λ_=>fF,pn:=[],xe:=λ_ _=>False}
def oV (X:Cx)(ifs:List sH)(t:TT):Prop:=
 ∀(pins:`l) (s:ot) (σ:St) (H:Hp) (Q:Bool->Hp->Prop),Inv X pins σ H s->t σ H Q->
  gE `d X.A (forIn ifs bU λc r=>if r=bU then do let ok<-isTrue c X.env^y1 c X.env;pure^ForInStep.yield ok else pure^ForInStep.yield r) (TP X pins σ Q) X.xe s
def nu:TT:=λ_ H Q=>Q bU H
def j8:oV X [] nu:=λ_ _ _ H _ I h=>wpAny_tests_nil {H,I,h}
def jo(h:PT X c t):oV X [c] t:=λa s b H Q I d=>wpAny_tests_one^h a s b H Q I d
def Be (J:It)(D:vb)(τ₀:St)(g:TG)(tt:TT)(te:TE)(Q:VK)(H:Hp):Prop:=
 ∃W:Nat->Nat->St->Hp->Prop,(∃m,W 0 m τ₀^upd H D^.lst [])/\∀i m τ H,W i m τ H->
  (J.stop i H/\Q (.ref D) H)\/
  (J.go i H/\∃N:St->Hp->Prop,(∀τ' H',N τ' H'->∃m',m'<m/\W (i+1) m' τ' H')/\
   ∀x H',J.qh i H x H'->g x τ H' λτ2 H2=>tt τ2 H2 λb H3=>if b=bU then te τ2 H3 λv H4=>∃ys,H4 D=!.lst ys/\ys.length<se/\N τ2^upd H4 D^.lst (ys++[v])else N τ2 H3)
def iU (wi:TI)(caps:St->St)(g:TG)(tt:TT)(te:TE):TE:=λσ H Q=>wi σ H λJ H1=>∀D,H1 D=bF->Be J D (caps σ) g tt te Q H1
variable {tg iter elt:sH}{ifs:List sH}{scope:Scope}{pos:Pos}{N':List Str}{caps:St->St}{wi:TI}{g:TG}{tt:TT}{te:TE}
def Ei {pins:ZV}{σ:St}{H2:Hp}{s2:ot}{J:It}{fp:ZX}{it:vb}{tn:Nat->rl->Prop}{cl:List (Str×vb)}{Q:VK}{RR:wj->vb->Result->ot->Prop}
  (hc:X.calm=bU) (hkind:scope.kind=.function) (hcell:∀y∈scope.names,y.2≠.cell)
  (hcap:∀σ:St,σ.length=X.N.length->(caps σ).length=N'.length/\∀(i:Nat) (x:Str) (v:V),N'[i]?=!x->(caps σ)[i]?=!!v->scope.names.lookup x=!.free/\∃j:Nat,X.N[j]?=!x/\σ[j]?=!!v)
  (hfree:∀n,(n,NameKind.free)∈scope.names->X.env.kindOf n=!.cell\/X.env.kindOf n=!.free)
  (hcl1:∀n c,cl.lookup n=!c->X.env.cells.lookup n=!c) (hcl2:∀n,(n,NameKind.free)∈scope.names->∃c,cl.lookup n=!c)
  (hg:∀C s H,PG `m tg g) (hts:∀C s H,oV `m ifs tt) (hel:∀C s H,PE `m elt te)
  (I2:Inv X pins σ H2 s2) (T:jJ X.prog X.w X.K tg J fp it tn) (st2:tn 0 s2.heap) (f2:∀b∈fp,jQ X pins H2 b)
  (k2:∀D,H2 D=bF->Be J D (caps σ) g tt te Q H2)
  (hRR:∀D C s' H' m,Inv X pins σ H' s'->s'.heap.Ns C m->s2.heap.objs.size<=C->H' C=bF->Q (.ref D) H'->RR (.ref D) C (.ok .next) s'):
  gE `d X.A (newList []) (λacc s₃=>gE `d X.A (newFunctionEnv scope X.env.globals cl [] X.env.qual bF .none^!X.env) (λcenv s₄=>
   qi `d X.A (.compStart `o 0 (.ref it) acc {cenv with scope:=relabel scope X.env}) (RR acc cenv.locals) s₄) X.xe s₃) X.xe s2:=by
 show RS^wpAny_newFunctionEnv hcell (by intro y hy;simp at hy) (λh₁ hns₁ hsb₁=>?_) hkind;dsimp only at hns₁ hsb₁⊢;generalize hH2:s2.heap.push {cls:=.type "list",dict:=bF,data:=.seq ([]:List wj).toArray}=HH at hns₁ hsb₁⊢;let hC:HH.objs.size=s2.heap.objs.size+1:=by rw[<-hH2,Sn]
 let hDC:s2.heap.objs.size≠HH.objs.size:=by rw[hC];show Rp^SF _
 let hCle:s2.heap.objs.size<=HH.objs.size:=by rw[hC];show Wt _
 let below:∀b,b<s2.heap.objs.size->b≠HH.objs.size/\b≠s2.heap.objs.size:=λb hb=>{by rw[hC];show Rp^S8 hb,Rp hb}
 let old:∀b o,s2.heap.get? b=!o->h₁.get? b=!o:=λb o e=>hsb₁.extBut b o (below b^Re e).1 (QR _ (hH2▸QR _ e));let hacc:h₁.get? s2.heap.objs.size=!{cls:=.type "list",data:=.seq ([]:List wj).toArray 0}:=hsb₁.extBut _ _ hDC^QR _ (hH2▸Ra _ A2);let hDn:H2 s2.heap.objs.size=bF:=I2.au.fresh^QU _;let hCn:H2 HH.objs.size=bF:=I2.au.fresh hCle;let fpC:jQ X pins H2 HH.objs.size:=I2.iV hCle hCn;let fplt:∀b∈fp,b<s2.heap.objs.size:=λb hb=>by
  let{o,e,_}:=T.obj 0 _ st2 b hb;show Re e
 let nstk:∀b∈fp,b∉dr X.stack:=λb hb z=>by
  let{_,f1,f2',_}:=f2 b hb;rcases QZ.mp (I2.zR b z)with e|e
  .show f1 e
  .show f2' e
 let{W,{m0,w0},turn}:=k2 s2.heap.objs.size hDn;let capok:=hcap σ I2.len;let ok:(bW X N' scope cl HH.objs.size fp s2 H2).Ok:=
  {mod:=I2.ok.mod
   kind:=hkind
   glob:=I2.ok.glob
   blt:=I2.ok.blt
   above:=hCle
   inj:=λx y c a b=>I2.ok.inj x y c (hcl1 x c a) (hcl1 y c b)
   has:=λx h=>hcl2 x (by
    rcases h with h|h
    .show BC hcell (.inl A2) h
    .show BC hcell (.inr A2) h)
   nZ:=λx c h=>(nomatch h)
   hd:=I2.ok.hd
   frames:=I2.ok.frames
   fW:=.inl A2
   tU:=λb hb=>{(below b^fplt b hb).1,λx c e=>(f2 b hb).2.2.2.2.1 x c (hcl1 x c e)}
   bs:=I2.bs
   kT:=Rh I2.ok.kT I2.sz
   nW:=λb o e hb=>by
    rcases(f2 b hb).2.2.2.1 with z|z
    .show I2.ok.nW b o e z
    .show absurd (Rx (Re (I2.ok.bs b o e).1) z) (Sm _)
   qD:=nstk
   iu:=I2.stack
   lQ:=I2.zj}
 let I4:Inv (bW X N' scope cl HH.objs.size fp s2 H2) [] (caps σ) (upd H2 s2.heap.objs.size^.lst []) {s2 with heap:=h₁,toks:=s2.toks+([]:List (Str×wj)).length}:=by
  show{ok,A2,I2.bare,Un.laid old (QU _) hDn,{_,hns₁,λi x v e1 e2 e3=>?_},λx c e=>?_,?_,λx c e=>?_,(λp hp=>(nomatch hp)),?_,capok.1}
  .let{lf,j,e4,e5}:=capok.2 i x v e1 e2;let kx:=hfree x^mem_of_lookup lf;let vis:rX X.env.scope x:=by rcases kx with k|k;show .inr^.inl k;show .inr^.inr k
   let{m,hn,hl}:=I2.loc;let{u,r,l}:=hl j x v e4 e5 vis;show{u,r,.inr {F8 lf,?_}};let{c,hcx}:=hcl2 x^mem_of_lookup lf;let hcx':=hcl1 x c hcx;show{c,hcx,?_};rcases l with⟨k,_⟩|⟨_,c',ec,⟨o,ho,hd⟩⟩
   .rcases kx with k'|k'<;>(rw[k]at k';cases k')
   .rw[hcx']at ec;cases ec
    show{o,old _ o ho,hd}
  .let{v,o,ho,hd}:=I2.cell x c^hcl1 x c e;show{v,o,old _ o ho,hd}
  .change upd H2 s2.heap.objs.size (.lst []) HH.objs.size=bF;rw[aE^RG hDC];show hCn
  .let{v,o,ho,hd}:=I2.cell x c^hcl1 x c e;rw[aE^Rp^Re ho];show I2.gN x c^hcl1 x c e
  .show I2.au.laid old (QU _) {Rk _,[],0,.nil,hacc}
 let st4:tn 0 h₁:=T.keep _ _ _ st2 λb _ o e=>old b o e;let stat:∀{H':Hp},(∀b∈fp,H' b=bF)->∀b∈fp,jQ (bW X N' scope cl HH.objs.size fp s2 H2) [] H' b:=λhn b hb=>
  {hn b hb,(below b^fplt b hb).1,nstk b hb,.inl hb,λx c e=>(f2 b hb).2.2.2.2.1 x c (hcl1 x c e),(λp hp=>(nomatch hp))}
 let loop:∀s₃:ot,s₃={s2 with heap:=h₁,toks:=s2.toks+([]:List (Str×wj)).length}->
   qi `d X.A (.compLoop `o 0 (.ref it) (.ref s2.heap.objs.size)^compEnvC scope cl HH.objs.size X.env) (RR (.ref s2.heap.objs.size) HH.objs.size) s₃:=by
  rintro s₃ rfl;show Ko (λn s'=>∃i τ H',Inv (bW X N' scope cl HH.objs.size fp s2 H2) [] τ H' s'/\tn i s'.heap/\(∀b∈fp,H' b=bF)/\W i n τ H') ?_ m0
   {0,caps σ,_,I4,st4,λb hb=>by rw[aE (below b^fplt b hb).2];show(f2 b hb).1,w0}
  rintro n s5 ⟨i,τ,H5,I5,st5,fr5,w5⟩;rcases turn i n τ H5 w5 with⟨stop,q⟩|⟨go,N,hN,step⟩
  .show aQ (T.done (bW X N' scope cl HH.objs.size fp s2 H2) A2 A2 A2 hc i [] s5 τ H5 (λ_ _=>False) I5 (stat fr5) st5 stop) λr s6 q0=>?_
   let{hr,I6}:=q0;subst hr;let{m,hn,_}:=I6.loc;show hRR _ _ s6 H5 m (I2.CQ (ch:=fp) I6.os I6.base I6.au I6.bare λb hb=>{(f2 b hb).2.2.2.1,(f2 b hb).2.1,(f2 b hb).2.2.2.2.1,(f2 b hb).2.2.2.2.2}) hn hCle I6.free q
  .show aQ (T.item (bW X N' scope cl HH.objs.size fp s2 H2) A2 A2 A2 hc i [] s5 τ H5 (λ_ _=>False) I5 (stat fr5) st5 go) λr s6 q1=>?_
   let{u,hr,h6}:=q1;subst hr;show aQ h6 λ_ s7 q2=>?_;let{x,H7,I7,r7,y7,st7,fr7}:=q2;let I7':=I7.pinned (stat fr7)^T.obj _ _ st7;let again:∀{τ':St} {H':Hp} {s':ot},Inv (bW X N' scope cl HH.objs.size fp s2 H2) ([]++rn fp s7.heap) τ' H' s'->N τ' H'->
     ∃m,m<n/\∃i τ H',Inv (bW X N' scope cl HH.objs.size fp s2 H2) [] τ H' s'/\tn i s'.heap/\(∀b∈fp,H' b=bF)/\W i m τ H':=λ{τ' H' s'} I' n'=>by
    let{m',hm,w'}:=hN τ' H' n';show{m',hm,i+1,τ',H',I'.uZ,T.keep _ _ _ st7 λb hb o e=>(I'.pin (b,o)^Q1 _^Q1 _^tO hb e).1,λb hb=>?_,w'};let{o,e,d}:=T.obj _ _ st7 b hb;show(I'.pin (b,o)^Q1 _^Q1 _^tO hb e).2.1
   show aQ (hg HH.objs.size s2 H2 _ s7 τ H7 x u _ I7' r7^step x H7 y7) λ_ s8 q3=>?_;let{τ8,H8,I8,q8}:=q3;show aQ (hts HH.objs.size s2 H2 _ s8 τ8 H8 _ I8 q8) λokk s9 q4=>?_;let{H9,I9,q9}:=q4;cases okk with
   |false=>
    rw[QV QW]at q9⊢;show again I9 q9
   |true=>
    rw[Q0 A2]at q9⊢;show aQ (hel HH.objs.size s2 H2 _ s9 τ8 H9 _ I9 q9) λy s10 q5=>?_;let{v,H10,I10,r10,ys,hD,hz,n10}:=q5;show aQ (Dg (X:=bW X N' scope cl HH.objs.size fp s2 H2) _ s10 τ8 H10 (.ref s2.heap.objs.size) [v] (.ref s2.heap.objs.size) [y] (λ_ H'=>N τ8 H') I10 A2 (.cons r10 .nil) {_,ys,v,A2,A2,hD,hz,n10}) λ_ s11 q6=>?_;let{_,H11,I11,_,n11}:=q6;show again I11 n11
 show codeAny_compStart_list (loop _ A2)^T.self X.A 0 _ _ _ st4^loop _ A2
def IN (hc:X.calm=bU)(a:scope.kind=.function)(p:∀y∈scope.names,y.2≠.cell)(d:∀y∈scope.names,y.2=.local->scope.names.lookup y.1=!.local)
  (c:∀n,(n,NameKind.free)∈scope.names->X.env.kindOf n=!.cell\/X.env.kindOf n=!.free)
  (u:∀r:St,r.length=X.N.length->(caps r).length=N'.length/\∀(i:Nat) (x:Str) (v:V),N'[i]?=!x->(caps r)[i]?=!!v->scope.names.lookup x=!.free/\∃j:Nat,X.N[j]?=!x/\r[j]?=!!v)
  (hi:PI X tg iter wi) (hg:∀f C k s H,PG (bW X N' scope f C k s H) tg g) (E:∀f C k s H,oV (bW X N' scope f C k s H) ifs tt) (G:∀f C k s H,PE (bW X N' scope f C k s H) elt te)
  (hs:∀x,foldedSetIterable iter X.env x=pure x:=by intro _;rfl):PE X `o^iU wi caps g tt te:=by
 intro l s r H Q I h;rw[eval_ListComp];let{f,t,z,B}:=BK (env:=X.env) (scope:=scope) λn L=>I.ok.has n^c n L
 show wpAny_comprehension_free (use:=bF) A2 hs t a d^aQ (hi l s r H _ I h) λv s1 h1=>aQ h1 λab s2 h2=>?_
 let{it,k,tn,J,H2,rfl,Y,T,M,f2,k2}:=h2;show Ei (RR:=λO C=>compPost `d X.A X.xe bF (EP X l r Q) O C) hc a p u c z B (λC s H=>hg f C k s H) (λC s H=>E f C k s H) (λC s H=>G f C k s H) Y T M f2 k2 ?_;intro D C s' H' m I' L U hC q;let{f0,f1,ac,f3,f4,f5}:=Y.iV U hC;show{m,L,λh' sb=>{.ref D,H',I'.turned (t':=s'.toks) (λb o hb e=>(sb.2 b hb).trans e) f0 f1 f3 f4 f5,A2,q}}
def JB{r:Pos}{i:Nat}(O:swapsWith `o (!.Name y z) r.line X.env=pure bU)
  (hN:X.N.Nodup) (U:X.N[i]?=!y) (hy:Loc X.env.scope y)
  (hc:X.calm=bU) (c:scope.kind=.function) (t:∀y∈scope.names,y.2≠.cell) (k:∀y∈scope.names,y.2=.local->scope.names.lookup y.1=!.local)
  (d:∀n,(n,NameKind.free)∈scope.names->X.env.kindOf n=!.cell\/X.env.kindOf n=!.free)
  (G:∀B:St,B.length=X.N.length->(caps B).length=N'.length/\∀(i:Nat) (x:Str) (v:V),N'[i]?=!x->(caps B)[i]?=!!v->scope.names.lookup x=!.free/\∃j:Nat,X.N[j]?=!x/\B[j]?=!!v)
  (hi:PI X tg iter wi) (hg:∀l C p s H,PG (bW X N' scope l C p s H) tg g) (Y:∀l C p s H,oV (bW X N' scope l C p s H) ifs tt) (ab:∀l C p s H,PE (bW X N' scope l C p s H) elt te)
  (hs:∀x,foldedSetIterable iter X.env x=pure x:=by intro _;rfl) (hf:X.fn y=bU\/X.env.scope.names.lookup y=!.local:=by first|show .inl rfl|show .inr rfl|assumption):
  PS X (.Assign [.Name y z] `o r)^dX (iU wi caps g tt te)^cp i:=by
 intro f s B H D I h;rw[exec_Assign_Name_used _ _ _ _ O];show QL^VC^QL ?_
 let{l,u,L,M}:=BK (env:=X.env) (scope:=scope) λn hn=>I.ok.has n^d n hn;change gE _ X.A (do let _<-comprehension `o scope X.env _ (newList []) fF (y1 iter X.env)^!assign (.Name y z) X.env) _ _ s;show QL^RV (wpAny_comprehension_free (use:=!assign (.Name y z) X.env) (Q:=λ_ s'=>SP X f D .next s') A2 hs u c k
  (aQ (hi f s B H _ I h) λv s1 h1=>aQ h1 λa0 s2 h2=>?_)) (λ_ s' hq=>QX^QX hq) λ_ _ e=>e
 let{it,p,tn,J,H2,rfl,I2,T,ac,f2,k2}:=h2;show Ei (RR:=λaf C=>compPost `d X.A X.xe (!assign (.Name y z) X.env) (λ_ s'=>SP X f D .next s') af C) hc c t G d L M (λC s H=>hg l C p s H) (λC s H=>Y l C p s H) (λC s H=>ab l C p s H) I2 T ac f2 k2 ?_;intro E C s' H' m I' hn aj hC q;let{f0,f1,a1,f3,f4,f5}:=I2.iV aj hC;change gE _ X.A (assign (.Name y z) X.env^.ref E) _ _ _;show wpAny_assign_Name^CA I' hN U hy (v:=.ref E) A2 (λam an ⟨a,sb,ha⟩=>?_) hf;let ao:C≠a:=by
  rcases ha with rfl|ha
  .show f1
  .show RG^f4 y a ha
 show{m,hn.sameBut sb ao,λh' as=>{_,H',an.turned (t':=am.toks) (λb o hb e=>(as.2 b hb).trans e) f0 f1 f3 f4 f5,q}}
end
end L2
namespace FL
open PySem L2
inductive D where
 |aw|bl (b:Bool)|int (i:Int)|str (x:Str)|tup (l:List D)|lst (l:List D)
abbrev ZW:=List^List D
abbrev ZZ:=List D
mutual
def D.beq:D->D->Bool
 |.aw,.aw=>bU
 |.bl a,.bl b=>a==b
 |.int a,.int b=>a==b
 |.str a,.str b=>fT (a=b)
 |.tup a,.tup b=>D.qk a b
 |.lst a,.lst b=>D.qk a b
 |_,_=>fF
def D.qk:List D->List D->Bool
 |[],[]=>bU
 |a::r,b::t=>D.beq a b&&D.qk r t
 |_,_=>fF
end
mutual
theorem D.beq_iff:∀a b:D,D.beq a b=bU↔a=b
 |.aw,b=>by cases b<;>simp[D.beq]
 |.bl a,b=>by cases b<;>simp[D.beq]
 |.int a,b=>by cases b<;>simp[D.beq]
 |.str a,b=>by cases b<;>simp[D.beq]
 |.tup a,b=>by cases b<;>simp[D.beq,D.yg a]
 |.lst a,b=>by cases b<;>simp[D.beq,D.yg a]
theorem D.yg:∀a b:List D,D.qk a b=bU↔a=b
 |[],b=>by cases b<;>simp[D.qk]
 |a::r,b=>by cases b<;>simp[D.qk,D.beq_iff a,D.yg r]
end
instance:DecidableEq D:=fun a b=>decidable_of_iff _^D.beq_iff a b
mutual
inductive ap (H:Hp):V->D->Prop
 |aw:ap H .aw .aw
 |bl (b:Bool):ap H (.bl b)^.bl b
 |int (i:Int):ap H (.int i)^.int i
 |str (x:Str):ap H (.str x)^.str x
 |tup {a:vb} {vs:List V} {l:List D}:H a=!.tup vs->aF H vs l->ap H (.ref a)^.tup l
 |lst {a:vb} {vs:List V} {l:List D}:H a=!.lst vs->aF H vs l->ap H (.ref a)^.lst l
inductive aF (H:Hp):List V->List D->Prop
 |nil:aF H [] []
 |cons {v:V} {d:D} {vs:List V} {ds:List D}:ap H v d->aF H vs ds->aF H (v::vs) (d::ds)
end
mutual
theorem ap.mono {H H':Hp}(e:ae H H'):∀{v:V} {d:D},ap H v d->ap H' v d
 |_,_,.aw=>.aw
 |_,_,.bl b=>.bl b
 |_,_,.int b=>.int b
 |_,_,.str b=>.str b
 |_,_,.tup h r=>.tup (e _ _ h)^aF.mono e r
 |_,_,.lst h r=>.lst (e _ _ h)^aF.mono e r
theorem aF.mono {H H':Hp}(e:ae H H'):∀{v:List V} {d:List D},aF H v d->aF H' v d
 |_,_,.nil=>.nil
 |_,_,.cons h r=>.cons (ap.mono e h)^aF.mono e r
end
theorem aF.length:∀{a:List V} {b:ZZ},aF H a b->a.length=b.length
 |_,_,.nil=>rfl
 |_,_,.cons _ r=>RF (· +1) r.length
theorem aF.get:∀{a:List V} {b:ZZ} {i:Nat} {d:D},aF H a b->b[i]?=!d->∃v,a[i]?=!v/\ap H v d
 |_,_,_,_,.nil,e=>by simp at e
 |_,_,0,_,.cons h _,e=>by simp at e;subst e;show{_,A2,h}
 |_,_,i+1,d,.cons _ r,e=>by
  let{v,c,f}:=aF.get (i:=i) (d:=d) r (by simpa using e);show{v,by simpa using c,f}
theorem aF.jm:∀{a:List V} {b:ZZ} {i:Nat} {v:V},aF H a b->a[i]?=!v->∃d,b[i]?=!d/\ap H v d
 |_,_,_,_,.nil,e=>by simp at e
 |_,_,0,_,.cons h _,e=>by simp at e;subst e;show{_,A2,h}
 |_,_,i+1,d,.cons _ r,e=>by
  let{v,c,f}:=aF.jm (i:=i) (v:=d) r (by simpa using e);show{v,by simpa using c,f}
theorem aF.append:∀{a b:List V} {c d:ZZ},aF H a c->aF H b d->aF H (a++b) (c++d)
 |_,_,_,_,.nil,s=>s
 |_,_,_,_,.cons h r,s=>.cons h^r.append s
def aF.snoc(r:aF H a b)(h:ap H v d):aF H (a++[v]) (b++[d]):=r.append^.cons h .nil
theorem aF.take:∀{a:List V} {b:ZZ} (n:Nat),aF H a b->aF H (a.take n)^b.take n
 |_,_,0,_=>.nil
 |_,_,_+1,.nil=>.nil
 |_,_,n+1,.cons h r=>.cons h^r.take n
theorem aF.drop:∀{a:List V} {b:ZZ} (n:Nat),aF H a b->aF H (a.drop n)^b.drop n
 |_,_,0,r=>r
 |_,_,_+1,.nil=>.nil
 |_,_,n+1,.cons _ r=>r.drop n
theorem aF.ints:∀a:List Int,aF H (a.map V.int)^a.map D.int
 |[]=>.nil
 |n::r=>.cons (.int n)^aF.ints r
def ap.dQ(h:ap H v^.int i):v=.int i:=by cases h;rfl
def ap.qR(h:ap H v^.str x):v=.str x:=by cases h;rfl
def ap.ik(h:ap H v^.bl b):v=.bl b:=by cases h;rfl
def ap.fS(h:ap H v^.tup l):∃a b,v=.ref a/\H a=!.tup b/\aF H b l:=by cases h with|tup h r=>show{_,_,A2,h,r}
def ap.el(h:ap H v^.lst l):∃a b,v=.ref a/\H a=!.lst b/\aF H b l:=by cases h with|lst h r=>show{_,_,A2,h,r}
mutual
theorem ap.inj {H:Hp}:∀{v:V} {d e:D},ap H v d->ap H v e->d=e
 |_,_,_,.aw,h=>by cases h;rfl
 |_,_,_,.bl _,h=>by cases h;rfl
 |_,_,_,.int _,h=>by cases h;rfl
 |_,_,_,.str _,h=>by cases h;rfl
 |_,_,_,.tup h r,q=>by
  cases q with
  |tup h' r'=>rw[h]at h';cases h';rw[aF.inj r r']
  |lst h' r'=>rw[h]at h';cases h'
 |_,_,_,.lst h r,q=>by
  cases q with
  |lst h' r'=>rw[h]at h';cases h';rw[aF.inj r r']
  |tup h' r'=>rw[h]at h';cases h'
theorem aF.inj {H:Hp}:∀{v:List V} {d e:List D},aF H v d->aF H v e->d=e
 |_,_,_,.nil,h=>by cases h;rfl
 |_,_,_,.cons h r,q=>by cases q with|cons h' r'=>rw[ap.inj h h',aF.inj r r']
end
def but (H:Hp)(M:List vb):Hp:=λb=>if b∈M then bF else H b
def Pm (H:Hp):but H []=H:=by funext b;simp[but]
def bv{M:ZX}(h:b∉M):but H M b=H b:=by simp[but,h]
def ay(h:but H M b=!o):b∉M/\H b=!o:=by
 unfold but at h;split at h
 .cases h
 .show{‹_›,h}
def qS (H:Hp)(M:ZX):ae `a H:=λb o h=>(ay h).2
theorem _root_.L2.ae.but(e:ae H a)(M:ZX):ae `a^but a M:=λb o h=>by
 let{c,d}:=ay h;rw[bv c];show e b o d
def eo {H:Hp}{M:ZX}{a:vb}{o:HO}(h:a∈M):but (upd H a o) M=but H M:=by
 funext b;unfold FL.but;by_cases hb:b∈M
 .rw[Q0 hb,Q0 hb]
 .rw[QV hb,QV hb,aE^λe:b=a=>hb^by rw[e];show h]
def A5 {H:Hp}{M:ZX}{a:vb}{o:HO}(h:a∉M):but (upd H a o) M=upd `a a o:=by
 funext b;by_cases hb:b∈M
 .rw[aE^λe:b=a=>h^by rw[<-e];show hb]
  simp[FL.but,hb]
 .rw[bv hb]
  by_cases e:b=a
  .subst e;rw[aM,aM]
  .rw[aE e,aE e,bv hb]
def fe{M M':ZX}(h:∀a∈M,a∈M'):ae (but H M')^but H M:=λb o e=>by
 let{c,d}:=ay e;rw[bv λz=>c^h b z];show d
def c9{H:Hp}(h:H p=bF)(o:HO):ae H^upd H p o:=λb u q=>by rw[aE^dy q h];show q
def av (M:List vb)(H:Hp):Prop:=∀a∈M,H a≠bF
def av.nil:av [] H:=λ_ h=>nomatch h
def av.same(l:av M H)(e:ae H b):av M b:=λa c z=>by
 cases q:H a with
 |none=>show l a c q
 |some o=>rw[e a o q]at z;cases z
def av.cons {M:ZX}{H:Hp}{a:vb}{o:HO}(l:av M H)(h:H a=!o):av (a::M) H:=λb c=>by
 rcases QZ.mp c with e|e
 .rw[e,h];show λz=>nomatch z
 .show l b e
def av.fresh(l:av M H)(h:H p=bF):p∉M:=λz=>l p z h
theorem av.upd {M:ZX}{H:Hp}{a:vb}{o:HO}(l:av M H):av M^L2.upd H a o:=λb hb z=>by
 by_cases e:b=a
 .subst e;rw[aM]at z;cases z
 .rw[aE e]at z;show l b hb z
def qE(l:av M H)(h:H p=bF)(r:aF `a a b):ap (but (upd H p^.tup a) M) (.ref p)^.tup b:=by
 rw[A5^l.fresh h];show .tup aM^r.mono^c9 (by rw[bv^l.fresh h];show h) _
def rP(l:av M H)(h:H p=bF)(r:aF `a a b):ap (but (upd H p^.lst a) M) (.ref p)^.lst b:=by
 rw[A5^l.fresh h];show .lst aM^r.mono^c9 (by rw[bv^l.fresh h];show h) _
def oo{H:Hp}{M:ZX}(e:a∉M)(h:H a=!.lst c)(r:aF (but H (a::M)) c d):ap `a `n^.lst d:=
 .lst (by rw[bv e];show h)^r.mono^fe λb f=>QM _ f
def vB{H:Hp}(h:H a=bF)(r:ap `a v d):ap (but (upd H a o) (a::M)) v d:=by
 rw[eo^QQ];show r.mono λb u e=>?_;let{f,c}:=ay e;rw[bv]
 .show c
 .intro z;rcases QZ.mp z with rfl|z
  .rw[h]at c;cases c
  .show f z
theorem ui{H:Hp}(h:H a=bF):∀{b:List V} {c:ZZ},aF `a b c->aF (but (upd H a o) (a::M)) b c
 |_,_,.nil=>.nil
 |_,_,.cons q r=>.cons (vB h q)^ui h r
def ag (te:TE)(G:Hp)(σ:St)(d:D):Prop:=
 ∀M H,ae G^but H M->av M H->∀Q:VK,(∀v H',ae H H'->ap (but H' M) v d->Q v H')->te σ H Q
def dF (ta:TA)(G:Hp)(σ:St)(ds:List D):Prop:=
 ∀M H,ae G^but H M->av M H->∀Q:List V->Hp->Prop,(∀vs H',ae H H'->aF (but H' M) vs ds->Q vs H')->ta σ H Q
def bu (tt:TT)(G:Hp)(σ:St)(b:Bool):Prop:=
 ∀M H,ae G^but H M->av M H->∀Q:Bool->Hp->Prop,(∀H',ae H H'->Q b H')->tt σ H Q
def ag.at{Q:VK}(h:ag te `a b d)(l:av M H)(k:∀v a,ae H a->ap (but a M) v d->Q v a):te b H Q:=h M H `f l Q k
def ag.eq(h:ag a G b d)(e:d=d'):ag a G b d':=e▸h
def bu.eq(h:bu a G b d)(e:d=d'):bu a G b d':=e▸h
section
variable {G:Hp}{σ:St}{ta tb tc:TE}{tt tu:TT}{t:TA}{d d1 d2:D}{ds:List D}{K:kc}
def de{i:Nat}(e:σ[i]?=!!v)(r:ap G v d):ag (aW i) G σ d:=λM H s l Q k=>{v,e,k v H `f^r.mono s}
def ux(r:∀H,ap H v d):ag (tC v) G σ d:=λM H s l Q k=>k _ H `f^r _
def ar:ag (tC^.int i) G σ^.int i:=ux λ_=>.int i
def aK:ag (tC^.str x) G σ^.str x:=ux λ_=>.str x
def iR:ag (tC^.bl b) G σ^.bl b:=ux λ_=>.bl b
def JS:ag (tC .aw) G σ .aw:=ux λ_=>.aw
def kb {r:R2}(e:∀M H x y,av M H->ap `a x d1->ap `a y d2->∀Q:VK,(∀v b,ae H b->ap (but b M) v d->Q v b)->r x y H Q)(f:ag ta G σ d1)(g:ag tb G σ d2):ag (bT r ta tb) G σ d:=
 λM H s l Q k=>f M H s l _ λx h a i=>g M h (s.trans^a.but M) (l.same a) _ λy j c m=>
  e M j x y (l.same^a.trans c) (i.mono^c.but M) m Q λv n o p=>k v n (a.trans^c.trans o) p
def qK{g:Int->Int->V}(a:∀b,ap b (g i j) d)(c:ag ta G σ^.int i)(e:ag tb G σ^.int j):ag (bT (ie g) ta tb) G σ d:=
 kb (λM H x y l f h Q k=>{i,j,f.dQ,h.dQ,k _ H `f^a _}) c e
def vV{C:Int->Int->Prop}{g:Int->Int->V}(a:C i j)(b:∀c,ap c (g i j) d)(e:ag ta G σ^.int i)(f:ag tb G σ^.int j):ag (bT (rI C g) ta tb) G σ d:=
 kb (λM H x y l h m Q k=>{i,j,h.dQ,m.dQ,a,k _ H `f^b _}) e f
def nq(a:ag ta G σ^.int i)(b:ag tb G σ^.int j):ag (bT (ie λi j=>.int (i+j)) ta tb) G σ^.int (i+j):=qK (λ_=>.int _) a b
def tZ(a:ag ta G σ^.int i)(b:ag tb G σ^.int j):ag (bT (ie λi j=>.int (i-j)) ta tb) G σ^.int (i-j):=qK (λ_=>.int _) a b
def DC(a:pb i j)(b:ag ta G σ^.int i)(c:ag tb G σ^.int j):ag (bT (rI pb λi j=>.int (i*j)) ta tb) G σ^.int (i*j):=vV a (λ_=>.int _) b c
def eW(a:0<j)(b:ag ta G σ^.int i)(c:ag tb G σ^.int j):ag (bT (rI (λ_ j=>0<j) λi j=>.int (i%j)) ta tb) G σ^.int (i%j):=vV (C:=λ_ j=>0<j) a (λ_=>.int _) b c
def iF(a:xv i j)(b:ag ta G σ^.int i)(c:ag tb G σ^.int j):ag (bT (rI xv λi j=>.int (i/j)) ta tb) G σ^.int (i/j):=vV a (λ_=>.int _) b c
def JQ(a:yo i j)(b:ag ta G σ^.int i)(c:ag tb G σ^.int j):ag (bT (rI yo λi j=>.int^(HPow.hPow i j.toNat)) ta tb) G σ^.int^(HPow.hPow i j.toNat):=vV a (λ_=>.int _) b c
def ni(a:ag ta G σ^.int i)(b:ag tb G σ^.int j):ag (bT (ie λi j=>.bl^fT (i<j)) ta tb) G σ^.bl^fT (i<j):=qK (λ_=>.bl _) a b
def qY(a:ag ta G σ^.int i)(b:ag tb G σ^.int j):ag (bT (ie λi j=>.bl^fT (j<i)) ta tb) G σ^.bl^fT (j<i):=qK (λ_=>.bl _) a b
def tM(a:ag ta G σ^.int i)(b:ag tb G σ^.int j):ag (bT (ie λi j=>.bl^fT (j<=i)) ta tb) G σ^.bl^fT (j<=i):=qK (λ_=>.bl _) a b
def mB(a:ag ta G σ^.int i):ag (Gk (rU λi=>.int (-i)) ta) G σ^.int (-i):=
 λM H s l Q k=>a M H s l _ λx b c e=>{i,e.dQ,k _ b c^.int _}
def D.sc:D->Bool
 |.int _=>bU|.str _=>bU|_=>fF
def BE{d:D}(f:ap H x d)(a:ap c y e)(g:d.sc=bU)(b:e.sc=bU):wW x y=bU/\fT (x=y)=fT (d=e):=by
 cases f with
 |int i=>
  cases a with
  |int j=>show{A2,by simp}
  |str j=>show{A2,by simp}
  |_=>show absurd b (by simp[D.sc])
 |str i=>
  cases a with
  |int j=>show{A2,by simp}
  |str j=>show{A2,by simp}
  |_=>show absurd b (by simp[D.sc])
 |_=>show absurd g^by simp[D.sc]
def ah:dF bM G σ []:=λM H s l Q k=>k [] H `f .nil
def aa (c:ag ta G σ d)(e:dF t G σ ds):dF (bq ta t) G σ (d::ds):=
 λM H s l Q k=>c M H s l _ λx f a g=>e M f (s.trans^a.but M) (l.same a) _ λj h b i=>k _ h (a.trans b)^.cons (g.mono^b.but M) i
def aV (h:dF t G σ ds)(hz:ds.length<=se:=by show Sf^cH Z8):ag (vi t) G σ^.tup ds:=
 λM H s l Q k=>h M H s l _ λe f a b=>{by rw[b.length];show hz,λp c=>k _ _ (a.trans^c9 c _)^qE (l.same a) c b}
def fE (h:dF t G σ ds)(hz:ds.length<=se:=by show Sf^cH Z8):ag (ma t) G σ^.lst ds:=
 λM H s l Q k=>h M H s l _ λe f a b=>{by rw[b.length];show hz,λp c=>k _ _ (a.trans^c9 c _)^rP (l.same a) c b}
def GL{ds:ZZ}{d:D}(r:aF H a ds)(h:dI ds i=!d):∃v,dI a i=!v/\ap H v d:=by
 unfold dI at h⊢;rw[r.length];cases e:lW ds.length i with
 |none=>rw[e]at h;cases h
 |some j=>rw[e]at h;show r.get h
def r9 {r:List V->Hp->VK->Prop}(e:∀M H b,av M H->aF `a b ds->∀Q:VK,(∀v a,ae H a->ap (but a M) v d->Q v a)->r b H Q)(h:dF t G σ ds):ag (cN r t) G σ d:=
 λM H s l Q k=>h M H s l _ λf g c i=>e M g f (l.same c) i Q λv j m n=>k v j (c.trans m) n
def jM{d:D}(h:aF H a [d]):∃x,a=[x]/\ap H x d:=by
 cases h with|cons q r=>cases r;show{_,A2,q}
def pT{d:D}(h:aF H a [d,e]):∃x y,a=[x,y]/\ap H x d/\ap H y e:=by
 cases h with|cons q r=>cases r with|cons b r=>cases r;show{_,_,A2,q,b}
def dW(h:dF t G σ [.lst l]):ag (cN (λc H Q=>∃p b,c=[.ref p]/\(aU K H p b\/bQ K H p b)/\Q (.int b.length) H) t) G σ^.int l.length:=
 r9 (λM H c j e Q k=>by
  let{x,rfl,q}:=jM e;let{a,f,rfl,g,i}:=q.el;show{a,f,A2,.inl^aU.of (ay g).2,?_};rw[i.length];show k _ H `f^.int _) h
def gv(h:dF t G σ [.tup l]):ag (cN (λc H Q=>∃p b,c=[.ref p]/\(aU K H p b\/bQ K H p b)/\Q (.int b.length) H) t) G σ^.int l.length:=
 r9 (λM H c j e Q k=>by
  let{x,rfl,q}:=jM e;let{a,f,rfl,g,i}:=q.fS;show{a,f,A2,.inr^bQ.of (ay g).2,?_};rw[i.length];show k _ H `f^.int _) h
def Hx(h:dF t G σ [.lst l]):
  ag (cN (λc H Q=>∃p b,c=[.ref p]/\(aU K H p b\/bQ K H p b)/\∀l,H l=bF->Q (.ref l)^upd H l^.lst b) t) G σ^.lst l:=
 r9 (λM H c f g Q k=>by
  let{x,rfl,q}:=jM g;let{a,i,rfl,j,m}:=q.el;show{a,i,A2,.inl^aU.of (ay j).2,λp e=>k _ _ (c9 e _)^rP f e m}) h
def qX(h:dF t G σ [.lst l]):
  ag (cN (λc H Q=>∃p b,c=[.ref p]/\((aU K H p b/\∀l,H l=bF->Q (.ref l)^upd H l^.tup b)\/(bQ K H p b/\Q (.ref p) H))) t) G σ^.tup l:=
 r9 (λM H c f g Q k=>by
  let{x,rfl,q}:=jM g;let{a,i,rfl,j,m}:=q.el;show{a,i,A2,.inl {aU.of (ay j).2,λp e=>k _ _ (c9 e _)^qE f e m}}) h
def cz(h:ag ta G σ^.bl b):bu (p7 ta) G σ b:=λM H s l Q k=>h M H s l _ λv a c e=>{b,e.ik,k a c}
def cM(h:ag ta G σ^.bl b):bu (tB ta) G σ b:=λM H s l Q k=>h M H s l _ λv a c e=>{b,e.ik,k a c}
def dY(h:bu tt G σ b):bu (Gu tt) G σ^not b:=λM H s l Q k=>h M H s l _ λa c=>k a c
def kS:bu nu G σ bU:=λM H s l Q k=>k H^ae.refl _
def mi(h:bu tt G σ b)(f:b=bU->bu tu G σ c):bu (uR tt tu) G σ (b&&c):=λM H s l Q k=>h M H s l _ λe a=>by
 cases b with
 |true=>rw[Q0 A2];show f A2 M e (s.trans^a.but M) (l.same a) _ λg i=>k g^a.trans i
 |false=>rw[QV QW];show k e a
def fy(h:bu tt G σ b)(f:b=fF->bu tu G σ c):bu (Bw tt tu) G σ (b||c):=λM H s l Q k=>h M H s l _ λe a=>by
 cases b with
 |true=>rw[Q0 A2];show k e a
 |false=>rw[QV QW];show f A2 M e (s.trans^a.but M) (l.same a) _ λg i=>k g^a.trans i
def fh(h:ag ta G σ^.bl b)(f:b=bU->ag tb G σ^.bl c):ag (uz ta tb) G σ^.bl (b&&c):=λM H s l Q k=>h M H s l _ λv e a g=>{b,g.ik,by
 cases b with
 |true=>rw[Q0 A2];show f A2 M e (s.trans^a.but M) (l.same a) _ λv i j m=>k v i (a.trans j) m
 |false=>rw[QV QW];show k _ e a^.bl _}
def Nd(h:ag ta G σ^.bl b)(f:b=fF->ag tb G σ^.bl c):ag (AE ta tb) G σ^.bl (b||c):=λM H s l Q k=>h M H s l _ λv e a g=>{b,g.ik,by
 cases b with
 |true=>rw[Q0 A2];show k _ e a^.bl _
 |false=>rw[QV QW];show f A2 M e (s.trans^a.but M) (l.same a) _ λv i j m=>k v i (a.trans j) m}
def Ae(h:ag ta G σ^.bl b):ag (AD ta) G σ^.bl^not b:=λM H s l Q k=>h M H s l _ λv a c e=>{b,e.ik,k _ a c^.bl _}
end
section
variable {M:List vb}{H:Hp}{σ:St}{ta:TE}{tt:TT}{d:D}{E:Ends}
def Er{c e:TS}(l:av M H)(h:bu tt `a σ b)(f:b=bU->∀a,ae H a->c E σ a)(g:b=fF->∀a,ae H a->e E σ a):nK tt c e E σ H:=h M H `f l _ λa s=>by
 cases b with
 |true=>rw[Q0 A2];show f A2 a s
 |false=>rw[QV QW];show g A2 a s
end
end FL
namespace PySem
open Sem (wp)
def Nn:typeLookup (.type "list") "keys"=pure bF:=by rw[typeLookup_type,builtinLookup_eq_fast];kernel_rfl
set_option maxHeartbeats 2000000 in
def Jy{A:om}{s:ot}{name:Str}{Q:Option wj->ot->Prop}
  (t:s.heap.get? a=!o) (u:o.cls=.type "list") (f:o.data=.seq r k) (v:o.dict=bF) (i:typeLookup (.type "list") name=pure bF) (j:(["__module__","__name__","__qualname__","__doc__","__annotations__"]:ZY).contains name=fF) (z:A.handled=bF)
  (h:∀p x,(∀b o,s.heap.get? b=!o->p.get? b=!o)->Q bF {s with heap:=p,toks:=x}) (q:name.length+100<=se:=by size_fits):
  gE (y3 l w) A (getAttr? `n name) Q E s:=by
 let{c,B,C,G}:=o;simp only at u f v;subst u f v;let{H,g,d,x,os}:=s;let y:∀m,({H,g,d,m,os}:ot).TypeIs `n "list":=λ_=>{_,t,A2}
 let I:=sub_AttributeError;let J:=Uy.lookup;let L:=Uy.bind^.ref a;let M:=am_list_getattr_none;unfold getAttr? getAttrBy? getAttrBy
 repeat (any_goals (first|assumption|show y _|((with_reducible change gE _ _ (call (wj.builtin "list.__getattribute__") _ _) _ _ _);show Vn Uy (y _) am_entry_list_getattribute (F.args_list_getattribute_2 _ _) (meets_getattribute_miss_list a r k G name _ i j q) {t,z,λp m e n=>?_})|wp_step))
 let{N,O,T}:=n.there;change gE _ _ (getattributeRaised _ _ _ _ _ _ _) _ _ _;unfold getattributeRaised
 repeat (any_goals (first|assumption|wp_step))
 show h _ _ n.of.keeps
namespace F
def EK:entryFor table "dict.update.loop"=!Builtin.«dict.update.loop»:=entryFor_of_tree^by kernel_rfl
def uh:plainId "dict.update.loop"=bU:=by decide+kernel
end F
section
variable {prog:qj}{w:pa}{K:Type} [DecidableEq K] {knd:KeyKind prog w K}{A:om}{R:Result->ot->Prop}{s:ot}
def xu (knd:KeyKind prog w K)(h:rl)(u:wj)(p:K×wj):Prop:=∃b kv,u=.ref b/\h.IsTuple b^List.toArray [kv,p.2]/\knd.is p.1 kv=bU
def Qs{A:om}{s:ot}{Q:List wj->ot->Prop}(d:s.heap.IsTuple b a)(e:Q a.toList s):gE `i A (Builtin.Dict.pairItems^.ref b) Q E s:=by
 let{o,c,f,n,g}:=d;unfold Builtin.Dict.pairItems;show QL^Vi (show s.TypeIs (.ref b) "tuple" from{o,c,f}) ?_;rw[Q0 Z1];show QL ?_;unfold seqItems?;show QL^wpAny_load c ?_;rw[g];show QX^QX e
theorem GK{items:Array wj}(hA:A.handled=bF):∀(rest:List (K×wj)) (i:Nat) (s:ot) (z:List (K×wj)),items.size=i+rest.length->
  (∀j p,rest[j]?=!p->∃u,items[i+j]?=!u/\xu knd s.heap u p)->s.heap.IsListIter k l i->s.heap.IsList l items->s.heap.DictOf knd d z->z.length+rest.length<=se->
  (∀C tk,C.DictOf knd d^merged z rest->(∀b o,b≠d->b≠k->s.heap.get? b=!o->C.get? b=!o)->R (.ok^.ret B) {s with heap:=C,toks:=tk})->
  qi `i A (.builtin "dict.update.loop" {[.ref d,.ref k,rawInt i,B],[]}) R s
 |[],i,s,z,E,hp,h,J,G,hz,hR=>by
  show S9 F.EK ?_;rw[SO F.uh _];change gE _ A.in1 (pyNext^.ref k>>=_) _ _ s;let v:d≠k:=by
   rintro rfl;let{o,f,U,g}:=h;let{L,H,I,c,m,a,_}:=G;rw[f]at c;cases c;rw[g]at a;cases a
  show QL^wpAny_pyNext_list_end hA h J (by simp at E⊢;omega) λC ext=>?_
  change gE _ A.in1 (Builtin.Dict.addKeywords d []>>=λ_=>ret B) _ _ _;show QL^QX^QX^hR C s.toks ?_ λb o _ hb e=>ext b o hb e
  let{o,H,I,f,r}:=G;show{o,H,I,ext _ _ v f,r}
 |p::rest,i,s,z,E,hp,h,J,G,hz,hR=>by
  show S9 F.EK ?_;rw[SO F.uh _];change gE _ A.in1 (pyNext^.ref k>>=_) _ _ s;let{u,hu,b,kv,rfl,M,hk}:=hp 0 p A2;let v:d≠k:=by
   rintro rfl;let{o,f,U,g}:=h;let{L,H,I,c,m,a,_}:=G;rw[f]at c;cases c;rw[g]at a;cases a
  let ab:l≠k:=by
   rintro rfl;let{o,f,U,g}:=h;let{L,c,m,n,a}:=J;rw[f]at c;cases c;rw[g]at a;cases a
  let ac:l≠d:=by
   rintro rfl;let{o,H,I,f,U,g,_}:=G;let{L,c,m,n,a}:=J;rw[f]at c;cases c;rw[g]at a;cases a
  let N:∀{b:vb} {xs:Array wj},s.heap.IsTuple b xs->b≠d/\b≠k:=λ{b xs} ht=>by
   let{o,f,U,n,g}:=ht;show{?_,?_}
   .rintro rfl
    let{L,H,I,c,m,a,_}:=G;rw[f]at c;cases c;rw[g]at a;cases a
   .rintro rfl
    let{L,c,m,a}:=h;rw[f]at c;cases c;rw[g]at a;cases a
  show QL^wpAny_pyNext_list_item h J (x:=.ref b) (by simpa using hu) λY O t=>?_
  let af:Y.IsTuple b^List.toArray [kv,p.2]:=by
   let{o,f,r}:=M;show{o,(t.2 b (N {o,f,r}).2).trans f,r}
  let xT:Y.DictOf knd d z:=by
   let{o,H,I,f,r}:=G;show{o,H,I,(t.2 d v).trans f,r}
  show QL^So^QL^Ul^Qs (s:={s with heap:=Y}) af ?_
  change gE _ A.in1 (gD [kv,p.2]^dictSet d kv p.2) _ _ _;show So^wpAny_dictSet_pairs (s:={s with heap:=Y}) (hsz:=by simp at hz;omega) hk xT λh2 d6 y=>?_
  let Q:h2.IsListIter k l (i+1):=by
   let{o,f,r}:=O;show{o,(y.2 k^RG v).trans f,r}
  let aj:h2.IsList l items:=by
   let{o,f,r}:=J;show{o,(y.2 l ac).trans^(t.2 l ab).trans f,r}
  let am:(rawInt i:wj)=rawInt i:=A2;show QX {Ub F.uh _,?_};let e1:((i:Int)+1)=((i+1:Nat):Int):=by omega
  rw[e1];show GK hA rest (i+1) _ (stored z p.1 p.2) (by simp at E;omega) (λj q hq=>?_) Q aj d6 ?_ λC tk an kp=>?_
  .let{u',ao,b',as,rfl,T,a0}:=hp (j+1) q (by simpa using hq);show{.ref b',by rw[<-ao];congr 1;omega,b',as,A2,?_,a0};let{n1,n2}:=N T;let{o,f,r}:=T;show{o,(y.2 b' n1).trans^(t.2 b' n2).trans f,r}
  .have:=stored_length_le z p.1 p.2;simp at hz;omega
  .show hR C tk an λb o n1 n2 e=>kp b o n1 n2^(y.2 b n1).trans^(t.2 b n2).trans e
end
end PySem
namespace PySem
section
variable {prog:qj}{w:pa}{K:Type} [DecidableEq K] {knd:KeyKind prog w K}{A:om}{E:wj->ot->Prop}{s:ot}
def Qz{rest:List (K×wj)}{Q:ZT}(L:A.handled=bF)
  (v:s.heap.get? l=!o) (x:o.cls=.type "list") (B:o.dict=bF) (d:o.data=.seq a n) (N:a.size=rest.length)
  (O:∀(j:Nat) p,rest[j]?=!p->∃u,a[j]?=!u/\xu knd s.heap u p) (T:rest.length<=se)
  (h:∀i C,i.DictOf knd s.heap.objs.size^merged [] rest->(∀b o,s.heap.get? b=!o->i.get? b=!o)->Q (.ref s.heap.objs.size) {s with heap:=i,toks:=C}):
  gE `i A (call (.type "dict") [.ref l]) Q E s:=by
 show callType_codes (Q₁:=λk g=>k=.ref s.heap.objs.size/\g={s with heap:=s.heap.push {cls:=.type "dict",data:=.dict^List.toArray []}}) F.kt_called_dict (F.kt_typeCall_dict_1 _) F.entry_dict_init (kt_code_dict_new _ {A2,A2}) ?_;rintro k g ⟨rfl,rfl⟩;let f:(s.heap.push {cls:=.type "dict",data:=.dict^List.toArray []}).DictOf knd s.heap.objs.size []:=rl.DictOf.new s.heap;let m:∀b o,s.heap.get? b=!o->(s.heap.push {cls:=.type "dict",data:=.dict^List.toArray []}).get? b=!o:=λb o e=>QR _ e;generalize U:s.heap.objs.size=D at*
 generalize hH:s.heap.push {cls:=.type "dict",data:=.dict^List.toArray []}=M at*
 show{f.typeIs,F.args_dict_init_2 _ _,?_};unfold Builtin.«dict.__init__»;show QL ?_;unfold Builtin.Dict.selfAndRest;show QL^UX f.typeIs ?_
 change gE _ _ (pure (D,[wj.ref l])) _ _ _;show QX ?_;change gE _ _ (Builtin.Dict.updateFrom "dict.__init__" D (.ref l) [] .none) _ _ _;unfold Builtin.Dict.updateFrom;show QL^Vi (show({s with heap:=M}:ot).TypeIs (.ref l) "list" from{o,m _ _ v,x}) ?_
 rw[Q0 Z1];show QL^Jy (s:={s with heap:=M}) (m _ _ v) x d B Nn Z1 L λy q z=>?_
 show QL^UJ ?_
 show QL^S6 (s:={s with heap:=y,toks:=q}) (l:=l) (items:=a) {o,z _ _^m _ _ v,x,n,d} ?_
 let G:∀b c,s.heap.get? b=!c->(y.push {cls:=.type "list_iterator",data:=.fields^List.toArray [.ref l,.int 0 0]}).get? b=!c:=λb c e=>QR _^z b c^m b c e
 let d6:(y.push {cls:=.type "list_iterator",data:=.fields^List.toArray [.ref l,.int 0 0]}).DictOf knd D []:=by
  let{Y,es,ep,H,r}:=f;show{Y,es,ep,QR _^z _ _ H,r}
 show QX {Ub F.uh _,?_};show GK (A:=A.in1) (knd:=knd) (l:=l) (items:=a) (R:=wants (λr t=>r=.none/\Q (.ref D) t) E) L rest 0 {s with heap:=y.push {cls:=.type "list_iterator",data:=.fields^List.toArray [.ref l,.int 0 0]},toks:=q} [] Z4 (λj p hj=>?_) {_,Ra _ A2,A2,A2} {o,G _ _ v,x,n,d} d6 (by simpa using T) λi C I kp=>?_
 .let{u,hu,b,kv,rfl,{c,J,r},hk}:=O j p hj;show{.ref b,by simpa using hu,b,kv,A2,{c,G _ _ J,r},hk}
 .show{A2,h i C I λb c e=>kp b c ?_ ?_^G b c e}
  .show Rp (by rw[<-U];show Re e)
  .show Rp^Re^z b c^m b c e
end
end PySem
namespace FL
open PySem L2
mutual
def cD:D->D->Bool
 |.int _,.int _=>bU
 |.int _,.str _=>bU
 |.str _,.int _=>bU
 |.str _,.str _=>bU
 |.tup a,.tup b=>ia a b
 |.lst a,.lst b=>ia a b
 |_,_=>fF
def ia:List D->List D->Bool
 |a::r,b::t=>cD a b&&ia r t
 |_,_=>bU
end
mutual
def D.cT:D->Nat
 |.tup l=>D.f8 l+1
 |.lst l=>D.f8 l+1
 |_=>0
def D.f8:List D->Nat
 |[]=>0
 |a::r=>max (D.cT a)^D.f8 r
end
theorem qV:∀{l:ZZ} {j:Nat} {d:D},l[j]?=!d->d.cT<=D.f8 l
 |[],_,_,h=>by simp at h
 |a::r,0,d,h=>by simp at h;subst h;show Nat.le_max_left _ _
 |a::r,j+1,d,h=>by
  have:=qV (l:=r) (j:=j) (d:=d) (by simpa using h);show Rh this^Nat.le_max_right _ _
theorem rL:∀{l m:ZZ} {j:Nat} {d e:D},ia l m=bU->l[j]?=!d->m[j]?=!e->cD d e=bU
 |[],_,_,_,_,_,h,_=>by simp at h
 |_::_,[],_,_,_,_,_,h=>by simp at h
 |a::r,b::t,0,d,e,h,c,f=>by
  simp at c f;subst c;subst f;rw[ia,RJ]at h;show h.1
 |a::r,b::t,j+1,d,e,h,c,f=>by
  rw[ia,RJ]at h;show rL (l:=r) (m:=t) (j:=j) h.2 (by simpa using c)^by simpa using f
def tW {l m:ZZ}:((List.range^min l.length m.length).all (λj=>fT (l[j]?=m[j]?))&&l.length==m.length)=fT (l=m):=by
 rw[Ry,RJ,Tt,Tw,R0];constructor
 .rintro⟨a,c⟩
  show Su λj=>?_;by_cases b:j<min l.length m.length
  .show Q8^a j^TD.mpr b
  .rw[RC Z4,RC Z4]
 .rintro rfl
  show{λj _=>by simp,A2}
def j9{P:qj}{w:pa}{K:kc}{j:Nat}(r:bn a b)(h:b[j]?=!u):∃x,a[j]?=!x/\RelV x u:=by
 let f:=r.length;let{g,_}:=QN.mp h;let c:a[j]?=!a[j]'Z4:=QO Z4;let{i,d,e}:=r.get c;rw[h]at d;cases d;show{_,c,e}
open SeqAt in
def vJ{s:ot}(ok:du P w H s.heap)(hG:ae G H):∀(n:Nat) {d e:D} {x y:V} {u z:wj} {A:om},d.cT<=n->ap G x d->ap G y e->RelV x u->RelV y z->cD d e=bU->A.units+n<cLine->
  EqAt A s u z^fT (d=e):=by
 intro n;induction n with
 |zero=>
  intro d e x y u z A T rx v B p g hu;cases rx with
  |int i=>
   let{t,rfl}:=B;cases v with
   |int j=>
    let{h,rfl}:=p;let q:fT (D.int i=D.int j)=(i==j):=by rw[Ry];simp
    rw[q];show EqAt.int_int i t j h
   |str j=>
    let{h,rfl}:=p;let q:fT (D.int i=D.str j)=fF:=by simp
    rw[q];show EqAt.int_str i t j h
   |_=>show absurd g (by simp[cD])
  |str i=>
   let{t,rfl}:=B;cases v with
   |int j=>
    let{h,rfl}:=p;let q:fT (D.str i=D.int j)=fF:=by simp
    rw[q];show EqAt.str_int i t j h
   |str j=>
    let{h,rfl}:=p;let q:fT (D.str i=D.str j)=(i==j):=by rw[Ry];simp
    rw[q];show EqAt.str_str i t j h
   |_=>show absurd g (by simp[cD])
  |aw=>show absurd g (by simp[cD])
  |bl _=>show absurd g (by simp[cD])
  |tup _ _=>simp[D.cT]at T
  |lst _ _=>simp[D.cT]at T
 |succ n ih=>
  intro d e x y u z A T rx v B p g hu;cases rx with
  |int i=>
   let{t,rfl}:=B;cases v with
   |int j=>
    let{h,rfl}:=p;let q:fT (D.int i=D.int j)=(i==j):=by rw[Ry];simp
    rw[q];show EqAt.int_int i t j h
   |str j=>
    let{h,rfl}:=p;let q:fT (D.int i=D.str j)=fF:=by simp
    rw[q];show EqAt.int_str i t j h
   |_=>show absurd g (by simp[cD])
  |str i=>
   let{t,rfl}:=B;cases v with
   |int j=>
    let{h,rfl}:=p;let q:fT (D.str i=D.int j)=fF:=by simp
    rw[q];show EqAt.str_int i t j h
   |str j=>
    let{h,rfl}:=p;let q:fT (D.str i=D.str j)=(i==j):=by rw[Ry];simp
    rw[q];show EqAt.str_str i t j h
   |_=>show absurd g (by simp[cD])
  |aw=>show absurd g (by simp[cD])
  |bl _=>show absurd g (by simp[cD])
  |@tup a vs l U C=>
   cases B;cases v with
   |@tup b ws m E I=>
    cases p;rw[cD]at g;by_cases o:a=b
    .subst o;rw[U]at E;cases E;rw[aF.inj C I,Q9 A2];show EqAt.same _
    .let{_,f,Y,p1}:=(show bZ P w H s.heap a^.tup vs from ok a _^hG _ _ U)
     let{_,c,r2,p2}:=(show bZ P w H s.heap b^.tup ws from ok b _^hG _ _ E)
     let n1:f.toArray.size=l.length:=by rw[Rb,<-Y.length,C.length]
     let n2:c.toArray.size=m.length:=by rw[Rb,<-r2.length,I.length]
     let q:fT (D.tup l=D.tup m)=((List.range^min f.toArray.size c.toArray.size).all (λj=>fT<|l[j]?=m[j]?)&&f.toArray.size==c.toArray.size):=by
      rw[n1,n2,tW,Ry];simp
     rw[q];show EqAt.of_refs o^RcAt.tuples p1 p2 Z4 λj h1 h2=>?_
     let{x',hx,J}:=j9 (P:=P) (w:=w) (K:=[]) Y (j:=j) (u:=f.toArray[j]) Z8;let{y',hy,L}:=j9 (P:=P) (w:=w) (K:=[]) r2 (j:=j) (u:=c.toArray[j]) Z8;let{d',k,M}:=C.jm hx;let{e',r,N}:=I.jm hy;let q2:fT (l[j]?=m[j]?)=fT (d'=e'):=by rw[k,r,Ry];simp
     rw[q2];let O:d'.cT<=n:=by
      have:=qV k;simp only[D.cT]at T;omega
     show ih O M N J L (rL g k r) (by change A.units+1+n<cLine;omega)
   |_=>show absurd g (by simp[cD])
  |@lst a vs l U C=>
   cases B;cases v with
   |@lst b ws m E I=>
    cases p;rw[cD]at g;by_cases o:a=b
    .subst o;rw[U]at E;cases E;rw[aF.inj C I,Q9 A2];show EqAt.same _
    .let{_,f,k1,Y,p1}:=(show bZ P w H s.heap a^.lst vs from ok a _^hG _ _ U)
     let{_,c,k2,r2,p2}:=(show bZ P w H s.heap b^.lst ws from ok b _^hG _ _ E)
     let n1:f.toArray.size=l.length:=by rw[Rb,<-Y.length,C.length]
     let n2:c.toArray.size=m.length:=by rw[Rb,<-r2.length,I.length]
     by_cases Q:l.length=m.length
     .let q:fT (D.lst l=D.lst m)=((List.range f.toArray.size).all λj=>fT<|l[j]?=m[j]?):=by
       have:=tW (l:=l) (m:=m);rw[n1];let e1:min l.length m.length=l.length:=by omega
       rw[e1]at this;let e2:(l.length==m.length)=bU:=by simpa using Q
       rw[e2,Uz]at this;rw[this,Ry];simp
      rw[q];show EqAt.of_refs o^RcAt.lists {_,p1,A2,_,A2} {_,p2,A2,_,A2} Z4 Z4 λj h1 h2=>?_
      let{x',hx,J}:=j9 (P:=P) (w:=w) (K:=[]) Y (j:=j) (u:=f.toArray[j]) Z8;let{y',hy,L}:=j9 (P:=P) (w:=w) (K:=[]) r2 (j:=j) (u:=c.toArray[j]) Z8;let{d',k,M}:=C.jm hx;let{e',r,N}:=I.jm hy;let q2:fT (l[j]?=m[j]?)=fT (d'=e'):=by rw[k,r,Ry];simp
      rw[q2];let O:d'.cT<=n:=by
       have:=qV k;simp only[D.cT]at T;omega
      show ih O M N J L (rL g k r) (by change A.units+1+n<cLine;omega)
     .let q:fT (D.lst l=D.lst m)=fF:=by
       rw[VP];intro z;cases z;show Q A2
      rw[q];show EqAt.of_refs o^RcAt.lists_lengths {_,p1,A2,_,A2} {_,p2,A2,_,A2} (by rw[n1,n2];simpa using Q) Z4
   |_=>show absurd g^by simp[cD]
section
variable {X:Cx}
open SeqAt
def Gv (x y:V)(H:Hp)(d e:D):Prop:=∃M,ap `a x d/\ap `a y e/\cD d e=bU/\d.cT<=40
def u8:R2:=λx y H Q=>∃d e,Gv x y H d e/\Q (.bl^fT (d=e)) H
def mO:R2:=λx y H Q=>∃d e,Gv x y H d e/\Q (.bl^not^fT (d=e)) H

def A7{A:om}(I:Inv X C σ H s)(p:ap `a `n d)(o:ap `a (.ref b) e)(B:cD d e=bU)(hd:d.cT<=40)(hu:A.units+50<cLine):
  RcAt A s `n (.ref b)^fT (d=e)/\RcNeAt A s `n (.ref b)^not^fT (d=e):=by
 let ab:A.in1.units+45<cLine:=by change A.units+1+45<cLine;omega
 cases p with
 |@tup _ U l Y p=>
  cases o with
  |@tup _ ws m hb o=>
   rw[cD]at B;let{_,f,E,O}:=(show bZ X.prog X.w H s.heap a^.tup U from I.au a _ (ay Y).2)
   let{_,c,G,Q}:=(show bZ X.prog X.w H s.heap b^.tup ws from I.au b _ (ay hb).2)
   let J:f.toArray.size=l.length:=by rw[Rb,<-E.length,p.length]
   let T:c.toArray.size=m.length:=by rw[Rb,<-G.length,o.length]
   let q:fT (D.tup l=D.tup m)=((List.range^min f.toArray.size c.toArray.size).all (λj=>fT<|l[j]?=m[j]?)&&f.toArray.size==c.toArray.size):=by
    rw[J,T,tW,Ry];simp
   let L:∀j (h1:j<f.toArray.size) (h2:j<c.toArray.size),EqAt A.in1 s f.toArray[j] c.toArray[j]^(λj=>fT<|l[j]?=m[j]?) j:=λj h1 h2=>by
    let{x',hx,r}:=j9 (P:=X.prog) (w:=X.w) (K:=X.K) E (j:=j) (u:=f.toArray[j]) Z8;let{y',hy,t}:=j9 (P:=X.prog) (w:=X.w) (K:=X.K) G (j:=j) (u:=c.toArray[j]) Z8;let{N,g,v}:=p.jm hx;let{e',h,x}:=o.jm hy;let q2:fT (l[j]?=m[j]?)=fT (N=e'):=by rw[g,h,Ry];simp
    change EqAt A.in1 s _ _<|fT<|l[j]?=m[j]?
    rw[q2];let y:N.cT<=40:=by
     have:=qV g;simp only[D.cT]at hd;omega
    show vJ I.au (qS H M) 40 y v x r t (rL B g h) Z4
   rw[q];show{RcAt.tuples O Q Z4 L,RcNeAt.tuples O Q Z4 L}
  |_=>show absurd B (by simp[cD])
 |@lst _ U l Y p=>
  cases o with
  |@lst _ ws m hb o=>
   rw[cD]at B;let{_,f,k1,E,O}:=(show bZ X.prog X.w H s.heap a^.lst U from I.au a _ (ay Y).2)
   let{_,c,k2,G,Q}:=(show bZ X.prog X.w H s.heap b^.lst ws from I.au b _ (ay hb).2)
   let i:s.heap.IsList a f.toArray:={_,O,A2,_,A2}
   let k:s.heap.IsList b c.toArray:={_,Q,A2,_,A2}
   let J:f.toArray.size=l.length:=by rw[Rb,<-E.length,p.length]
   let T:c.toArray.size=m.length:=by rw[Rb,<-G.length,o.length]
   by_cases n:l.length=m.length
   .let q:fT (D.lst l=D.lst m)=((List.range f.toArray.size).all λj=>fT<|l[j]?=m[j]?):=by
     have:=tW (l:=l) (m:=m);rw[J];let e1:min l.length m.length=l.length:=by omega
     rw[e1]at this;let e2:(l.length==m.length)=bU:=by simpa using n
     rw[e2,Uz]at this;rw[this,Ry];simp
    let L:∀j (h1:j<f.toArray.size) (h2:j<c.toArray.size),EqAt A.in1 s f.toArray[j] c.toArray[j]^(λj=>fT<|l[j]?=m[j]?) j:=λj h1 h2=>by
     let{x',hx,r}:=j9 (P:=X.prog) (w:=X.w) (K:=X.K) E (j:=j) (u:=f.toArray[j]) Z8;let{y',hy,t}:=j9 (P:=X.prog) (w:=X.w) (K:=X.K) G (j:=j) (u:=c.toArray[j]) Z8;let{N,g,v}:=p.jm hx;let{e',h,x}:=o.jm hy;let q2:fT (l[j]?=m[j]?)=fT (N=e'):=by rw[g,h,Ry];simp
     change EqAt A.in1 s _ _<|fT<|l[j]?=m[j]?
     rw[q2];let y:N.cT<=40:=by
      have:=qV g;simp only[D.cT]at hd;omega
     show vJ I.au (qS H M) 40 y v x r t (rL B g h) Z4
    rw[q];show{RcAt.lists i k Z4 Z4 L,RcNeAt.lists i k Z4 Z4 L}
   .let q:fT (D.lst l=D.lst m)=fF:=by
     rw[VP];intro z;cases z;show n A2
    rw[q];show{RcAt.lists_lengths i k (by rw[J,T];simpa using n) Z4,RcNeAt.lists_lengths i k (by rw[J,T];simpa using n) Z4}
  |_=>show absurd B^by simp[cD]
def Gy(g:ap G x d)(f:ap G y e)(c:cD d e=bU):(d.sc=bU/\e.sc=bU)\/∃a b,x=.ref a/\y=.ref b:=by
 cases g with
 |int i=>cases f<;>first|show .inl ⟨rfl,rfl⟩|show absurd c (by simp[cD])
 |str i=>cases f<;>first|show .inl ⟨rfl,rfl⟩|show absurd c (by simp[cD])
 |tup _ _=>cases f<;>first|show .inr ⟨_,_,rfl,rfl⟩|show absurd c (by simp[cD])
 |lst _ _=>cases f<;>first|show .inr ⟨_,_,rfl,rfl⟩|show absurd c (by simp[cD])
 |_=>show absurd c^by simp[cD]
def KZ (l:X.A.units+50<cLine):dh X (rd .Eq) u8:=by
 intro c s m H x y v u Q I i j h;let{d,e,{M,f,g,k,n},q}:=h;rcases Gy f g k with⟨o,p⟩|⟨a,b,rfl,rfl⟩
 .let{r,t}:=BE f g o p;rw[<-t]at q;show BG c s m H x y v u Q I i j {r,q}
 .cases i;cases j;show(A7 I f g k n l).1 _ _ _ _ {.bl _,H,I,A2,q}
def Kc (l:X.A.units+50<cLine):dh X (rd .NotEq) mO:=by
 intro c s m H x y v u Q I i j h;let{d,e,{M,f,g,k,n},q}:=h;rcases Gy f g k with⟨o,p⟩|⟨a,b,rfl,rfl⟩
 .let{r,t}:=BE f g o p;rw[<-t]at q;show Em c s m H x y v u Q I i j {r,q}
 .cases i;cases j;show(A7 I f g k n l).2 _ _ _ _ {.bl _,H,I,A2,q}
def sM (neg:Bool):R2:=λx y H Q=>∃M d es,ap `a x d/\(ap `a y^.lst es\/ap `a y^.tup es)/\(∀e∈es,cD e d=bU/\e.cT<=40)/\Q (.bl^if neg then not^fT (d∈es)else fT (d∈es)) H
def uX{A:om}(I:Inv X k T H s)(U:ap `a x d)(Y:RelV x u)(o:aF `a Q n)(p:bn Q a)(c:∀e∈n,cD e d=bU/\e.cT<=40)(hu:A.units+50<cLine):
  ∃f:wj->Bool,(∀y,y∈a.toArray->EqAt A.in1 s y u^f y)/\a.toArray.any f=fT (d∈n):=by
 classical
 show{λy=>fT (∃v e,RelV v y/\ap `a v e/\e=d),λy r=>?_,?_}
 .let C:y∈a:=by simpa using r
  let{j,t,E}:=Sz C;let{v,l,b}:=j9 (P:=X.prog) (w:=X.w) (K:=X.K) p (j:=j) (u:=y) (by rw[QO t,E]);let{e,G,g}:=o.jm l;let B:e∈n:=QT G;let q:fT (∃v e,RelV v y/\ap `a v e/\e=d)=fT (e=d):=by
   rw[Ry,R0,R0];constructor
   .rintro⟨v',e',J,L,N⟩
    rw[b.inj J]at g;rw[ap.inj g L];show N
   .intro z;show{v,e,b,g,z}
  change EqAt A.in1 s y u^fT (∃v e,RelV v y/\ap `a v e/\e=d)
  rw[q];show vJ I.au (qS H M) 40 (c e B).2 g U b Y (c e B).1 (by change A.units+1+40<cLine;omega)
 .rw[Ry,Array.any_eq_true,R0]
  constructor
  .rintro⟨j,t,h⟩
   let{v',e',J,L,N}:=Q8 h;let{v,l,b}:=j9 (P:=X.prog) (w:=X.w) (K:=X.K) p (j:=j) (u:=a.toArray[j]) Z8;let{e,G,g}:=o.jm l;rw[b.inj J]at g;rw[<-N,<-ap.inj g L];show QT G
  .intro B;let{j,t,O}:=Sz B;let hl:=o.length;let ab:=p.length;let{v,l,b}:=o.get (i:=j) (d:=d) (by rw[QO t,O]);let{y,r,ry}:=p.get l;let m:j<a.toArray.size:=by simp;omega
   show{j,m,Q9 {v,d,?_,b,A2}};have:a.toArray[j]=y:=by
    rw[QO^by simpa using m]at r;simpa using r
   rw[this];show ry
def zG (o:X.A.units+50<cLine):dh X (rd .In)^sM fF:=by
 intro r s C H x y v u Q I t z h;let{M,d,E,B,c,b,q}:=h;rcases c with c|c
 .let{a,e,rfl,g,i}:=c.el;cases z;let{_,j,n,k,p}:=(show bZ X.prog X.w H s.heap a^.lst e from I.au a _ (ay g).2)
  let{f,l,m}:=uX I B t i k b o;show in_listAt f {_,p,A2,_,A2} l ?_;rw[m];show{.bl _,H,I,A2,q}
 .let{a,e,rfl,g,i}:=c.fS;cases z;let{_,j,k,p}:=(show bZ X.prog X.w H s.heap a^.tup e from I.au a _ (ay g).2)
  let{f,l,m}:=uX I B t i k b o;show in_tupleAt f p l ?_;rw[m];show{.bl _,H,I,A2,q}
def xB (o:X.A.units+50<cLine):dh X (rd .NotIn)^sM bU:=by
 intro r s C H x y v u Q I t z h;let{M,d,E,B,c,b,q}:=h;rcases c with c|c
 .let{a,e,rfl,g,i}:=c.el;cases z;let{_,j,n,k,p}:=(show bZ X.prog X.w H s.heap a^.lst e from I.au a _ (ay g).2)
  let{f,l,m}:=uX I B t i k b o;show notIn_listAt f {_,p,A2,_,A2} l ?_;rw[m];show{.bl _,H,I,A2,q}
 .let{a,e,rfl,g,i}:=c.fS;cases z;let{_,j,k,p}:=(show bZ X.prog X.w H s.heap a^.tup e from I.au a _ (ay g).2)
  let{f,l,m}:=uX I B t i k b o;show notIn_tupleAt f p l ?_;rw[m];show{.bl _,H,I,A2,q}
def Pairs (K:kc)(H:Hp):List V->List (aH×V)->Prop:=Paired λv kv=>∃b,v=.ref b/\bQ K H b [kV kv.1,kv.2]
theorem pairs_at(I:Inv X a l H s):∀{i:List V} {c:List (aH×V)} {d:List wj},Pairs X.K H i c->bn i d->
  ∃rest:List (aH×wj),KV c rest/\∀(j:Nat) (p:aH×wj),rest[j]?=!p->∃u,d.toArray[j]?=!u/\xu (dm X.prog X.w) s.heap u p
 |_,_,_,.nil,.nil=>{[],.nil,λj p h=>by simp at h}
 |_,_,_,.cons (b:=m) ⟨b,n,o⟩ t,.cons (b:=u) r q=>by
  subst n;obtain rfl:u=wj.ref b:=r;let{rest,v,x}:=pairs_at I t q;let{k,y,p,_}:=I.tuple o;let{z,A,rfl,B,C}:=bn.two y;show{(m.1,A)::rest,.cons {A2,C} v,λj E e=>?_};cases j with
  |zero=>
   simp at e;subst e;show{.ref b,by simp,b,z,A2,p,kJ B}
  |succ j=>
   let{G,f,g}:=x j E (by simpa using e);show{G,by simpa using f,g}
def Oj (x:X.calm=bU):iG X (.type "dict")^λj H Q=>∃a d b,j=[.ref a]/\aU X.K H a d/\Pairs X.K H d b/\∀p,H p=bF->Q (.ref p)^upd H p^.dK^cg [] b:=by
 intro k s N H j O Q I r h;let{a,d,b,rfl,y,l,q}:=h;let{u,rfl,z}:=Vf r;cases z;let{A,m,{o,n,B,e,f,c},T}:=I.list y;let{rest,t,C}:=pairs_at I l m;let v:b.length=rest.length:=Tf t;let E:d.length=b.length:=Tf l;let G:=m.length;show Qz (knd:=dm X.prog X.w) (I.ok.hd x) B e f c (by simp;omega) C Z4 λU J g L=>?_;let M:=KV.merge (kvs:=[]) (vs:=[]) t .nil;let i:=uo b [];show{.ref s.heap.objs.size,_,I.laid (a:=s.heap.objs.size) (o:=.dK^cg [] b) (t':=J) L (QU _)^qW (by simp at i;omega) (R8.mpr^RG^Rp I.rB) M g,A2,q _^I.au.fresh^QU _}
end
end FL
namespace FL
open PySem L2
def Walk (wi:TI)(G:Hp)(σ:St)(ds:List D):Prop:=∀M H,ae G^but H M->av M H->∀R:It->Hp->Prop,
 (∀J H1,ae H H1->(∀(j:Nat) d M' H',ds[j]?=!d->ae (but H1 M)^but H' M'->av M' H'->J.go j H'/\∀x H'',J.qh j H' x H''->ae H' H''/\ap (but H'' M') x d)->(∀M' H',ae (but H1 M)^but H' M'->J.stop ds.length H')->R J H1)->wi σ H R
section
variable {G:Hp}{σ:St}{ta tb tl te:TE}{tt:TT}{t:TA}{d:D}{ds:List D}{K:kc}{wi:TI}
def Eg (h:ag tl G σ^.lst ds):Walk (kW K tl) G σ ds:=λM H s l R k=>h M H s l _ λx o p q=>by
 let{a,b,rfl,g,i}:=q.el;show{a,A2,{b,aU.of (ay g).2},k _ o p (λj d r u w c C=>?_) λr u c=>?_}
 .let f:=(ay^c _ _ g).2;let{v,m,y}:=i.get w;show{{b,v,aU.of f,m},λx z A=>?_};let{e,B}:=A;subst e;let n:=B b^aU.of f
  rw[m]at n;cases n;show{ae.refl _,y.mono c}
 .let f:=(ay^c _ _ g).2;show{b,aU.of f,by rw[i.length];show QU _}
def OW (h:ag tl G σ^.tup ds):Walk (pd K tl) G σ ds:=λM H s l R k=>h M H s l _ λx o p q=>by
 let{a,b,rfl,g,i}:=q.fS;show{a,A2,{b,bQ.of (ay g).2},k _ o p (λj d r u w c C=>?_) λr u c=>?_}
 .let f:=(ay^c _ _ g).2;let{v,m,y}:=i.get w;show{{b,v,bQ.of f,m},λx z A=>?_};let{e,B}:=A;subst e;let n:=B b^bQ.of f
  rw[m]at n;cases n;show{ae.refl _,y.mono c}
 .let f:=(ay^c _ _ g).2;show{b,bQ.of f,by rw[i.length];show QU _}
def mo (lo:Int)(n j:Nat)(d:D)(h:((List.range n).map λ(k:Nat)=>D.int (lo+k))[j]?=!d):j<n/\d=.int (lo+j):=by
 rw[QY]at h;cases e:(List.range n)[j]? with
 |none=>rw[e]at h;cases h
 |some q=>
  rw[e]at h;let{a,b}:=QN.mp e;simp at a b;subst b;show{a,(Q5 h).symm}
def Fw {n:Nat}(u:n<2^62)(h:dF t G σ [.int n]):Walk (zZ t) G σ^(List.range n).map λ(k:Nat)=>D.int (0+k):=λM H s l R k=>h M H s l _ λv a b c=>by
 let{x,rfl,f}:=jM c;show{(n:Int),by rw[f.dQ],by omega,by omega,?_};show k _ a b (λj d g i m o w=>?_) λg i o=>?_
 .let{y,rfl}:=mo 0 n j d m;show{by change j<((n:Int)).toNat;omega,λx p q=>?_};let{e,r}:=q;subst e;subst r;show{ae.refl _,.int _}
 .change((n:Int)).toNat<=_;simp
def jA{H:Hp}{D:vb}(h:H D=bF)(s:ae H c):ae `a^but c (D::M):=λb o e=>by
 let{f,a}:=ay e;rw[bv]
 .show s b o a
 .intro z;rcases QZ.mp z with rfl|z
  .rw[h]at a;cases a
  .show f z
def iC{caps:St->St}{p:D->Bool}{f:D->D}(hw:Walk wi G σ ds)
  (ht:∀z v d,ae G z->d∈ds->ap z v d->bu tt z ((caps σ).set i^!v)^p d)
  (he:∀z v d,ae G z->d∈ds->p d=bU->ap z v d->ag te z ((caps σ).set i^!v)^f d) (hz:ds.length<se):
  ag (iU wi caps (cp i) tt te) G σ^.lst^(ds.filter p).map f:=λM H s l Q k=>hw M H s l _ λJ N O U A D T=>by
 let lf:D∉M:=(l.same O).fresh T;let Y:ae G^but N M:=s.trans^O.but M
 show{λj m τ q=>m=ds.length-j/\j<=ds.length/\(∀v,τ.set i (!v)=(caps σ).set i^!v)/\ae N q/\∃n,q D=!.lst n/\aF (but q (D::M)) n^((ds.take j).filter p).map f,
  {ds.length,by simp,Rk _,λ_=>A2,c9 T _,[],aM,by simpa using aF.nil},?_}
 rintro j m τ q ⟨rfl,hj,ab,C,n,r,E⟩;let hs:ae (but N M)^but q (D::M):=jA T C;let hl:av (D::M) q:=((l.same O).same C).cons r;by_cases B:j<ds.length
 .let hd:ds[j]?=some ds[j]:=QO B;let{go,gy}:=U j _ (D::M) q hd hs hl;show .inr {go,λI g=>(∀v,I.set i (!v)=(caps σ).set i^!v)/\ae N g/\∃n,g D=!.lst n/\aF (but g (D::M)) n^((ds.take<|j+1).filter p).map f,
   λI g q0=>by let{a,b,c}:=q0;show{ds.length-(j+1),by omega,A2,B,a,b,c},λx g hy=>?_}
  let{w,rx}:=gy x g hy;let hm:ds[j]∈ds:=Sr B;let sG:ae G^but g (D::M):=Y.trans^hs.trans^w.but _;let L:=hl.same w;change tt (τ.set i^!x) g _;rw[ab x];let tk:(ds.take<|j+1).filter p=(ds.take j).filter p++(if p ds[j]=bU then [ds[j]]else []):=by
   rw[Rs,hd,R7];congr 1;by_cases y:p ds[j]=bU
   .simp[y]
   .simp[y]
  show ht _ x _ sG hm rx (D::M) g `f L _ λH4 u=>?_;let h:∀v,((caps σ).set i^!x).set i (!v)=(caps σ).set i^!v:=λv=>by rw[Wk]
  by_cases y:p ds[j]=bU
  .rw[Q0 y]
   show he _ x _ (sG.trans^u.but _) hm y (rx.mono^u.but _) (D::M) H4 `f (L.same u) _ λv H5 s5 r5=>?_;let ac:H5 D=!.lst n:=s5 _ _^u _ _^w _ _ r
   let af:=E.length;let aj:(((ds.take j).filter p).map f).length<=j:=by
    rw[QP];have:=Rv p^ds.take j
    rw[Rr]at this;omega
   show{n,ac,by omega,h,?_,n++[v],aM,?_}
   .intro b o e;rw[aE^dy e T];show s5 _ _^u _ _^w _ _^C _ _ e
   .rw[eo QQ,tk,Q0 y,Rl]
    show(E.mono^((w.trans u).trans s5).but _).snoc r5
  .rw[QV y]
   show{h,C.trans^w.trans u,n,u _ _^w _ _ r,?_};rw[tk,QV y,Ro];show E.mono^(w.trans u).but _
 .let e:j=ds.length:=by omega
  subst e;show .inl {A (D::M) q hs,k _ q (O.trans C)^oo lf r ?_};rw[Rm^QU _]at E;show E
def PB {xs:List V}(k:Nat):iY xs (!(k:Int)) bF=xs.drop k:=by
 unfold iY;rw[HT.sU,HT.Ex];by_cases h:k<=xs.length
 .rw[T8 h,Rm Z8]
 .rw[U4 Z4,TZ^QU _,TZ Z4,Wl]
def Qu {xs:List V}(k:Nat):iY xs bF (!(k:Int))=xs.take k:=by
 unfold iY;rw[HT.sU,HT.Ex,List.drop_zero,Wn];by_cases h:k<=xs.length
 .rw[T8 h]
 .rw[U4 Z4,Rm^QU _,Rm Z4]
def tD {k:Nat}{l:ZZ}(hk:0<k)(hl:0<l.length)(ha:ag ta G σ^.tup l):ag (xo (DT K) ta (vg^tC^.int (k:Int)) Ev) G σ^.tup^l.drop k:=
 λM H s lv Q q=>ha M H s lv _ λx H1 s1 rx=>{(k:Int),A2,by
  let{a,vs,rfl,h1,h2}:=rx.fS;show{a,vs,A2,bQ.of (ay h1).2,?_,λp hp=>?_}
  .rw[HT.sU]
   have:=h2.length;omega
  .rw[PB]
   show q _ _ (s1.trans^c9 hp _)^qE (lv.same s1) hp^h2.drop k}
def P4 {es:ZZ}(a:∀e∈es,cD e d=bU/\e.cT<=40)(b:ag ta G σ d)(c:ag tb G σ^.lst es):ag (bT (sM fF) ta tb) G σ^.bl^fT (d∈es):=
 kb (λM H x y l f g Q k=>{M,d,es,f,.inl g,a,k _ H `f^.bl _}) b c
def AK {b:ZZ}(a:∀e∈b,cD e d=bU/\e.cT<=40)(c:ag ta G σ d)(f:ag tb G σ^.tup b):ag (bT (sM fF) ta tb) G σ^.bl^fT (d∈b):=
 kb (λM H x y l g h Q k=>{M,d,b,g,.inr h,a,k _ H `f^.bl _}) c f
def zl {es:ZZ}(a:∀e∈es,cD e d=bU/\e.cT<=40)(b:ag ta G σ d)(c:ag tb G σ^.lst es):ag (bT (sM bU) ta tb) G σ^.bl^not^fT (d∈es):=
 kb (λM H x y l f g Q k=>{M,d,es,f,.inl g,a,k _ H `f^.bl _}) b c
end
def i6{g:TG}{E:Ends}(z:Walk t `a r ds)(l:av M H)
  (k:∀i,ae H i->∃Pv:Nat->St->Hp->Prop,Pv 0 r i/\(∀j a b,Pv j a b->ae (but i M)^but b M/\av M b)/\
   (∀(j:Nat) d x a b c,ds[j]?=!d->Pv j a b->ae b c->ap (but c M) x d->g x a c λn v=>u {E with nx:=Pv (j+1),ct:=Pv (j+1),bk:=E.nx} n v)/\∀a b,Pv ds.length a b->E.nx a b):
  mw t g u E r H:=z M H `f l _ λJ i A s f=>by
 let{Pv,B,C,h,o}:=k i A;show{λj m a b=>m=ds.length-j/\j<=ds.length/\Pv j a b,{ds.length,by simp,Rk _,B},?_};rintro j m a b ⟨rfl,U,p⟩;let{w,G}:=C j a b p;by_cases q:j<ds.length
 .let y:ds[j]?=some ds[j]:=QO q;let{I,L}:=s j _ M b y w G;show .inr {I,Pv<|j+1,λn v N=>{ds.length-(j+1),by omega,A2,q,N},λx c O=>?_};let{Q,T}:=L x c O;show h j _ x a b c y p Q T
 .let e:j=ds.length:=by omega
  subst e;show .inl {f M b w,o a b p}
def bo (idx:List Nat)(k:Nat):St->St:=λσ=>idx.map (λj=>(σ[j]?).join)++List.replicate k bF
def qG (N N':List Str)(names:List (Str×NameKind)):List Nat->Nat->Bool
 |[],_=>bU
 |j::r,i=>(match N'[i]?,N[j]? with|some x,!y=>fT (x=y)&&(names.lookup x==!.free)|_,_=>fF)&&qG N N' names r (i+1)
theorem Bk:∀{c:List Nat} {d:Nat},qG N f a c d=bU->∀(i j:Nat),c[i]?=!j->∃x,f[d+i]?=!x/\N[j]?=!x/\a.lookup x=!.free
 |[],_,_,i,j,h=>by simp at h
 |q::r,d,g,i,j,h=>by
  rw[qG,RJ]at g;cases i with
  |zero=>
   simp at h;subst h;let b:=g.1;cases e:f[d]? with
   |none=>rw[e]at b;cases b
   |some x=>
    cases l:N[q]? with
    |none=>rw[e,l]at b;cases b
    |some y=>
     rw[e,l]at b;simp only[RJ,Tu,Tw]at b;let{rfl,k}:=b;show{x,by simpa using e,A2,k}
  |succ i=>
   let{x,b,k,m}:=Bk g.2 i j (by simpa using h);show{x,by rw[<-b];congr 1;omega,k,m}
def Fd{f:ZY}{a:List Nat}(m:f.length=a.length+k)(n:qG N f b a 0=bU):∀d:St,d.length=N.length->
  (bo a k d).length=f.length/\∀(i:Nat) (x:Str) (v:V),f[i]?=!x->(bo a k d)[i]?=!!v->b.lookup x=!.free/\∃j:Nat,N[j]?=!x/\d[j]?=!!v:=by
 intro d o;show{by simp[bo,m],λi x v p c=>?_};unfold bo at c;by_cases g:i<a.length
 .rw[Rj (by simpa using g),QY,QO g]at c
  let{y,h,l,q}:=Bk n i a[i]^QO g;rw[Tc,p]at h;cases h;show{q,a[i],l,?_};simp only[UF,Option.some.injEq]at c;cases e:d[a[i]]? with
  |none=>rw[e]at c;cases c
  |some w=>rw[e]at c;simp at c;rw[c]
 .rw[Rn^by simpa using g]at c
  let{h,l}:=QN.mp c;simp at l
def uJ (esc:Scope)(scope:Scope):Bool:=
 (scope.names.all λy=>fT (y.2≠.cell))&&(scope.names.all λy=> not (y.2==.local)||(scope.names.lookup y.1==!.local))&&(scope.names.all λy=> not (y.2==.free)||(esc.names.lookup y.1==!.cell)||(esc.names.lookup y.1==!.free))
def DK(h:uJ b a=bU):(∀y∈a.names,y.2≠.cell)/\(∀y∈a.names,y.2=.local->a.names.lookup y.1=!.local)/\
  ∀n,(n,NameKind.free)∈a.names->b.names.lookup n=!.cell\/b.names.lookup n=!.free:=by
 rw[uJ,RJ,RJ,Tt,Tt,Tt]at h;let{{d,f},g}:=h;show{λy c=>Q8^d y c,λy c e=>?_,λn i=>?_}
 .have:=f y c;rw[e]at this;simpa using this
 .have:=g _ i;simpa using this
section
variable {X:Cx}{tg iter elt:sH}{ifs:List sH}{scope:Scope}{pos:Pos}{wi:TI}{g:TG}{tt:TT}{te:TE}
def gt (c:ZY)(a:List Nat)(k:Nat)(m:PI X tg iter wi)(n:∀d C e s H,PG (bW X c scope d C e s H) tg g)(f:∀d C e s H,oV (bW X c scope d C e s H) ifs tt)(i:∀d C e s H,PE (bW X c scope d C e s H) elt te)
  (o:X.calm=bU:=by rfl) (b:scope.kind=.function:=by rfl) (j:uJ X.env.scope scope=bU:=by rfl) (p:c.length=a.length+k:=by rfl) (l:qG X.N c scope.names a 0=bU:=by rfl)
  (q:∀x,foldedSetIterable iter X.env x=pure x:=by intro _;rfl):PE X `o^iU wi (bo a k) g tt te:=
 letI h:=DK j
 IN o b h.1 h.2.1 h.2.2 (Fd p l) m n f i q
def qc{a:Pos}{i:Nat}(d:ZY)(b:List Nat)(k:Nat)(r:X.N.Nodup)(j:X.N[i]?=!y)(t:Loc X.env.scope y)(u:PI X tg iter wi)(v:∀e C f s H,PG (bW X d scope e C f s H) tg g)(l:∀e C f s H,oV (bW X d scope e C f s H) ifs tt)(m:∀e C f s H,PE (bW X d scope e C f s H) elt te)
  (n:swapsWith `o (!.Name y q) a.line X.env=pure bU:=by rfl)
  (w:X.calm=bU:=by rfl) (c:scope.kind=.function:=by rfl) (o:uJ X.env.scope scope=bU:=by rfl) (z:d.length=b.length+k:=by rfl) (p:qG X.N d scope.names b 0=bU:=by rfl)
  (A:∀x,foldedSetIterable iter X.env x=pure x:=by intro _;rfl) (B:X.fn y=bU\/X.env.scope.names.lookup y=!.local:=by first|show .inl rfl|show .inr rfl|assumption):
  PS X (.Assign [.Name y q] `o a)^dX (iU wi (bo b k) g tt te)^cp i:=
 letI h:=DK o
 JB n r j t w c h.1 h.2.1 h.2.2 (Fd z p) u v l m A B
end
end FL
namespace FL
open PySem L2
def D.BX:D->String
 |.aw=>"NoneType"|.bl _=>"bool"|.int _=>"int"|.str _=>"str"|.tup _=>"tuple"|.lst _=>"list"
def LQ{K:kc}(r:ap `a x d):ir K H x^.type d.BX:=by
 cases r with
 |aw=>show .aw
 |bl b=>show .bl b
 |int b=>show .int b
 |str b=>show .str b
 |tup h _=>show .tup (ay h).2
 |lst h _=>show .lst (ay h).2
def ky (K:kc):List V->Hp->VK->Prop:=λxs H Q=>∃x n t b,xs=[x,.ty n]/\ir K H x t/\PySem.W.kitOne K t^.type n=!b/\Q (.bl b) H
def Mz:iG X (.builtin "isinstance")^ky X.K:=by
 intro c s g H i j Q I r h;let{x,n,t,b,rfl,d,e,q}:=h;let{u,w,rfl,f,a}:=vals2 r;cases a;show Qb I f d e λk=>{.bl b,H,I.tok _,A2,q}
def Hk (K:kc)(a b:String):W.kitOne K (.type a)^.type b=W.kitOne [] (.type a)^.type b:=A2
section
variable {G:Hp}{σ:St}{ta:TE}{d:D}{K:kc}
def oK(h:ag ta G σ d)(a:W.kitOne [] (.type d.BX)^.type n=!b):ag (cN (ky K)^bq ta^bq (tC^.ty n) bM) G σ^.bl b:=
 λM H s l Q k=>h M H s l _ λx c e f=>{x,n,_,b,A2,LQ f,by rw[Hk];show a,k _ c e^.bl b}
def ET:D->Bool
 |.int _=>bU|.bl _=>bU|_=>fF
def CJ:D->Bool
 |.bl _=>bU|_=>fF
def tR:D->Bool
 |.str _=>bU|_=>fF
def Pd:D->Bool
 |.tup _=>bU|_=>fF
def MU:D->Bool
 |.lst _=>bU|_=>fF
def qv (h:ag ta G σ d):ag (cN (ky K)^bq ta^bq (tC^.ty "int") bM) G σ^.bl^ET d:=by
 cases d with
 |bl _=>show oK h A2
 |int _=>show oK h A2
 |_=>show oK h A2
def LH (h:ag ta G σ d):ag (cN (ky K)^bq ta^bq (tC^.ty "bool") bM) G σ^.bl^CJ d:=by
 cases d<;>show oK h A2
def mh (h:ag ta G σ d):ag (cN (ky K)^bq ta^bq (tC^.ty "str") bM) G σ^.bl^tR d:=by
 cases d<;>show oK h A2
def oZ (h:ag ta G σ d):ag (cN (ky K)^bq ta^bq (tC^.ty "tuple") bM) G σ^.bl^Pd d:=by
 cases d<;>show oK h A2
def Ml (h:ag ta G σ d):ag (cN (ky K)^bq ta^bq (tC^.ty "list") bM) G σ^.bl^MU d:=by
 cases d<;>show oK h A2
end
end FL
namespace FL
open PySem L2
structure bP (P:qj)(w:pa)(K:kc)(mg:Str->Option wj)(base:rl)(n:Nat)(x:Str)(ps:List Str)(sp:Sp):Prop where
 ex:∃f fd,bw P w K mg base bO n f fd ps sp/\Binds K fd ps []/\PySem.W.keepIn K^.ref f=bU/\mg x=!.ref f
def bL{X:Cx}(h:bP X.prog X.w X.K X.mg X.base n x l j)(o:cW m X.A)(q:PA X (e::a) t)(d:n<=m:=by decide)
  (r:Gl X x:=by rfl) (g:`k=fF:=by decide) (s:zA (e::a) X.env=(fF,y1 e X.env)::zA a X.env:=by rfl) (i:(gA c^zA a X.env).any (·.1)=fF:=by rfl):
  PE X (.Call (.Name x p) (e::a) [] c)^ja j [] E0 t:=by
 let{f,v,F,b,k,u}:=h.ex;show JU (F.mono d) o r u k b .nil tP q g s i
structure Bl (mg:Str->Option wj):Prop where
 len:mg "len"=bF
 isinstance:mg "isinstance"=bF
 range:mg "range"=bF
 int:mg "int"=bF
 str:mg "str"=bF
 bool:mg "bool"=bF
 list:mg "list"=bF
 tuple:mg "tuple"=bF
 dict:mg "dict"=bF
 zip:mg "zip"=bF
 enumerate:mg "enumerate"=bF
 all:mg "all"=bF
 reversed:mg "reversed"=bF
section
variable {X:Cx}{e:sH}{es:List sH}{t:TA}{te:TE}{tg iter:sH}{p pos:Pos}
def Pl(h:PI X tg iter c)(f:PI X tg iter d):PI X tg iter^λb H R=>c b H R\/d b H R:=by
 intro a s b H R I q;rcases q with q|q
 .show h a s b H R I q
 .show f a s b H R I q
def cG (h:PE X iter te):PI X tg iter^λa H R=>kW X.K te a H R\/pd X.K te a H R:=Pl (Pr h)^N4 h
def cy (B:Bl X.mg)(h:PE X e te)(c:Gl X "len":=by rfl)(b:zA [e] X.env=(fF,y1 e X.env)::zA [] X.env:=by rfl):PE X (.Call (.Name "len" p) [e] [] pos)^cN (λd H Q=>∃p a,d=[.ref p]/\(aU X.K H p a\/bQ X.K H p a)/\Q (.int a.length) H)^bq te bM:=
 pE JE c B.len PySem.boot_len (ai h aq b) (he:=b)
def gS(B:Bl X.mg)(h:PE X e te)(f:X.mg x=bF)(g:bootBuiltins x=!.type n)(i:Gl X "isinstance":=by rfl)(c:Gl X x:=by rfl)(j:x≠"__name__":=by decide)(k:`k=fF:=by decide)
  (d:zA [e,.Name x a] X.env=(fF,y1 e X.env)::zA [.Name x a] X.env:=by rfl) (b:zA [.Name x a] X.env=(fF,y1 (.Name x a) X.env)::zA [] X.env:=by rfl):
  PE X (.Call (.Name "isinstance" p) [e,.Name x a] [] pos)^cN (ky X.K)^bq te^bq (tC^.ty n) bM:=
 pE Mz i B.isinstance Vb (ai h (ai (Gm (v:=.ty n) c f g A2 j k) aq b) d) (he:=d) (hpl:=by rw[b];rfl)
def rQ (B:Bl X.mg)(h:PE X e te)(c:Gl X "tuple":=by rfl)(b:zA [e] X.env=(fF,y1 e X.env)::zA [] X.env:=by rfl):PE X (.Call (.Name "tuple" p) [e] [] pos)
  (cN (λd H Q=>∃p a,d=[.ref p]/\((aU X.K H p a/\∀l,H l=bF->Q (.ref l)^upd H l^.tup a)\/(bQ X.K H p a/\Q (.ref p) H)))^bq te bM):=
 pC O6 c B.tuple RZ (ai h aq b) (he:=b)
def EU (B:Bl X.mg)(h:PE X e te)(c:Gl X "list":=by rfl)(b:zA [e] X.env=(fF,y1 e X.env)::zA [] X.env:=by rfl):PE X (.Call (.Name "list" p) [e] [] pos)
  (cN (λd H Q=>∃p a,d=[.ref p]/\(aU X.K H p a\/bQ X.K H p a)/\∀l,H l=bF->Q (.ref l)^upd H l^.lst a)^bq te bM):=
 pC I0 c B.list T0 (ai h aq b) (he:=b)
def zT (B:Bl X.mg)(h:PE X e te)(f:X.calm=bU:=by rfl)(g:Gl X "dict":=by rfl)(c:zA [e] X.env=(fF,y1 e X.env)::zA [] X.env:=by rfl):PE X (.Call (.Name "dict" p) [e] [] pos)
  (cN (λi H Q=>∃a d b,i=[.ref a]/\aU X.K H a d/\Pairs X.K H d b/\∀p,H p=bF->Q (.ref p)^upd H p^.dK^cg [] b)^bq te bM):=
 pC (Oj f) g B.dict VY (ai h aq c) (he:=c)
def aY(f:PE X a c)(g:PE X b d)(h:vp b:=by intro _ _;rfl):PE X (.Subscript a b pos)^bT (eP X.K) c d:=N6 HJ f g h
def fA (a:X.A.units+50<cLine):dh X (rd .Eq)^λx y H Q=>u8 x y H Q\/uI x y H Q:=(KZ a).or BG
def gc (a:X.A.units+50<cLine):dh X (rd .NotEq)^λx y H Q=>mO x y H Q\/mD x y H Q:=(Kc a).or Em
def jU{b d:Pos}(l:PE X o j)(h:PE X e te)(k:zA [e] X.env=(fF,y1 e X.env)::zA [] X.env:=by rfl)(f:y0 o "append" X.env^y1 o X.env=y1 o X.env:=by rfl)
  (i:((gA a^zA [e] X.env).all (λx=> not x.1)&&(backToKw a^y2 [] X.env).all (λx=>x.1.isSome)&&fT ([e].length+([]:List Keyword).length+(if([]:List Keyword).isEmpty then 0 else 1)<30))=bU:=by rfl)
  (g:(b.endLine==a.line)=bU:=by rfl) (c:(gA a^zA [] X.env).any (·.1)=fF:=by rfl) (m:swapsWith (.Call (.Attribute o "append" b) [e] [] a) bF d.line X.env=pure fF:=by rfl):
  PS X (.Expr (.Call (.Attribute o "append" b) [e] [] a) d)^kQ^lp X.K "list" pp j^bq te bM:=
 jy (qe Sc PySem.F.slot_list_append PySem.F.type_list_append Dg l (ai h aq k) f i g k c) m
end
section
variable {X:Cx}{N':List Str}{scope:Scope}{cl:List (Str×vb)}{C:vb}{fp:List vb}{s:ot}{H:Hp}{e a b:sH}{te ta tb:TE}{p pos:Pos}
def mS (c:PE `m a ta)(d:PE `m b tb)(f:vp b:=by intro _ _;rfl):PE `m (.Subscript a b pos)^bT (eP X.K) ta tb:=aY c d f
def Av(f:X.calm=bU)(h:qM `m c t)(g:(assignEach c (bW X N' scope cl C fp s H).env).length=n:=by rfl)(d:(assignEach c (bW X N' scope cl C fp s H).env).findIdx? (·.1)=bF:=by rfl):
  PG `m (.Tuple c k pos)^pf X.K n t:=mZ (X:=bW X N' scope cl C fp s H) f h g d
end
section
variable {G:Hp}{σ:St}{ta tb te:TE}{d:D}{ds:List D}{K:kc}
def c7(h:dI ds i=!d)(e:ag ta G σ^.lst ds)(f:ag tb G σ^.int i):ag (bT (eP K) ta tb) G σ d:=
 λM H s l Q k=>e M H s l _ λx g b j=>f M g (s.trans^b.but M) (l.same b) _ λy m c n=>by
  let{a,o,rfl,p,q}:=(j.mono^c.but M).el;let{v,r,t}:=GL q h;show .inl {a,o,i,v,A2,n.dQ,aU.of (ay p).2,r,k v m (b.trans c) t}
def bS(h:dI ds i=!d)(e:ag ta G σ^.tup ds)(f:ag tb G σ^.int i):ag (bT (eP K) ta tb) G σ d:=
 λM H s l Q k=>e M H s l _ λx g b j=>f M g (s.trans^b.but M) (l.same b) _ λy m c n=>by
  let{a,o,rfl,p,q}:=(j.mono^c.but M).fS;let{v,r,t}:=GL q h;show .inr^.inl {a,o,i,v,A2,n.dQ,bQ.of (ay p).2,r,k v m (b.trans c) t}
def jO(a:cD d1 d2=bU)(b:d1.cT<=40)(c:ag ta G σ d1)(e:ag tb G σ d2):ag (bT (λx y H Q=>u8 x y H Q\/uI x y H Q) ta tb) G σ^.bl^fT (d1=d2):=
 kb (λM H x y l f g Q k=>.inl {d1,d2,{M,f,g,a,b},k _ H `f^.bl _}) c e
def mT(a:cD d1 d2=bU)(b:d1.cT<=40)(c:ag ta G σ d1)(e:ag tb G σ d2):ag (bT (λx y H Q=>mO x y H Q\/mD x y H Q) ta tb) G σ^.bl^not^fT (d1=d2):=
 kb (λM H x y l f g Q k=>.inl {d1,d2,{M,f,g,a,b},k _ H `f^.bl _}) c e
def ED(c:ag ta G σ^.bl a)(f:ag tb G σ^.bl b):ag (bT (λx y H Q=>mO x y H Q\/mD x y H Q) ta tb) G σ^.bl^not^fT (a=b):=
 kb (λM H x y l g h Q k=>.inr (by
  rw[g.ik,h.ik];show{A2,?_};let e:fT (V.bl a=V.bl b)=fT (a=b):=by simp
  rw[e];show k _ H `f^.bl _)) c f
def jR(a:ag ta G σ^.int i)(b:ag tb G σ^.int j):ag (bT (λx y H Q=>u8 x y H Q\/uI x y H Q) ta tb) G σ^.bl^fT (i=j):=
 (jO A2 (Rk _) a b).eq Z8
def lN(a:ag ta G σ^.int i)(b:ag tb G σ^.int j):ag (bT (λx y H Q=>mO x y H Q\/mD x y H Q) ta tb) G σ^.bl^not^fT (i=j):=
 (mT A2 (Rk _) a b).eq Z8
def ef (h:ag te G σ^.lst ds):Walk (λσ H R=>kW K te σ H R\/pd K te σ H R) G σ ds:=λM H s l R k=>.inl^Eg h M H s l R k
def im (h:ag te G σ^.tup ds):Walk (λσ H R=>kW K te σ H R\/pd K te σ H R) G σ ds:=λM H s l R k=>.inr^OW h M H s l R k
def IA{E:Ends}{i:Nat}(l:av M H)(e:σ[i]?=!!.ref a)(f:H a=!.lst b)(g:b.length<se)(h:ag te `a σ d)
  (k:∀v c,ae H c->ap (but c M) v d->E.nx σ^upd c a^.lst (b++[v])):kQ (lp K "list" pp (aW i)^bq te bM) E σ H:=
 {.ref a,e,(show iZ K "list" `n H from .inl {A2,b,aU.of f}),h.at l λv c s r=>{a,b,v,A2,A2,s _ _ f,g,k v c s r}}
end
def jK(b:0<=i)(h:l[i.toNat]?=!x):dI l i=!x:=by
 have:i=((i.toNat:Nat):Int):=by omega
 rw[this];show vm h
end FL
namespace FL
open PySem L2
abbrev Dn:=List^Option D
structure aA (G:Hp)(σ:St)(δ:Dn):Prop where
 len:σ.length=δ.length
 get:∀(i:Nat) (d:D),δ[i]?=!!d->∃v,σ[i]?=!!v/\ap G v d
theorem aA.mono(h:aA G f g)(e:ae G c):aA c f g:={h.len,λi d q=>let⟨v,a,b⟩:=h.get i d q;{v,a,b.mono e}}
def aA.same(h:aA `a b c)(e:ae H a):aA (but a M) b c:=h.mono^e.but M
theorem aA.set(h:aA G b a)(i:Nat)(r:ap G v d):aA G (b.set i^!v)^a.set i^!d:=by
 show{by simp[h.len],λj e q=>?_};let g:=h.len;by_cases c:i=j
 .subst c;by_cases f:i<a.length
  .rw[Q3 f]at q
   cases q;show{v,Q3 Z4,r}
  .rw[RC^by simpa using RA f]at q;cases q
 .rw[QS c]at q⊢
  show h.get j e q
def aA.off(h:aA G b a)(i:Nat)(o:Option V):aA G (b.set i o)^a.set i bF:=by
 show{by simp[h.len],λj e q=>?_};by_cases c:i=j
 .subst c;by_cases d:i<a.length
  .rw[Q3 d]at q;cases q
  .rw[RC^by simpa using RA d]at q;cases q
 .rw[QS c]at q⊢
  show h.get j e q
def aA.weak{a:Dn}(h:aA G c b)(e:a.length=b.length)(w:∀(i:Nat) (d:D),a[i]?=!!d->b[i]?=!!d):aA G c a:=
 {h.len.trans e.symm,λi d q=>h.get i d^w i d q}
section
variable {G:Hp}{σ:St}{δ:Dn}{d:D}{b:Bool}{M:List vb}{H:Hp}{ta:TE}{tt:TT}{E:Ends}
def aI {i:Nat}(h:aA G σ δ)(e:δ[i]?=!!d):ag (aW i) G σ d:=let⟨v,a,r⟩:=h.get i d e;de a r
def D7(l:av M H)(e:aA `a σ δ)(h:ag ta `a σ d)(k:∀c a,ae H a->av M a->aA (but a M) c^δ.set i^!d->E.nx c a):dX ta (cp i) E σ H:=
 h.at l λv a s r=>k _ a s (l.same s)^(e.same s).set i r
def eZ (l:av M H)(h:ag ta `a σ d)(k:∀v a,ae H a->ap (but a M) v d->E.rt v a):ph ta E σ H:=h.at l k
def jG {c f:TS}(l:av M H)(g:aA `a σ δ)(h:bu tt `a σ b)(i:b=bU->∀a,ae H a->av M a->aA (but a M) σ δ->c E σ a)(j:b=fF->∀a,ae H a->av M a->aA (but a M) σ δ->f E σ a):nK tt c f E σ H:=
 Er l h (λe a s=>i e a s (l.same s)^g.same s)^λe a s=>j e a s (l.same s)^g.same s
end
def aA.drop(h:aA G b a)(i:Nat):aA G b^a.set i bF:=
 h.weak Z8 λj d q=>by
  by_cases c:i=j
  .subst c;by_cases e:i<a.length
   .rw[Q3 e]at q;cases q
   .rw[RC^by simpa using RA e]at q;cases q
  .rw[QS c]at q;show q
theorem nx{E:Ends}(h:E.nx a H):vv E a H:=h
def iA {G:Hp}{vs:List V}{ds:ZZ}(h:aF G vs ds)(N:ZY):aA G (L2.start N vs) (ds.map some++List.replicate (N.length-ds.length) bF):=by
 show{by simp[L2.start,h.length],λi d q=>?_};let hl:=h.length;unfold L2.start;by_cases hi:i<ds.length
 .rw[Rj (by simpa using hi),QY]at q
  cases e:ds[i]? with
  |none=>rw[e]at q;cases q
  |some d'=>
   rw[e]at q;cases q;let{v,h1,h2}:=h.get e;show{v,by rw[Rj (by simpa using(by omega:i<vs.length)),QY,h1];rfl,h2}
 .rw[Rn^by simpa using RA hi]at q
  let{h1,h2}:=QN.mp q;simp at h2
def d8(a:cW k A):A.units+50<cLine:=by have:=a.units;omega
def fm {a b:D}(d:a.sc=bU)(c:b.sc=bU):cD a b=bU/\a.cT<=40:=by
 cases a with
 |int i=>cases b<;>first|show⟨rfl,Rk _⟩|show absurd c (by simp[D.sc])
 |str i=>cases b<;>first|show⟨rfl,Rk _⟩|show absurd c (by simp[D.sc])
 |_=>show absurd d^by simp[D.sc]
def uq (K:kc):Sp:=λvs H Q _=>∃(a:vb) (ns:List Int),vs=[.ref a]/\aU K H a^ns.map V.int/\ns.length<=63/\∀H',Q (.bl bU) H'
def Om {a:List Int}(h:a.length<=63):iY (a.map V.int) bF (!500)=a.map V.int:=by
 have:=Qu (xs:=a.map V.int) 500;rw[Rm^by simp;omega]at this;show this
def OM {H:Hp}{p:vb}{ns:List Int}(N:ZY)(a:vb)(n:Nat)(hN:N.length=n+1):aA (but (upd H p^.lst^ns.map V.int) []) ((L2.start N [.ref a]).set 0 (!.ref p)) ((!(.lst^ns.map D.int))::List.replicate n bF):=by
 let h0:aA (but (upd H p^.lst^ns.map V.int) []) (L2.start N [.ref a]) (bF::List.replicate n bF):=by
  show{by simp[L2.start,hN],λi d q=>?_};let{h1,h2}:=QN.mp q;have:(bF::List.replicate n bF:Dn)=List.replicate (n+1) bF:=A2;rw[List.getElem_of_eq this]at h2;simp at h2
 let r:ap (but (upd H p^.lst^ns.map V.int) []) (.ref p)^.lst^ns.map D.int:=.lst (by rw[Pm];show aM)^aF.ints ns;show h0.set 0 r
def nV (l:List D)(k:Int):D:=if k<l.length then l.getD k.toNat .aw else .int 0
def Hq (a:List Int)(k:Nat):nV (a.map D.int) k=.int^a.getD k 0:=by
 unfold nV;by_cases h:k<a.length
 .rw[Q0^by simpa using h]
  simp[List.getD,h]
 .rw[QV^by simpa using h]
  have:a.getD k 0=0:=by simp[List.getD,RC^RA h]
  rw[this]
end FL
namespace PySem
structure oq (prog:qj)(w:pa)(i l:vb)(St:Nat->rl->Prop)(item:Nat->Option wj):Prop where
 here:∀k h,St k h->∃o vs,h.get? i=!o/\o.data=.fields vs
 keep:∀k h h',St k h->(∀o,h.get? i=!o->h'.get? i=!o)->(∀o,h.get? l=!o->h'.get? l=!o)->St k h'
 one:∀(A:om) (E:wj->ot->Prop) (k:Nat) (s:ot) (x:wj) (Q:wj->ot->Prop),St k s.heap->item k=!x->(∀h',St (k+1) h'->rl.SameBut i s.heap h'->Q x {s with heap:=h'})->gE `i A (Al^.ref i) Q E s
 over:∀(A:om) (E:wj->ot->Prop) (k:Nat) (s:ot) (Q:wj->ot->Prop),A.handled=bF->St k s.heap->item k=bF->(∀h' e,rl.ExtBut i s.heap h'->(∃o,h'.get? e=!o/\o.cls=.type "StopIteration")->E (.ref e) {s with heap:=h'})->gE `i A (Al^.ref i) Q E s
section
variable {prog:qj}{w:pa}{A:om}{E:wj->ot->Prop}{s:ot}
def Qq{Q:ZT}(b:s.heap.IsTupleIter c l i)(j:s.heap.IsTuple l a)(k:a[i]?=!x)
  (m:∀f,f.IsTupleIter c l (i+1)->rl.SameBut c s.heap f->Q x {s with heap:=f}):gE `i A (Al^.ref c) Q E s:=by
 let{o,e,n,d}:=id b;let{p,g,_,q,h}:=j;unfold Al;show QL^RO (name:=Str.ofString "__next__") b.typeIs Ti^Sg Ti b.typeIs Vj ?_ (Vc _);change gE _ _ (field (.ref c) 0>>=_) _ _ s;show QL^RN e d (x:=.ref l) A2 ?_;change gE _ _ (if(wj.ref l==wj.none)=bU then _ else _) _ _ s;rw[QV^show¬((wj.ref l==wj.none)=bU)from QW];change gE _ _ (field (.ref c) 1>>=_) _ _ s;show QL^RN e d (x:=.int i 0) A2 ?_;change gE _ _ (seqItems?^.ref l>>=_) _ _ s;show QL^R5 g h ?_;simp only[Sa,k];show QL^UQ e d Z8^QX {x,A2,QX<|m _ {_,SE _ e^UY^Tj d _,(Obj.cls_mapFields ..).trans n,?_}<|SA ..};rw[Tj d];simp[rawInt]
def N7(n:A.handled=bF)(c:s.heap.IsTupleIter d l i)(p:s.heap.IsTuple l b)(q:b[i]?=bF)
  (r:∀f e,rl.ExtBut d s.heap f->(∃o,f.get? e=!o/\o.cls=.type "StopIteration")->E (.ref e) {s with heap:=f}):gE `i A (Al^.ref d) Q E s:=by
 let{o,g,t,h}:=id c;let{u,j,_,v,k}:=p;unfold Al;show QL^RO (name:=Str.ofString "__next__") c.typeIs Ti^Sg Ti c.typeIs Vj ?_ (Vc _);change gE _ _ (field (.ref d) 0>>=_) _ _ s;show QL^RN g h (x:=.ref l) A2 ?_;change gE _ _ (if(wj.ref l==wj.none)=bU then _ else _) _ _ s;rw[QV^show¬((wj.ref l==wj.none)=bU)from QW];change gE _ _ (field (.ref d) 1>>=_) _ _ s;show QL^RN g h (x:=.int i 0) A2 ?_;change gE _ _ (seqItems?^.ref l>>=_) _ _ s;show QL^R5 j k ?_;simp only[Sa,q];show QL^UJ^QL^UQ g h Z8 ?_;change gE _ _ (newExc (.type "StopIteration") []>>=_) _ _ _;show QL ?_;simp only[newExc,newTuple];show QL^RS ?_ (by size_fits);show QL (m:=firstArgMember _ _)^VB (a:=wj.none) (by first|rfl|(simp only[firstArgMember];rfl)) ?_;show RS ?_ (by size_fits);simp only[raiseNew];show QL^wpAny_handled ?_
 first|rw[show A.in1.handled=bF from n]|rw[n]
 show QL^QX^wpAny_throw^r _ _ (((SA ..).extBut.push _).push _) {_,Ra _ A2,A2}
def wK {i l:vb}{xs:Array wj}:oq prog w i l (λk h=>h.IsTupleIter i l k/\h.IsTuple l xs/\l≠i) (λk=>xs[k]?) where
 here:=λk h q0=>by let{{o,e,_,d},_}:=q0;show{o,_,e,d}
 keep:=λk h h' q1 k1 k2=>by let{{o,e,r},{o2,e2,r2},n}:=q1;show{{o,k1 _ e,r},{o2,k2 _ e2,r2},n}
 one:=λA E k s x Q q2 hx hq=>by let{h1,h2,n}:=q2;show Qq h1 h2 hx λh' a b=>hq h' {a,h2.extBut b.extBut n,n} b
 over:=λA E k s Q hh q3 hx hq=>by let{h1,h2,n}:=q3;show N7 hh h1 h2 hx λh' e a b=>hq h' e a b
variable {z TI TO i1 i2 l1 l2:vb}{S1 S2:Nat->rl->Prop}{it1 it2:Nat->Option wj}
structure na (prog:qj)(w:pa)(S1 S2:Nat->rl->Prop)(z TI TO i1 i2 l1 l2:vb)(f0:wj)(k:Nat)(h:rl):Prop where
 zip:IsZip h z TI TO f0
 ins:IsPair h TI (.ref i1) (.ref i2)
 out:∃a b,IsPair h TO a b
 one:S1 k h
 two:S2 k h
def Ir{Q:ZT}(M:oq prog w i1 l1 S1 it1)(N:oq prog w i2 l2 S2 it2)(D:ZipApart z TI TO i1 i2 l1 l2)(Z:na prog w S1 S2 z TI TO i1 i2 l1 l2 .none k s.heap)(hx:it1 k=!x)(hy:it2 k=!y)
  (hQ:∀O,na prog w S1 S2 z TI TO i1 i2 l1 l2 (rawInt s.heap.objs.size) (k+1) O->IsPair O s.heap.objs.size x y->(∀c o,c≠z->c≠TO->c≠i1->c≠i2->s.heap.get? c=!o->O.get? c=!o)->Q (.ref s.heap.objs.size) {s with heap:=O}):
  gE `i A (Builtin.«zip.__next__» {[.ref z],[]}) (λY s'=>∃v,Y=.done^.ret v/\Q v s') E s:=by
 let{C,G,{a,b,ab},h1,h2}:=Z;change gE _ _ (field (.ref z) 2>>=_) _ _ _;show QL^RN C A2 (x:=.bool fF) A2 ?_;change gE _ _ (field (.ref z) 3>>=_) _ _ _;show QL^RN C A2 (x:=.ref TI) A2^QL^R5 G A2 ?_;change gE _ _ (gB^.ref z>>=_) _ _ _;unfold gB;show QL^QL^RN C A2 (x:=.none) A2^QX ?_;simp only[UE];show QL^UJ^QL^RN C A2 (x:=.ref TO) A2^QL^T2 C Z8 λha l m=>?_
 replace l:IsZip ha z TI TO .ellipsis:=l
 show QL ?_;simp only[Wd,List.zipIdx_nil,Va,List.forIn_nil];show QL^QL^wpAny_onRaise ?_
 change gE _ _ (Al^.ref i1>>=_) _ _ _;let ac:S1 k ha:=M.keep _ _ _ h1 (λo e=>m.extBut _ _ D.i1z e) λo e=>m.extBut _ _ D.l1z e;show QL^M.one _ _ k {s with heap:=ha} x _ ac hx λhb af u=>QX ?_
 let i:IsPair hb TO a b:=u.extBut _ _ D.TOi1^m.extBut _ _ D.TOz ab
 show QL^R5 i A2^QL^wpAny_updateSeq_pair i λhc g n=>?_
 replace g:IsPair hc TO x b:=g
 show QL^Uk^QX^QL^QL^wpAny_onRaise ?_
 change gE _ _ (Al^.ref i2>>=_) _ _ _;let aj:S2 k hc:=N.keep _ _ _ h2 (λo e=>n.extBut _ _ D.TOi2.symm^u.extBut _ _ D.i12.symm^m.extBut _ _ D.i2z e) λo e=>n.extBut _ _ D.l2TO^u.extBut _ _ D.l2i1^m.extBut _ _ D.l2z e
 show QL^N.one _ _ k {s with heap:=hc} y _ aj hy λhd am B=>QX ?_
 let j:IsPair hd TO x b:=B.extBut _ _ D.TOi2 g;show QL^R5 j A2^QL^wpAny_updateSeq_pair j λd f p=>?_
 replace f:IsPair d TO x y:=f
 show QL^Uk^QX^QX^QL^R5 f A2^QL^wpAny_newTuple ?_
 let H:d.objs.size=s.heap.objs.size:=by rw[p.1,B.1,n.1,u.1,m.1]
 let I:IsZip d z TI TO .ellipsis:=p.extBut _ _ D.TOz.symm^B.extBut _ _ D.i2z.symm^n.extBut _ _ D.TOz.symm^u.extBut _ _ D.i1z.symm l
 let J:∀c o,c≠z->c≠TO->c≠i1->c≠i2->s.heap.get? c=!o->d.get? c=!o:=λc o q T c3 c4 e=>p.extBut _ _ T^B.extBut _ _ c4^n.extBut _ _ T^u.extBut _ _ c3^m.extBut _ _ q e
 let an:S1 (k+1) d:=M.keep _ _ _ af (λo e=>p.extBut _ _ D.TOi1.symm^B.extBut _ _ D.i12^n.extBut _ _ D.TOi1.symm e) λo e=>p.extBut _ _ D.l1TO^B.extBut _ _ D.l1i2^n.extBut _ _ D.l1TO e
 let ao:S2 (k+1) d:=N.keep _ _ _ am (λo e=>p.extBut _ _ D.TOi2.symm e) λo e=>p.extBut _ _ D.l2TO e;change gE _ _ (Builtin.SmallTypes.ownedTupleHandOut (.ref z)^.ref d.objs.size>>=_) _ _ _;unfold Builtin.SmallTypes.ownedTupleHandOut;let as:IsZip (d.push {cls:=.type "tuple",data:=.seq^List.toArray [x,y]}) z TI TO .ellipsis:=QR _ I;show QL^QL^T2 as Z8 λhg r sg=>?_
 replace r:IsZip hg z TI TO^rawInt d.objs.size:=r
 show T2 r Z8 λU h si=>?_
 replace h:IsZip U z TI TO^rawInt d.objs.size:=h
 let t:∀c o,c≠z->d.get? c=!o->U.get? c=!o:=λc o q e=>si.extBut _ _ q^sg.extBut _ _ q^QR _ e
 let L:d.objs.size≠z:=Ta^Re I
 let hT:IsPair U d.objs.size x y:=si.extBut _ _ L^sg.extBut _ _ L^Ra _ A2
 rw[H]at h hT;show QX {_,A2,?_};change Q (.ref d.objs.size) _;rw[H];show hQ U {h,t _ _ D.TIz^J _ _ D.TIz D.TITO D.TIi1 D.TIi2 G,{_,_,t _ _ D.TOz f},M.keep _ _ _ an (λo e=>t _ o D.i1z e) λo e=>t _ o D.l1z e,N.keep _ _ _ ao (λo e=>t _ o D.i2z e) λo e=>t _ o D.l2z e} hT λc o q T c3 c4 e=>t c o q^J c o q T c3 c4 e
def O2(B:A.handled=bF)(t:oq prog w i1 l1 S1 it1)(D:ZipApart z TI TO i1 i2 l1 l2)(Z:na prog w S1 S2 z TI TO i1 i2 l1 l2 .none k s.heap)(C:it1 k=bF)
  (G:∀j e,(∀c o,c≠z->c≠i1->s.heap.get? c=!o->j.get? c=!o)->(∃o,j.get? e=!o/\o.cls=.type "StopIteration")->E (.ref e) {s with heap:=j}):
  gE `i A (Builtin.«zip.__next__» {[.ref z],[]}) Q E s:=by
 let{g,l,{a,b,H},I,T}:=Z;change gE _ _ (field (.ref z) 2>>=_) _ _ _;show QL^RN g A2 (x:=.bool fF) A2 ?_;change gE _ _ (field (.ref z) 3>>=_) _ _ _;show QL^RN g A2 (x:=.ref TI) A2^QL^R5 l A2 ?_;change gE _ _ (gB^.ref z>>=_) _ _ _;unfold gB;show QL^QL^RN g A2 (x:=.none) A2^QX ?_;simp only[UE];show QL^UJ^QL^RN g A2 (x:=.ref TO) A2^QL^T2 g Z8 λm d n=>?_
 replace d:IsZip m z TI TO .ellipsis:=d
 show QL ?_;simp only[Wd,List.zipIdx_nil,Va,List.forIn_nil];show QL^QL^wpAny_onRaise ?_
 change gE _ _ (Al^.ref i1>>=_) _ _ _;let p:S1 k m:=t.keep _ _ _ I (λo e=>n.extBut _ _ D.i1z e) λo e=>n.extBut _ _ D.l1z e;show QL^t.over _ _ k {s with heap:=m} _ B p C λJ e u L=>?_
 let{M,f,h}:=L;let i:IsZip J z TI TO .ellipsis:=u _ _ D.i1z.symm d;let r:e≠z:=λq=>by subst q;rw[i]at f;cases f;simp at h
 show T2 i Z8 λN _ v=>G N e (λc o y O q=>v.extBut _ _ y^u _ _ O^n.extBut _ _ y q) {M,v.extBut _ _ r f,h}
def P6{Q:Option wj->ot->Prop}(f:oq prog w i1 l1 S1 it1)(g:oq prog w i2 l2 S2 it2)(D:ZipApart z TI TO i1 i2 l1 l2)(Z:na prog w S1 S2 z TI TO i1 i2 l1 l2 .none k s.heap)(h:it1 k=!x)(i:it2 k=!y)
  (j:∀d,na prog w S1 S2 z TI TO i1 i2 l1 l2 (rawInt s.heap.objs.size) (k+1) d->IsPair d s.heap.objs.size x y->(∀c o,c≠z->c≠TO->c≠i1->c≠i2->s.heap.get? c=!o->d.get? c=!o)->Q (!.ref s.heap.objs.size) {s with heap:=d}):
  gE `i A (pyNext^.ref z) Q E s:=by
 let e:s.TypeIs (.ref z) "zip":={_,Z.zip,A2}
 unfold pyNext;show QL^VF^RO (name:=Str.ofString "__next__") e Vd^Sg Vd e F.entry_zip_next (Ir f g D Z h i λd a b c=>QX^j d a b c)^F.args_zip_next_1 _
def OZ{Q:Option wj->ot->Prop}(f:A.handled=bF)(g:oq prog w i1 l1 S1 it1)(D:ZipApart z TI TO i1 i2 l1 l2)(Z:na prog w S1 S2 z TI TO i1 i2 l1 l2 .none k s.heap)(h:it1 k=bF)
  (i:∀a,(∀c o,c≠z->c≠i1->s.heap.get? c=!o->a.get? c=!o)->Q bF {s with heap:=a}):gE `i A (pyNext^.ref z) Q E s:=by
 let d:s.TypeIs (.ref z) "zip":={_,Z.zip,A2}
 unfold pyNext;show QL^VF^RO (name:=Str.ofString "__next__") d Vd^Sg Vd d F.entry_zip_next (O2 f g D Z h λa e j ⟨o,l,m⟩=>?_)^F.args_zip_next_1 _
 show QL^wpAny_isInstance (T:="StopIteration") (b:=bU) {o,l,m} isSubtype_stop^QX^i _ j
end
abbrev ti (h:rl)(a:vb):rl:=h.push {cls:=.type "tuple_iterator",data:=.fields^List.toArray [.ref a,.int 0 0]}
abbrev uK (h:rl)(a b:vb):rl:=(ti h a).push {cls:=.type "tuple_iterator",data:=.fields^List.toArray [.ref b,.int 0 0]}
abbrev ub (h:rl)(a b:vb):rl:=(uK h a b).push {cls:=.type "tuple",data:=.seq^List.toArray [.ref h.objs.size,.ref (ti h a).objs.size]}
abbrev ul (h:rl)(a b:vb):rl:=(ub h a b).push {cls:=.type "tuple",data:=.seq^List.toArray [.none,.none]}
abbrev qt (h:rl)(a b:vb):rl:=(ul h a b).push {cls:=.type "zip",data:=.fields^List.toArray [.none,.bool fF,.bool fF,.ref (uK h a b).objs.size,.ref (ub h a b).objs.size]}
def JP (a b:vb)(c e:Array wj):Meets (Builtin.«zip.__new__» {[.type "zip",.ref a,.ref b],[]})^λ_ R s=>s.heap.IsTuple a c/\s.heap.IsTuple b e/\R (.ok^.ret^.ref (ul s.heap a b).objs.size) {s with heap:=qt s.heap a b}:=
 .of_wp λf w A R s h=>by
  let{i,g,d,j,os}:=s;let{l,m,h}:=h;let k:=sub_zip;let n:rl.IsTuple (ot.heap {i,g,d,j,os}) a c:=l;let o:rl.IsTuple (ot.heap {i.push {cls:=.type "tuple_iterator",data:=.fields^List.toArray [.ref a,.int 0 0]},g,d,j,os}) b e:=rl.IsTuple.push m _;wp_walk using UG n,UG o;show{_,A2,h}
def Ov{s:ot}{Q:ZT}(u:s.heap.IsTuple a l)(v:s.heap.IsTuple b m)
  (h:∀d n,n=s.heap.objs.size->IsZip d (n+4) (n+2) (n+3) .none->IsPair d (n+2) (.ref n)^.ref (n+1)->IsPair d (n+3) .none .none->d.IsTupleIter n a 0->d.IsTupleIter (n+1) b 0->(∀c o,s.heap.get? c=!o->d.get? c=!o)->Q (.ref (n+4)) {s with heap:=d}):
  gE (y3 e w) A (call (.type "zip") [.ref a,.ref b]) Q E s:=by
 show callType_new F.called_zip Z1 (F.typeCall_zip_2 _ _) (F.newCall_zip_2 _ _) (λf=>F.args_object_init_3 f _ _) F.entry_zip_new (JP a b l m) {u,v,?_};let g:(ti s.heap a).objs.size=s.heap.objs.size+1:=Sn ..;let i:(uK s.heap a b).objs.size=s.heap.objs.size+2:=by rw[Sn,g]
 let j:(ub s.heap a b).objs.size=s.heap.objs.size+3:=by rw[Sn,i]
 let zD:(ul s.heap a b).objs.size=s.heap.objs.size+4:=by rw[Sn,j]
 let k:(qt s.heap a b).get? (ul s.heap a b).objs.size=!_:=Ra _ A2;let p:(qt s.heap a b).get? (ub s.heap a b).objs.size=!_:=QR _^Ra _ A2
 let r:(qt s.heap a b).get? (uK s.heap a b).objs.size=!_:=QR _^QR _^Ra _ A2
 let t:(qt s.heap a b).get? (ti s.heap a).objs.size=!_:=QR _^QR _^QR _^Ra _ A2
 let x:(qt s.heap a b).get? s.heap.objs.size=!_:=QR _^QR _^QR _^QR _^Ra _ A2
 change _/\_;rw[i,j,zD]at k;rw[g,i]at r;rw[j]at p;rw[g]at t;rw[zD];show{{_,k,A2},h _ _ A2 k r p {_,x,A2,A2} {_,t,A2,A2} λc o q=>QR _^QR _^QR _^QR _^QR _ q}
end PySem
namespace L2
open PySem PySem.Spec PyProof.Rows
section
variable {X:Cx}{pins:List (vb×Obj)}{σ:St}{H:Hp}{s:ot}
def Inv.xC{j:ZX}{p:rl}(I:`e)(t:∀b∈j,jQ X pins H b)(y:s.heap.objs.size<=T)(k:∀b u,b∉j->s.heap.get? b=!u->p.get? b=!u)
  (x:bZ X.prog X.w (upd H T o) p T o):Inv X pins σ (upd H T o) {s with heap:=p,toks:=t'}:=by
 let h:H T=bF:=I.au.fresh y;let l:=I.iV y h;let a:∀b u,H b=!u->b≠T:=λb u e=>dy e h;let i:∀b u,H b=!u->b∉j:=λb u e g=>by have:=(t b g).1;rw[e]at this;cases this
 show I.step (g':=s.gens) (d':=s.drawn) (ch:=T::j) (λb g=>?_) (λb u _ _ d e _=>k b u (λz=>d^QM _ z) e) (λb u _ _ d e _=>{u.slots,k b u (λz=>d^QM _ z) e}) (λb u d e n=>?_)
  (λb u d e=>{u,k b u (λz=>d^QM _ z) e}) (λb A e=>by rw[aE^a b _ e];show e) (λb q A e=>by rw[aE^a b _ e];show e) (λb L e=>{`r,by rw[aE^a b _ e,e];simp}) (λm C=>?_) (λb u e=>?_) I.bare
 .rcases QZ.mp g with rfl|g
  .show{l.2.2.2.1,l.2.1,l.2.2.2.2.1,l.2.2.2.2.2}
  .let f:=t b g;show{f.2.2.2.1,f.2.1,f.2.2.2.2.1,f.2.2.2.2.2}
 .rw[aE λz=>d^by rw[z];show QQ];show n
 .let{B,E,G,J,r}:=C;show{B,E,G,k _ B (λz=>(t _ z).2.1 A2) J,r}
 .by_cases g:b=T
  .subst g;rw[aM]at e;cases e;show x
  .rw[aE g]at e
   show(I.au b u e).jr (λc v d q=>k c v ?_ q) (λc q=>by rw[aE^a c _ q];show q) λc A q=>by rw[aE^a c _ q];show q
   rcases d with rfl|d
   .show i _ _ e
   .show i _ _ d
def Inv.xi{g:ZX}{j:rl}(I:`e)(h:∀b∈g,jQ X pins H b)(k:∀b u,b∉g->s.heap.get? b=!u->j.get? b=!u):Inv X pins σ H {s with heap:=j,toks:=t'}:=by
 let d:∀b u,H b=!u->b∉g:=λb u e i=>by have:=(h b i).1;rw[e]at this;cases this
 show I.step (g':=s.gens) (d':=s.drawn) (ch:=g) (λb i=>?_) (λb u _ _ a e _=>k b u a e) (λb u _ _ a e _=>{u.slots,k b u a e}) (λb u a e n=>n)
  (λb u a e=>{u,k b u a e}) (λb l e=>e) (λb q l e=>e) (λb y e=>{`r,by rw[e];simp}) (λm p=>?_) (λb u e=>?_) I.bare
 .let f:=h b i;show{f.2.2.2.1,f.2.1,f.2.2.2.2.1,f.2.2.2.2.2}
 .let{o,t,w,x,r}:=p;show{o,t,w,k _ o (λz=>(h _ z).2.1 A2) x,r}
 .show(I.au b u e).jr (λc v a q=>k c v ?_ q) (λc q=>q) λc l q=>q
  rcases a with rfl|a
  .show d _ _ e
  .show d _ _ a
end
def B8 (K:kc)(a b:vb):It:=
 {λi H=>∃xs ys x y,bQ K H a xs/\bQ K H b ys/\xs[i]?=!x/\ys[i]?=!y,
  λi H v H'=>∃T x y,H T=bF/\v=.ref T/\H'=upd H T^.tup [x,y]/\∀xs ys,bQ K H a xs->bQ K H b ys->xs[i]?=!x/\ys[i]?=!y,
  λi H=>∃xs ys,bQ K H a xs/\bQ K H b ys/\xs.length<=i}
def No (z TI TO i1 i2 a b:vb)(f0:wj)(i:Nat)(h:rl):Prop:=IsZip h z TI TO f0/\IsPair h TI (.ref i1)^.ref i2/\(∃u v,IsPair h TO u v)/\h.IsTupleIter i1 a i/\h.IsTupleIter i2 b i
def OL {P:qj}{w:pa}{K:kc}{es:List sH}{kk:Nat}{tp:Pos}{z TI TO i1 i2 a b:vb}(D:ZipApart z TI TO i1 i2 a b)(D1:TI≠a)(D2:TI≠b):
  jJ P w K (.Tuple es kk tp) (B8 K a b) [z,TI,TO,i1,i2] z (λi h=>No z TI TO i1 i2 a b .none i h) where
 mem:=by simp
 obj:=λi h q0 q hq=>by
  let{hz,hTI,{u,v,hTO},{o1,e1,_,d1},{o2,e2,_,d2}}:=q0;simp only[QZ,Rt,RH]at hq;rcases hq with rfl|rfl|rfl|rfl|rfl
  .show{_,hz,λv z=>nomatch z}
  .show{_,hTI,λv z=>nomatch z}
  .show{_,hTO,λv z=>nomatch z}
  .show{_,e1,λv z=>by rw[d1]at z;cases z}
  .show{_,e2,λv z=>by rw[d2]at z;cases z}
 keep:=λi h h' q3 k=>by let{hz,hTI,{u,v,hTO},{o1,e1,r1},{o2,e2,r2}}:=q3;show{k _ Z8 _ hz,k _ Z8 _ hTI,{u,v,k _ Z8 _ hTO},{o1,k _ Z8 _ e1,r1},{o2,k _ Z8 _ e2,r2}}
 item:=by
  intro X hP hw hK hc i pins s σ H E I hf st hg;subst hP hw hK;let{xs,ys,x,y,hq1,hq2,hx,hy}:=hg;let{its,rv,p1,hz1}:=I.tuple hq1;let{its2,rv2,p2,hz2}:=I.tuple hq2;let{u,hu,ru}:=rv.get hx;let{v,hv,rv'}:=rv2.get hy;let{hz,hTI,hTO,h1,h2}:=st;let Z:na X.prog X.w (λk h=>h.IsTupleIter i1 a k/\h.IsTuple a its.toArray/\a≠i1) (λk h=>h.IsTupleIter i2 b k/\h.IsTuple b its2.toArray/\b≠i2) z TI TO i1 i2 a b .none i s.heap:={hz,hTI,hTO,{h1,p1,D.l1i1},{h2,p2,D.l2i2}}
  show P6 wK wK D Z (x:=u) (y:=v) (by simpa using hu) (by simpa using hv) λh' Z' hT kp=>?_;show{_,A2,?_};show wpAny_letOwnedTupleGo_zip (s:={s with heap:=h'}) Z'.zip λh2' hz2' sb=>?_;let hTz:s.heap.objs.size≠z:=Ta^Re hz
  let hT2:IsPair h2' s.heap.objs.size u v:=(sb.2 _ hTz).trans hT;let kp2:∀c o,c∉[z,TI,TO,i1,i2]->s.heap.get? c=!o->h2'.get? c=!o:=λc o hc e=>(sb.2 c λq=>hc^by simp[q]).trans^kp c o (λq=>hc^by simp[q]) (λq=>hc^by simp[q]) (λq=>hc^by simp[q]) (λq=>hc^by simp[q]) e
  let hTn:H s.heap.objs.size=bF:=I.au.fresh^QU _
  show{.ref s.heap.objs.size,upd H s.heap.objs.size^.tup [x,y],I.xC (t':=s.toks) hf (QU _) kp2 {by change 2<=se;decide,[u,v],.cons ru^.cons rv' .nil,{_,hT2,A2,_,A2}},A2,{_,x,y,hTn,A2,A2,λxs' ys' q1 q2=>?_},?_,λb' hb=>?_}
  .rw[I.zw q1 hq1,I.zw q2 hq2];show{hx,hy}
  .let{u',v',hTO'}:=Z'.out;let ii1:=Z'.one.1;let ii2:=Z'.two.1;show{hz2',(sb.2 _ D.TIz).trans Z'.ins,{u',v',(sb.2 _ D.TOz).trans hTO'},ii1.extBut sb.extBut D.i1z,ii2.extBut sb.extBut D.i2z}
  .obtain ⟨ob,e,_⟩:∃ob,s.heap.get? b'=!ob/\True:=by
    simp only[QZ,Rt,RH]at hb;let{u',v',hTO'}:=hTO;let{o1,e1,_}:=h1;let{o2,e2,_}:=h2;rcases hb with rfl|rfl|rfl|rfl|rfl
    .show{_,hz,trivial}
    .show{_,hTI,trivial}
    .show{_,hTO',trivial}
    .show{_,e1,trivial}
    .show{_,e2,trivial}
   rw[aE^Rp^Re e];show(hf b' hb).1
 done:=by
  intro X hP hw hK hc i pins s σ H E I hf st hg;subst hP hw hK;let{xs,ys,hq1,hq2,hx}:=hg;let{its,rv,p1,hz1}:=I.tuple hq1;let{its2,rv2,p2,hz2}:=I.tuple hq2;let{hz,hTI,hTO,h1,h2}:=st;let Z:na X.prog X.w (λk h=>h.IsTupleIter i1 a k/\h.IsTuple a its.toArray/\a≠i1) (λk h=>h.IsTupleIter i2 b k/\h.IsTuple b its2.toArray/\b≠i2) z TI TO i1 i2 a b .none i s.heap:={hz,hTI,hTO,{h1,p1,D.l1i1},{h2,p2,D.l2i2}}
  let hl:=rv.length;show OZ (I.ok.hd hc) wK D Z (by simp;omega) λh' kp=>{A2,I.xi (t':=s.toks) hf λc o hcc e=>kp c o (λq=>hcc^by simp[q]) (λq=>hcc^by simp[q]) e}
 self:=λA i s Q E st h=>wpAny_pyIter_zip st.1 h
section
variable {X:Cx}
def Bt (K:kc)(t:TA):TI:=λσ H R=>t σ H λvs H1=>∃a b,vs=[.ref a,.ref b]/\(∃xs,bQ K H1 a xs)/\(∃ys,bQ K H1 b ys)/\R (B8 K a b) H1
def IT(M:X.mg "zip"=bF)(j:PA X [a,b] t)(N:Gl X "zip":=by rfl)(O:zA [a,b] X.env=[(fF,y1 a X.env),(fF,y1 b X.env)]:=by rfl)(f:zA [b] X.env=[(fF,y1 b X.env)]:=by rfl):
  PI X (.Tuple G J L) (.Call (.Name "zip" p) [a,b] [] e)^Bt X.K t:=by
 intro d s v H R I h;show Call_^jH I N M PyProof.Rows.boot_zip^RX (aQ (j e d s v H _ I h) λus k ⟨vs,w,g,Q,T⟩=>?_) (by rw[O,f]) (by rw[f];rfl)
 let{a,b,rfl,{xs,l},{ys,m},q}:=T;let{u1,u2,rfl,o,r}:=bn.two Q;cases o;cases r;let{U,rv,x,Y}:=g.tuple l;let{y,ab,z,ac}:=g.tuple m;show Ov x z λA n u B g2 g3 g4 g5 kp=>?_;let j:a<n:=by rw[u];show x.lt
 let C:b<n:=by rw[u];show z.lt
 let I2:Inv X d v w {k with heap:=A}:=g.kept (t':=k.toks) kp;let D:ZipApart (n+4) (n+2) (n+3) n (n+1) a b:=zipApart_new j C;show wpAny_pyIter_zip (s:={k with heap:=A}) B ?_;show{n+4,[n+4,n+2,n+3,n,n+1],_,_,w,A2,I2,OL D (Ta^Rx j^RL _ _)^Ta^Rx C^RL _ _,{B,g2,{_,_,g3},g4,g5},λc E=>?_,q};let i:k.heap.objs.size<=c:=by
  simp only[QZ,Rt,RH]at E;rw[<-u];rcases E with rfl|rfl|rfl|rfl|rfl
  .show RL _ _
  .show RL _ _
  .show RL _ _
  .show QU _
  .show RL _ _
 show g.iV i^g.au.fresh i
end
end L2
namespace FL
open PySem L2
def mE (xs ys:List D):List D:=List.zipWith (λx y=>.tup [x,y]) xs ys
def NN{g i:ZZ}{K:kc}(U:g.length=i.length)(h:dF t G E [.tup g,.tup i]):Walk (Bt K t) G E^mE g i:=λM H s l R k=>h M H s l _ λvs Y s1 rs=>by
 let{v1,v2,rfl,r1,r2}:=pT rs;let{a,m,rfl,r,I}:=r1.fS;let{b,n,rfl,z,h4}:=r2.fS;show{a,b,A2,{m,bQ.of (ay r).2},{n,bQ.of (ay z).2},k _ Y s1 (λj d M' H' c f A=>?_) λM' H' f=>?_}
 .let o:=(ay^f _ _ r).2;let p:=(ay^f _ _ z).2;unfold mE at c;rw[UZ]at c;cases q:g[j]? with
  |none=>rw[q]at c;cases c
  |some x=>
   cases B:i[j]? with
   |none=>rw[q,B]at c;cases c
   |some y=>
    rw[q,B]at c;cases c;let{u,J,ru}:=I.get q;let{w,L,C}:=h4.get B;show{{m,n,u,w,bQ.of o,bQ.of p,J,L},λv ab q0=>?_};let{T,x',y',N,e,eH,hy}:=q0;let{O,Q}:=hy m n (bQ.of o)^bQ.of p
    rw[J]at O;rw[L]at Q;cases O;cases Q;subst e eH;show{c9 N _,?_};show qE A N^.cons (ru.mono f)^.cons (C.mono f) .nil
 .let o:=(ay^f _ _ r).2;let p:=(ay^f _ _ z).2;show{m,n,bQ.of o,bQ.of p,?_};rw[I.length];simp[mE,U]
end FL
namespace L2
open PySem PySem.Spec PyProof.Rows
def D5 (K:kc)(a:vb):It:=
 {λi H=>∃xs x,aU K H a xs/\xs[i]?=!x,
  λi H v H'=>∃T x,H T=bF/\v=.ref T/\H'=upd H T^.tup [.int i,x]/\∀xs,aU K H a xs->xs[i]?=!x,
  λi H=>∃xs,aU K H a xs/\xs.length<=i}
def LG {P:qj}{w:pa}{K:kc}{es:List sH}{kk:Nat}{tp:Pos}{e it a:vb}(hne:e≠it):
  jJ P w K (.Tuple es kk tp) (D5 K a) [e,it] e (λi h=>(∃old,IsEnum h e it ((i:Nat):Int) old)/\h.IsListIter it a i) where
 mem:=by simp
 obj:=λi h q0 q hq=>by
  let{{old,he},{o1,e1,_,d1}}:=q0;simp only[QZ,Rt,RH]at hq;rcases hq with rfl|rfl
  .show{_,he,λv z=>nomatch z}
  .show{_,e1,λv z=>by rw[d1]at z;cases z}
 keep:=λi h h' q1 k=>by let{{old,he},{o1,e1,r1}}:=q1;show{{old,k _ Z8 _ he},{o1,k _ Z8 _ e1,r1}}
 item:=by
  intro X hP hw hK hc i pins s σ H E I hf st hg;subst hP hw hK;let{xs,x,hq,hx}:=hg;let{its,rv,p,hz}:=I.list hq;let{u,hu,ru}:=rv.get hx;let{{old,he},hit}:=st;show wpAny_pyNext_enum_item he hit p.isList (x:=u) (by simpa using hu) hne λh' heo hit' hT hzz kp=>?_;show{_,A2,?_};show Vp (s:={s with heap:=h',toks:=s.toks+1}) heo λh2' he2 sb=>?_;let hTe:s.heap.objs.size≠e:=Ta^Re he
  let hT2:h2'.get? s.heap.objs.size=!{cls:=.type "tuple",data:=.seq^List.toArray [.int i s.toks,u]}:=(sb.2 _ hTe).trans hT;let kp2:∀c o,c∉[e,it]->s.heap.get? c=!o->h2'.get? c=!o:=λc o hc e'=>(sb.2 c λq=>hc^by simp[q]).trans^kp c o (λq=>hc^by simp[q]) (λq=>hc^by simp[q]) e'
  let hTn:H s.heap.objs.size=bF:=I.au.fresh^QU _
  show⟨.ref s.heap.objs.size,upd H s.heap.objs.size^.tup [.int i,x],I.xC (t':=s.toks+1) hf (QU _) kp2 {by change 2<=se;decide,[.int i s.toks,u],.cons {_,A2}^.cons ru .nil,{_,hT2,A2,_,A2}},A2,{_,x,hTn,A2,A2,λys hy=>by rw[I.vR hy hq];show hx},{{u,he2},hit'.extBut sb.extBut^RG hne},λb' hb=>?_⟩;obtain ⟨ob,e',_⟩:∃ob,s.heap.get? b'=!ob/\True:=by
   simp only[QZ,Rt,RH]at hb;let{o1,e1,_}:=hit;rcases hb with rfl|rfl
   .show{_,he,trivial}
   .show{_,e1,trivial}
  rw[aE^Rp^Re e'];show(hf b' hb).1
 done:=by
  intro X hP hw hK hc i pins s σ H E I hf st hg;subst hP hw hK;let{xs,hq,hx}:=hg;let{its,rv,p,hz}:=I.list hq;let{{old,he},hit}:=st;let hl:=rv.length;show wpAny_pyNext_enum_end (I.ok.hd hc) he hit p.isList (by simp;omega) λh' eb=>{A2,I.xi (t':=s.toks) hf λc o hcc e=>eb c o (λq=>hcc^by simp[q]) e}
 self:=λA i s Q E st h=>let⟨{_,he},_⟩:=st;UR he h
def Di (K:kc)(a:vb)(n:Nat):It:=
 {λi H=>i<n/\∃xs x,aU K H a xs/\xs.length=n/\xs[n-1-i]?=!x,λi H x H'=>H'=H/\∀xs,aU K H a xs->xs[n-1-i]?=!x,λi H=>n<=i}
def NL {P:qj}{w:pa}{K:kc}{tg:sH}(a it:vb)(n:Nat):jJ P w K tg (Di K a n) [it] it (λi h=>i<=n/\h.IsRevIter it a ((n:Int)-1-(i:Int))) where
 mem:=by simp
 obj:=λi h st b hb=>by
  let e:b=it:=by simpa using hb
  subst e;let{_,o,e,c,d}:=st;show{o,e,λv z=>by rw[d]at z;cases z}
 keep:=λi h h' st k=>{st.1,st.2.at λo e=>k it Z8 o e}
 item:=by
  intro X hP hw hK hc i pins s σ H E I hf st hg;subst hP hw hK;let{hin,xs,x,hq,hn,hx}:=hg;let{its,rv,p,hz}:=I.list hq;let{u,hu,ru}:=rv.get hx;let{f0,f1,f2,f3,f4,f5}:=hf it Z8;let e1:(n:Int)-1-(i:Int)=((n-1-i:Nat):Int):=by omega
  let hit:=st.2;rw[e1]at hit;show wpAny_pyNext_rev_item hit p.isList (x:=u) (by simpa using hu) λh' st' sb=>?_;let I1:Inv X pins σ H {s with heap:=h'}:=I.turned (t':=s.toks) (λb o hb e=>(sb.2 b hb).trans e) f0 f1 f3 f4 f5;let e2:((n-1-i:Nat):Int)-1=(n:Int)-1-((i+1:Nat):Int):=by omega
  rw[e2]at st';let{o,e,c,d}:=id st';show{u,A2,pB (s:={s with heap:=h'}) e c d Z1 {x,H,I1,ru,{A2,λys hy=>by rw[I.vR hy hq];show hx},{hin,st'},λb hb=>(hf b hb).1}}
 done:=by
  intro X hP hw hK hc i pins s σ H E I hf st hg;subst hP hw hK;let{f0,f1,f2,f3,f4,f5}:=hf it Z8;let hg:n<=i:=hg;let e:(n:Int)-1-(i:Int)=-1:=by have:=st.1;omega
  let hit:=st.2;rw[e]at hit;show wpAny_pyNext_rev_end (I.ok.hd hc) hit λh' eb=>`p
 self:=λ_ _ _ _ _ st h=>wpAny_pyIter_revIter st.2 h
section
variable {X:Cx}
def Cc (K:kc)(t:TA):TI:=λσ H R=>t σ H λvs H1=>∃a,vs=[.ref a]/\(∃xs,aU K H1 a xs)/\R (D5 K a) H1
def Cu{a:sH}(w:X.mg "enumerate"=bF)(x:PA X [a] t)(y:Gl X "enumerate":=by rfl)(z:zA [a] X.env=[(fF,y1 a X.env)]:=by rfl)(f:zA [] X.env=[]:=by rfl):
  PI X (.Tuple r u v) (.Call (.Name "enumerate" p) [a] [] e)^Cc X.K t:=by
 intro b s k H R I h;show Call_^jH I y w Vk^RX (aQ (x e b s k H _ I h) λO d ⟨Q,l,i,A,B⟩=>?_) (by rw[z,f]) (by rw[f];rfl)
 let{a,rfl,{T,C},q}:=B;let{U,rfl,j}:=bn.one A;cases j;let{E,Y,G,J}:=i.list C;show call_enumerate_list G.isList λm n L hz M=>?_;let N:Inv X b k l {d with heap:=m}:=i.kept (t':=d.toks) M;show UR (s:={d with heap:=m}) n ?_;show{d.heap.objs.size+1,[d.heap.objs.size+1,d.heap.objs.size],_,_,l,A2,N,LG^Nat.succ_ne_self _,{{_,n},L},λc o=>?_,q};let g:d.heap.objs.size<=c:=by
  simp only[QZ,Rt,RH]at o;rcases o with rfl|rfl
  .show RL _ _
  .show QU _
 show i.iV g^i.au.fresh g
def Cp (K:kc)(t:TA):TI:=λσ H R=>t σ H λvs H1=>∃a xs,vs=[.ref a]/\aU K H1 a xs/\R (Di K a xs.length) H1
def OF{a:sH}(v:X.mg "reversed"=bF)(w:PA X [a] t)(x:Gl X "reversed":=by rfl)(y:zA [a] X.env=[(fF,y1 a X.env)]:=by rfl)(j:zA [] X.env=[]:=by rfl):
  PI X u (.Call (.Name "reversed" p) [a] [] i)^Cp X.K t:=by
 intro f s n H R I h;show Call_^jH I x v PyProof.Rows.boot_reversed^RX (aQ (w i f s n H _ I h) λM c ⟨N,r,k,z,A⟩=>?_) (by rw[y,j]) (by rw[j];rfl)
 let{a,l,rfl,B,q}:=A;let{O,rfl,m}:=bn.one z;cases m;let{d,C,E,G}:=k.list B;let Q:=C.length;show call_reversed_list E.isList ?_;let J:Inv X f n r {c with heap:=c.heap.push (revObj a<|(d.toArray.size:Int)-1)}:=k.kept (t':=c.toks) λb o e=>QR _ e;let g:(c.heap.push<|revObj a<|(d.toArray.size:Int)-1).IsRevIter c.heap.objs.size a ((l.length:Int)-1-((0:Nat):Int)):=by
  show{_,Ra _ A2,A2,?_};have:((d.toArray.size:Nat):Int)-1=(l.length:Int)-1-((0:Nat):Int):=by simp;omega
  rw[<-this];rfl
 show wpAny_pyIter_revIter (s:={c with heap:=c.heap.push (revObj a<|(d.toArray.size:Int)-1)}) g ?_;show{c.heap.objs.size,[c.heap.objs.size],_,_,r,A2,J,NL a _ l.length,{Rk _,g},λb L=>?_,q};let e:b=c.heap.objs.size:=by simpa using L
 subst e;show k.iV (QU _)^k.au.fresh^QU _
end
end L2
namespace FL
open PySem L2
def My{K:kc}(h:dF t G n [.lst e]):Walk (Cp K t) G n e.reverse:=λM H s l R k=>h M H s l _ λO w x y=>by
 let{Q,rfl,z}:=jM y;let{a,c,rfl,o,f}:=z.el;show{a,c,A2,aU.of (ay o).2,k _ w x (λj d A B g i C=>?_) λA B i=>?_}
 .let p:=(ay^i _ _ o).2;let b:=f.length;let m:j<e.length:=by have:=(QN.mp g).1;simpa using this
  rw[List.getElem?_reverse m,<-b]at g;let{u,q,E}:=f.get g;show{{by omega,c,u,aU.of p,A2,q},λv I J=>?_};let{L,N}:=J;let r:=N c^aU.of p
  rw[q]at r;cases r;subst L;show{ae.refl _,E.mono i}
 .change c.length<=_;rw[f.length,Vh];show QU _
end FL
namespace PySem
section
variable {prog:qj}{w:pa}{K:Type} [DecidableEq K] {knd:HeapKind prog w K}{A:om}{E:wj->ot->Prop}{s:ot}
def Jr{dflt:wj}{Q:ZT}(u:knd.room A)(c:knd.is s.heap k a)(C:s.heap.DictOfH knd d h)
  (G:∀v,(atKey h k).map (·.2)=!v->Q v {s with toks:=s.toks+knd.draws k})
  (H:(atKey h k).map (·.2)=bF->∀r,r.DictOfH knd d^storedH h k a dflt->rl.SameBut d s.heap r->Q dflt {s with heap:=r,toks:=s.toks+knd.draws k})
  (hsz:h.length<=se:=by size_fits):gE `i A (dictSetDefault d `n dflt) Q E s:=by
 let{o,L,I,i,J,g,q,l,t}:=C;unfold dictSetDefault
 try with_reducible show So ?_
 show QL^knd.pyHash u c ?_
 show QL^wpAny_dictFind_heap (s:={s with toks:=s.toks+knd.draws k}) u c i g q l t ?_ ?_
 .intro m;let n:k∉h.map (·.1):=not_mem_keys_of_get m;let b:=atKey_none_of_get m;show QL^UJ^QL^wpAny_updateDictKeys (hz:=by let e:=size_of_entries q;omega) (s:={s with toks:=s.toks+knd.draws k}) i g^QX (H (by rw[b];rfl) _ {_,_,I+1,SE _ i^Obj.isFreed_of_dict^Obj.data_mapDictKeys g _,
   J.mapDictKeys _,Obj.data_mapDictKeys g _,?_,?_,?_}<|SA ..)
  .rw[storedH_new b]
   simp[q,entryOfKey]
  .rw[storedH_new b]
   intro x f;rcases Rc.mp f with f|f
   .show knd.keeps (l x f) i g<|SA ..
   .simp only[Rg]at f;subst f;show knd.keeps c i g<|SA ..
  .rw[storedH_new b]
   rw[Rl,T3];show{t,by simp,?_};intro x f y z;simp only[RB,TU,Rg]at z;subst z;show λe=>n<|e▸f
 .intro j p B;show QL^Ug (s:={s with toks:=s.toks+knd.draws k}) i g ?_
  rw[entry_at q j,B];show QL^UJ^QX^G _ (by rw[atKey_of_get t B];rfl)
def Dl (knd:HeapKind prog w K)(d a:vb)(i:(d==uU)=fF)(dflt:wj):
  MeetsIn prog w (Builtin.«dict.setdefault» {[.ref d,.ref a,dflt],[]}) (λA R s=>knd.room A.in1/\∃k b,knd.is s.heap k a/\s.heap.DictOfH knd d b/\b.length<=se/\
   (∀v,(atKey b k).map (·.2)=!v->R (.ok^.ret v) {s with toks:=s.toks+knd.draws k})/\
   ((atKey b k).map (·.2)=bF->∀c,c.DictOfH knd d^storedH b k a dflt->rl.SameBut d s.heap c->R (.ok^.ret dflt) {s with heap:=c,toks:=s.toks+knd.draws k})):=
 .of_wp λA R s j=>by
  let{l,k,b,e,h,m,n,o}:=j;unfold Builtin.«dict.setdefault»;show QL ?_;unfold Builtin.Dict.keyAndDefault;show QL^UX h.typeIs ?_;change gE _ _ (pure (d,wj.ref a,!dflt)) _ _ s;show QX ?_;change gE _ _ (if(d==uU)=bU then _ else(dictSetDefault d `n dflt>>=_)) _ _ s;rw[QV^by rw[i];show QW];show QL^Jr (hsz:=m) l e h (λv p=>QX {v,A2,n v p}) λq c f g=>QX {dflt,A2,o q c f g}
end
end PySem
namespace L2
open PySem PySem.Spec PyProof.Rows
def Fh (H:Hp)(a:vb)(y z r:V)(H':Hp):Prop:=(dg H a y^!r/\H'=H/\∃o,H a=!o)\/(dg H a y bF/\r=z/\gK H a y z H')
section
variable {X:Cx}{pins:List (vb×Obj)}{σ:St}{H:Hp}{s:ot}{a:vb}{y z v:V}{u r:wj}{A:om}{E:wj->ot->Prop}
def NQ{Q:ZT}(hu:A.units+1<cLine)(I:`e)(g:Fh H a y z v H')(ry:RelV y u)(rz:RelV z r)(h:∀w' s',Inv X pins σ H' s'->RelV v w'->Q w' s'):
  gE `d A (call (.builtin "dict.setdefault") [.ref a,u,r]) Q E s:=by
 rcases g with⟨g,rfl,ho⟩|⟨g,rfl,p⟩
 .rcases g with⟨f,k,e,J,l⟩|⟨f,k,b,e,J,T,l⟩
  .subst J;let{L,x,U,bK,m}:=jg I.au e;let{w',Y,M}:=e9.some_of (v:=v) (o:=valueAt U k) (by rw[l];show bK.val k);show TX Sq m.typeIs SQ (SK _ _ _) (kt_meets_setdefault (dm X.prog X.w) a (kJ ry) x r) {U,m,by rw[<-bK.length];show L,λv' d=>?_,λB=>by rw[Y]at B;cases B};rw[Y]at d;cases d;show h _ _ (I.tok _) M
  .subst J;cases(show u=wj.ref b from ry);let{L,x,O,bK,m}:=mj I.au e;let{w',Y,M}:=e9.some_of (v:=v) (o:=(atKey O k).map (·.2)) (by rw[l];show bK.val k);show TX Sq m.typeIs SQ (SK _ _ _) (Dl (tupleKind^dm X.prog X.w) a b x r) {SJ hu,k,O,mM I.au T,m,by rw[<-Tf bK];show L,λv' d=>?_,λB=>by rw[Y]at B;cases B};rw[Y]at d;cases d;show h _ _ (I.tok _) M
 .rcases p with⟨f,k,e,J,l,eH⟩|⟨f,k,b,e,J,T,l,eH⟩
  .subst J eH;let{L,x,U,bK,m}:=wP I.au e;let hg:bD f k=bF:=by
    rcases g with⟨n,C,i,j,l'⟩|⟨n,C,b',i,j,N,l'⟩
    .let e1:kV k=kV C:=j;have:k=C:=by
      cases k<;>cases C<;>simp[kV]at e1<;>rw[e1]
     subst this;rcases i with i|i
     .rw[e]at i;cases i;show l'.symm
     .rw[e]at i;simp at i
    .cases k<;>cases j
   let B:valueAt U k=bF:=e9.none_of (by rw[<-hg];show bK.val k);let hl:(cr f k v).length<=se:=by have:=oI f k v;omega
   show TX Sq m.typeIs SQ (SK _ _ _) (kt_meets_setdefault (dm X.prog X.w) a (kJ ry) x r) {U,m,by rw[<-bK.length];show L,λv' d=>(by rw[B]at d;cases d),λ_ h' G hs=>h _ _ ?_ rz};let he:∃q,h'.get? a=!q:=let⟨q,_,_,hq,_⟩:=G;{q,hq};show rN I (by rw[e];show True.intro) hs he^qW hl x (bK.put k rz) G
  .subst J eH;cases(show u=wj.ref b from ry);let{L,x,O,bK,m}:=Ds I.au e;let hg:bD f k=bF:=by
    rcases g with⟨n,C,i,j,l'⟩|⟨n,C,b',i,j,N,l'⟩
    .cases C<;>cases j
    .cases j;rw[T]at N;let e1:k.map kV=C.map kV:=by injection N with e2;injection e2
     let ab:∀(p q:List aH),p.map kV=q.map kV->p=q:=by
      intro p;induction p with
      |nil=>intro q h;cases q<;>first|rfl|cases h
      |cons c t ih=>
       intro q h;cases q with
       |nil=>cases h
       |cons c' t'=>
        let{h1,h2}:=Tx h;have:c=c':=by cases c<;>cases c'<;>simp[kV]at h1<;>rw[h1]
        rw[this,ih t' h2]
     have:k=C:=ab _ _ e1;subst this;rcases i with i|i
     .rw[e]at i;cases i;show l'.symm
     .rw[e]at i;simp at i
   let B:(atKey O k).map (·.2)=bF:=e9.none_of (by rw[<-hg];show bK.val k);let hz:O.length<=se:=by rw[<-Tf bK];show L
   let hl:(cr f k v).length<=se:=by have:=oI f k v;omega
   show TX Sq m.typeIs SQ (SK _ _ _) (Dl (tupleKind^dm X.prog X.w) a b x r) {SJ hu,k,O,mM I.au T,m,hz,λv' d=>(by rw[B]at d;cases d),λ_ h' G hs=>h _ _ ?_ rz};let{q,es,ep,hq,h2,h3,h4,_,h5}:=G;show rN I (by rw[e];show True.intro) hs {q,hq} {hl,x,_,(bK.put k T rz).keeps λc ys ec=>?_,q,es,ep,hq,h2,h3,h4,h5};rw[aE^Fx ec e λz=>nomatch z];show ec
end
def zh (td ty tx:TE):TE:=λσ H Q=>td σ H λx H1=>∃a,x=.ref a/\ua H1 a/\ty σ H1 λy H2=>tx σ H2 λz H3=>∃r H4,Fh H3 a y z r H4/\Q r H4
def AA{X:Cx}(t:X.A.units+1<cLine)(v:PE X o l)(w:PE X e n)(B:PE X f p)(m:M2 X o "setdefault" c e f i):PE X (.Call (.Attribute o "setdefault" c) [e,f] [] i)^zh l n p:=by
 intro b s j H Q I h;show wpAny_Call_method m.base m.dz m.line UN Sq PySem.F.type_dict_setdefault^aQ (v b s j H _ I h) λu C E=>?_
 let{x,G,q,J,a,L,d,M}:=E;subst L;obtain rfl:u=wj.ref a:=J;let{N,O,_}:=zv q d;show{N,O,?_};rw[m.trees];show Tb A2^Uj^TQ (aQ (w b C j G _ q M) λiv T ⟨y,U,Y,ry,q2⟩=>
  TQ^aQ (B b T j U _ Y q2) λfv s3 ⟨z,H3,I3,rz,r,H4,g,q3⟩=>VA ?_)
 show NQ t I3 g ry rz λw' s4 I4 k=>{r,H4,I4,k,q3}
end L2
namespace FL
open PySem L2
def bI (R:List D->D->Prop):Sp:=λvs H Q _=>∃M ds d,av M H/\aF `a vs ds/\R ds d/\∀v H',ae H H'->ap (but H' M) v d->Q v H'
def bR{R:ZZ->D->Prop}(c:R ds d)(h:dF t G a ds):ag (ja (bI R) [] E t) G a d:=
 λM H s l Q k=>h M H s l _ λj m b e=>{M,ds,d,l.same b,by rw[Ro];show e,c,λv f g i=>k v f (b.trans g) i}
def eF{R:ZZ->D->Prop}(c:∀a d,R a d->a.length=n):∀b H Q E,bI R b H Q E->b.length=n:=λb H Q E f=>by let{M,a,d,l,r,e,k}:=f;rw[r.length];show c a d e
def iq:dI (h::r) 0=!h:=jK Z1 A2
def hZ (d:D):Bool:=ET d&& not^CJ d
def FF (d:D):Bool:=tR d||hZ d
def sY:List D->D->Prop:=λds d=>∃l k,ds=[.lst l,.int k]/\0<=k/\d=nV l k
def qd:List D->D->Prop:=λds d=>∃x,ds=[x]/\d=.bl^hZ x
def oH (ns:List Int):List Int:=(List.range ns.length).map λ(k:Nat)=>(ns.getD k 0+7919*(k:Int))*48271%1000003
def CH:List D->D->Prop:=λds d=>∃ns:List Int,ds=[.lst^ns.map D.int]/\ns.length<=63/\d=.lst^(oH ns).map D.int
def Im (a:List Int):(oH a).length=a.length:=by simp[oH]
def lE (a:List Int)(k:Nat):sY [.lst^a.map D.int,.int (k:Int)]^.int^a.getD k 0:={_,_,A2,by omega,(Hq a k).symm}
def OX {d:D}(h:d.sc=bU):FF d=bU:=by
 cases d with
 |int i=>rfl
 |str i=>rfl
 |_=>show absurd h^by simp[D.sc]
def fY{l:ZZ}(x:Int)(c:0<n)(e:l.length=n):∃d,dI l (x%(n:Int))=!d/\d∈l/\d=l.getD (x%(n:Int)).toNat .aw:=by
 let b:=Ve x (show(n:Int)≠0 by omega);let f:=Int.emod_lt_of_pos x (show(0:Int)<n by omega);let a:(x%(n:Int)).toNat<l.length:=by omega
 show{l[(x%(n:Int)).toNat],jK b^QO a,Sr a,?_};simp[List.getD,QO a]
section
variable {σ:St}{δ:Dn}{d:D}{M:List vb}{H:Hp}{ta te:TE}{t:TA}{E:Ends}{ds:List D}{K:kc}
def gk(l:av M H)(c:aA `a σ δ)(h:ag ta `a σ d)(k:∀a b,(∀j:Nat,j≠i->a[j]?=σ[j]?)->ae H b->av M b->aA (but b M) a^δ.set i^!d->E.nx a b):dX ta (cp i) E σ H:=
 h.at l λv b s r=>k _ b (λj e=>QS^RG e) s (l.same s)^(c.same s).set i r
def pS(l:av M H)(r:aA `a σ δ)(B:i<δ.length)(h:dF t `a σ ds)(x:ds.length<=se)
  (k:∀p g c f,(∀j:Nat,j≠i->c[j]?=σ[j]?)->c[i]?=!!.ref p->p∉M->f p=!.lst g->aF (but f (p::M)) g ds->av (p::M) f->(∀b o,H b=!o->b≠p/\f b=!o)->aA (but f (p::M)) c^δ.set i bF->E.nx c f):dX (ma t) (cp i) E σ H:=
 h M H `f l _ λg y m s=>⟨by rw[s.length];show x,λp n=>by
  let C:=r.len;show k p g _ _ (λj z=>QS^RG z) (Q3 Z4) ((l.same m).fresh n) aM (ui n s) ((l.same m).upd.cons aM) (λb o e=>?_) ?_
  .let u:=m b o e;let w:b≠p:=dy u n;show{w,by rw[aE w];show u}
  .let A:aA (but (upd y p^.lst g) (p::M)) σ δ:={r.len,λj d q=>let⟨v,a,b⟩:=(r.same m).get j d q;{v,a,vB n b}}
   show A.off i _⟩
def JO{k:Nat}(l:av M H)(m:aA `a σ δ)(z:i<δ.length)(e:σ[k]?=!!.ref a)(u:H a=!.lst f)(r:aF `a f ds)
  (q:∀p c g,(∀j:Nat,j≠i->c[j]?=σ[j]?)->c[i]?=!!.ref p->p∉M->g p=!.lst f->aF (but g (p::M)) f ds->av (p::M) g->(∀b o,H b=!o->b≠p/\g b=!o)->aA (but g (p::M)) c^δ.set i bF->E.nx c g):
  dX (cN (λw H Q=>∃p n,w=[.ref p]/\(aU K H p n\/bQ K H p n)/\∀l,H l=bF->Q (.ref l)^upd H l^.lst n)^bq (aW k) bM) (cp i) E σ H:=
 ⟨.ref a,e,a,f,A2,.inl^aU.of u,λp h=>by
  let A:=m.len;show q p _ _ (λj x=>QS^RG x) (Q3 Z4) (l.fresh h) aM (ui h r) (l.upd.cons aM) (λb o e=>?_) ?_
  .let s:b≠p:=dy e h;show{s,by rw[aE s];show e}
  .let y:aA (but (upd H p^.lst f) (p::M)) σ δ:={m.len,λj d q=>let⟨v,a,b⟩:=m.get j d q;{v,a,vB h b}}
   show y.off i _⟩
def vc{i:Nat}(l:av M H)(m:aA `a σ δ)(g:a∈M)(e:σ[i]?=!!.ref a)(n:H a=!.lst f)(r:aF `a f ds)(p:ds.length<se)(h:ag te `a σ d)
  (k:∀v c,(∀b o,b≠a->H b=!o->c b=!o)->av M c->c a=!.lst (f++[v])->aF (but c M) (f++[v]) (ds++[d])->aA (but c M) σ δ->E.nx σ c):kQ (lp K "list" pp (aW i)^bq te bM) E σ H:=
 IA l e n (by rw[r.length];show p) h λv c s u=>by
  let j:but (upd c a (.lst<|f++[v])) M=but c M:=eo g;show k v _ (λb o w q=>by rw[aE w];show s b o q) (l.same s).upd aM ?_ ?_
  .rw[j];show(r.mono^s.but M).snoc u
  .rw[j];show m.same s
def oQ{H c:Hp}{M:ZX}(g:a∈M)(k:∀b o,b≠a->H b=!o->c b=!o):ae `a^but c M:=λb o e=>by
 let{f,h}:=ay e;rw[bv f];show k b o (λz=>f^by rw[z];show g) h
def pc{Q:St->Hp->Prop}(g:ap `a x^.tup [e,f])(k:∀c b,ap `a c e->ap `a b f->Q ((σ.set i^!c).set j^!b) H):pf K 2 (ki (cp i)^ki (cp j) pi) x σ H Q:=by
 let{a,o,rfl,h,l}:=g.fS;let{c,b,rfl,m,n}:=pT l;show{a,_,A2,bQ.of (ay h).2,A2,c,[b],A2,b,[],A2,A2,k c b m n}
end
def D.toV:D->V
 |.int i=>.int i
 |.str x=>.str x
 |.bl b=>.bl b
 |_=>.aw
def D.key:D->aH
 |.int i=>.inl i
 |.str x=>.inr x
 |_=>.inl 0
def EC{d:D}(h:d.sc=bU):ap H d.toV d:=by
 cases d with
 |int i=>show .int i
 |str x=>show .str x
 |_=>show absurd h^by simp[D.sc]
def gz{d:D}(h:d.sc=bU)(r:ap H v d):v=d.toV/\v=kV d.key:=by
 cases r with
 |int i=>show{A2,A2}
 |str x=>show{A2,A2}
 |_=>show absurd h^by simp[D.sc]
def xU {a b:D}(d:a.sc=bU)(c:b.sc=bU):a.key=b.key↔a=b:=by
 cases a with
 |int i=>cases b<;>first|(exfalso;simp[D.sc]at c;done)|simp[D.key]
 |str i=>cases b<;>first|(exfalso;simp[D.sc]at c;done)|simp[D.key]
 |_=>show absurd d^by simp[D.sc]
theorem Aq (j:aH):∀(b a:List (aH×V)),bD (cg a b) j=b.foldl (λo p=>if j=p.1 then !p.2 else o)^bD a j
 |[],a=>rfl
 |p::r,a=>by
  change bD (cg (cr a p.1 p.2) r) j=_;rw[Aq j r,zH];rfl
abbrev aT:=List (Str×D)
def pairD (ps:aT):List D:=ps.map λp=>.tup [.str p.1,p.2]
def bX (ps:aT):List (aH×V):=ps.map λp=>(Sum.inr p.1,p.2.toV)
def cF (ps:aT)(x:D):D:=ps.foldl (λacc p=>if D.str p.1=x then p.2 else acc) x
theorem vz{K:kc}:∀{b:aT} {c:List V},(∀p∈b,p.2.sc=bU)->aF `a c^pairD b->Pairs K H c^bX b
 |[],_,_,.nil=>.nil
 |p::r,_,d,.cons (v:=v) h t=>by
  let{a,m,rfl,e,f}:=h.fS;let{n,o,rfl,g,i}:=pT f;show .cons {a,A2,?_}^vz (λq j=>d q^QM _ j) t;let k:=(gz (d p QQ) i).1;let l:=g.qR;subst l k;show bQ.of (ay e).2
theorem wf (x:D)(f:x.sc=bU):∀(d:aT) (o:Option V) (c:D),(∀p∈d,p.2.sc=bU)->o.getD x.toV=c.toV->c.sc=bU->
  (((bX d).foldl (λo p=>if x.key=p.1 then !p.2 else o) o).getD x.toV=(d.foldl (λc p=>if D.str p.1=x then p.2 else c) c).toV/\(d.foldl (λc p=>if D.str p.1=x then p.2 else c) c).sc=bU)
 |[],o,c,_,h,g=>{h,g}
 |p::r,o,c,j,h,g=>by
  let k:∀q∈r,q.2.sc=bU:=λq l=>j q^QM _ l
  change((bX r).foldl _^if x.key=Sum.inr p.1 then !p.2.toV else o).getD x.toV=(r.foldl _^if D.str p.1=x then p.2 else c).toV/\_;by_cases e:D.str p.1=x
  .let i:x.key=Sum.inr p.1:=by rw[<-e];rfl
   rw[Q0 e,Q0 i];have:=wf x f r (!p.2.toV) p.2 k A2^j p QQ
   show{this.1,?_};change(r.foldl _^if D.str p.1=x then p.2 else c).sc=bU;rw[Q0 e];show this.2
  .let i:¬x.key=Sum.inr p.1:=λz=>e^(xU (a:=D.str p.1) (b:=x) A2 f).mp z.symm;rw[QV e,QV i];have:=wf x f r o c k h g;show{this.1,?_};change(r.foldl _^if D.str p.1=x then p.2 else c).sc=bU;rw[QV e];show this.2
def mY {ps:aT}{x:D}(a:x.sc=bU)(b:∀p∈ps,p.2.sc=bU):(bD (cg []^bX ps) x.key).getD x.toV=(cF ps x).toV/\(cF ps x).sc=bU:=by
 rw[Aq];show wf x a ps bF x b A2 a
def C9{G:Hp}{i:Nat}{x:D}(e:f[i]?=!!.ref a)(q:G a=!.dK^cg []^bX b)(c:x.sc=bU)(m:∀p∈b,p.2.sc=bU)(h:ag (aW j) G f x):ag (rH (aW i) (aW j)^aW j) G f^cF b x:=
 λM H s l Q k=>by
  let n:=(ay^s _ _ q).2;show{.ref a,e,a,A2,.inl {_,.inl n},h M H s l _ λy r d t=>h M r (s.trans^d.but M) (l.same d) _ λz u o v=>?_};let{B,w}:=gz c t;let{A,_}:=gz c v;let g:=o _ _^d _ _ n
  show{bD (cg []^bX b) x.key,?_,?_}
  .rw[w];show dg.k g
  .rw[A,(mY c m).1]
   show k _ u (d.trans o)^EC (mY c m).2
end FL
namespace FL
open PySem L2
def D.name:D->Str
 |.str s=>s
 |_=>Str.empty
def aG:D->Bool
 |.str s=>Txt.isupper {(List.toArray [s.cps.getD 0 0])}
 |_=>fF
def fP (F:aT)(x:D):Bool:=F.any λp=>fT (D.str p.1=x)
def gW (F:aT)(x y:D):Option aT:=if(aG x&& not^fP F x)=bU then !F++[(x.name,y)]else if cF F x=y then !F else bF
def gH:aT->List (D×D)->Option aT
 |F,[]=>!F
 |F,p::r=>(gW F p.1 p.2).bind λF'=>gH F' r
def Hw:fP F^.str s=bU↔s∈F.map (·.1):=by
 unfold fP;rw[Um];constructor
 .rintro⟨p,a,e⟩
  have:=Q8 e;injection this with this
  show Q6.mpr {p,a,this}
 .intro h;let{p,a,e}:=Q6.mp h;show{p,a,Q9^by rw[e]}
def Bv (P:aT):Prop:=∀p∈P,∀q∈P,p.1=q.1->p.2=q.2
def JA(f:Bv F)(c:p∈F):cF F^.str p.1=p.2:=by
 let b:∀(Q:aT) (a:D),(∀q∈Q,q∈F)->(a=p.2\/p∈Q)->Q.foldl (λa q=>if D.str q.1=D.str p.1 then q.2 else a) a=p.2:=by
  intro Q;induction Q with
  |nil=>intro a _ h;rcases h with h|h;show h;cases h
  |cons q r g=>
   intro a d h;change r.foldl _ (if D.str q.1=D.str p.1 then q.2 else a)=p.2;show g _ (λt i=>d t^QM _ i) ?_;by_cases e:D.str q.1=D.str p.1
   .rw[Q0 e]
    injection e with e;show .inl^f q (d q QQ) p c e
   .rw[QV e]
    rcases h with h|h
    .show .inl h
    .rcases QZ.mp h with rfl|h
     .show absurd A2 e
     .show .inr h
 show b F _ (λq h=>h)^.inr c
def lG(h:fP F x=fF):cF F x=x:=by
 let c:∀(Q:aT) (a:D),fP Q x=fF->Q.foldl (λa q=>if D.str q.1=x then q.2 else a) a=a:=by
  intro Q;induction Q with
  |nil=>intro a _;rfl
  |cons q r d=>
   intro a e;let b:(fT (D.str q.1=x)||fP r x)=fF:=e;rw[Uo]at b;change r.foldl _ (if D.str q.1=x then q.2 else a)=a;rw[QV^RK b.1];show d a b.2
 show c F x h
end FL
namespace FL
open PySem L2
section
variable {X:Cx}{a:sH}{ta:TE}{apos cpos:Pos}
def yB:V->List V->Hp->VK->Prop:=λx xs H Q=>∃z,x=.str z/\xs=[]/\Q (.bl^Txt.isupper z) H
def Lg:ur X "str.isupper" yB:=by
 intro b s e H x f v g Q I c d h;let{z,rfl,rfl,q}:=h;let{t,rfl}:=c;cases d;show SC.isupper {.bl _,H,I,A2,q}
def QB (h:PE X a ta)(b:y0 a "isupper" X.env^y1 a X.env=y1 a X.env:=by rfl)(c:(apos.endLine==cpos.line)=bU:=by rfl):PE X (.Call (.Attribute a "isupper" apos) [] [] cpos)^zO X.K "str" yB ta:=
 Ff PySem.F.plainAttrs_str PySem.F.slot_str_isupper PySem.F.type_str_isupper Lg h b c
end
section
variable {G:Hp}{σ:St}{ta tb te:TE}{d:D}{K:kc}
def KL(h:ag ta G σ^.str x):ag (zO K "str" yB ta) G σ^.bl^Txt.isupper x:=
 λM H s l Q k=>h M H s l _ λv a b c=>by
  rw[c.qR];show{A2,x,A2,A2,k _ a b^.bl _}
def JT{x:Str}(a:x.length<=se)(b:dI x.cps.toList i=!c)(e:ag ta G σ^.str x)(f:ag tb G σ^.int i):ag (bT (eP K) ta tb) G σ^.str {(List.toArray [c])}:=
 kb (λM H v y l g h Q k=>.inr^.inr {x,i,c,g.qR,h.dQ,a,b,k _ H `f^.str _}) e f
def Kh{d:D}(r:ap H v d):fT (v=.aw)=fT (d=.aw):=by cases r<;>simp
end
def TV (tt:TT)(σ:St)(H:Hp)(b:Bool):Prop:=∀H1,ae H H1->∀Q:Bool->Hp->Prop,(∀H',ae H1 H'->Q b H')->tt σ H1 Q
section
variable {σ:St}{δ:Dn}{M:List vb}{H:Hp}{tt tu:TT}{ta ty te:TE}{E:Ends}{b c:Bool}{d:D}{K:kc}
def TV.of (l:av M H)(h:bu tt `a σ b):TV tt σ H b:=λe a Q k=>h M e (a.but M) (l.same a) Q k
def Jj (h:TV tt σ H b)(g:b=bU->TV tu σ H c):TV (uR tt tu) σ H (b&&c):=λi e Q k=>h i e _ λf a=>by
 cases b with
 |true=>rw[Q0 A2];show g A2 f (e.trans a) _ λj l=>k j^a.trans l
 |false=>rw[QV QW];show k f a
def yW {e f:TS}(l:av M H)(g:aA `a σ δ)(h:TV tt σ H b)(i:b=bU->∀a,ae H a->av M a->aA (but a M) σ δ->e E σ a)(j:b=fF->∀a,ae H a->av M a->aA (but a M) σ δ->f E σ a):nK tt e f E σ H:=
 h H `f _ λa s=>by
  cases b with
  |true=>rw[Q0 A2];show i A2 a s (l.same s)^g.same s
  |false=>rw[QV QW];show j A2 a s (l.same s)^g.same s
def Lj (F:aT)(n:Str)(y:D):cg []^bX (F++[(n,y)])=cr (cg []^bX F) (Sum.inr n) y.toV:=by
 simp[cg,bX,R1]
def Ob{x:D}(h:x.sc=bU):(bD (cg []^bX F) x.key).isSome=fP F x:=by
 rw[Aq];let f:∀(Q:aT) (o:Option V),((bX Q).foldl (λo p=>if x.key=p.1 then !p.2 else o) o).isSome=(o.isSome||fP Q x):=by
  intro Q;induction Q with
  |nil=>intro o;simp[bX,fP]
  |cons p r i=>
   intro o;change((bX r).foldl _^if x.key=Sum.inr p.1 then !p.2.toV else o).isSome=_;rw[i];change _=(o.isSome||(fT (D.str p.1=x)||fP r x))
   by_cases e:D.str p.1=x
   .let g:x.key=Sum.inr p.1:=by rw[<-e];rfl
    rw[Q0 g,Q9 e];simp
   .let g:¬x.key=Sum.inr p.1:=λz=>e^(xU (a:=D.str p.1) (b:=x) A2 h).mp z.symm;rw[QV g,Ri e];simp
 have:=f F bF;simpa[bD]using this
def Qh{i:Nat}{x:D}(e:σ[i]?=!!.ref p)(j:H p=!.dK^cg []^bX F)(f:x.sc=bU)(l:av M H)(h:ag ty `a σ x):TV (tB^sJ ty^aW i) σ H^not^fP F x:=
 λm a Q k=>h M m (a.but M) (l.same a) _ λy n g o=>{.ref p,e,p,bD (cg []^bX F) x.key,A2,by rw[(gz f o).2];show dg.k^g _ _^a _ _ j,_,A2,by rw[Ob f];show k n g}
def KD{i:Nat}{x y:D}(e:σ[i]?=!!.ref p)(w:H p=!.dK^cg []^bX F)(o:x.sc=bU)(A:y.sc=bU)(s:∀q∈F,q.2.sc=bU)(l:av M H)(h:ag (aW j) `a σ x)(B:ag (aW m) `a σ y):
  TV (p7^bT (λx y H Q=>mO x y H Q\/mD x y H Q) (rH (aW i) (aW j)^aW j)^aW m) σ H^not^fT (cF F x=y):=
 λC a Q k=>by
  let g:=a _ _ w;show{.ref p,e,p,A2,.inl {_,.inl g},h M C (a.but M) (l.same a) _ λv G f I=>h M G ((a.trans f).but M) (l.same^a.trans f) _ λz J r L=>?_};let{e1,N}:=gz o I;let{O,_}:=gz o L;show{bD (cg []^bX F) x.key,by rw[N];show dg.k^r _ _^f _ _ g,?_};rw[O,(mY o s).1];show B M J ((a.trans^f.trans r).but M) (l.same^a.trans^f.trans r) _ λu T U Y=>?_;let t:=(mY (ps:=F) o s).2;let n:=fm t A;show .inl {cF F x,y,{M,EC t,Y,n.1,n.2},_,A2,k T^f.trans^r.trans U}
end
end FL
namespace FL
open PySem L2
def oU{d:Hp}(s:ae c H)(h:c a=bF)(k:∀b o,b≠a->H b=!o->d b=!o):ae c d:=λb o e=>k b o (λz=>by rw[z,h]at e;cases e)^s b o e
def none_of{c:Hp}(s:ae a H)(k:∀b o,H b=!o->b≠p/\c b=!o):a p=bF:=by
 cases e:a p with
 |none=>rfl
 |some o=>show absurd A2 (k p o^s p o e).1
def OD (a:aT)(n:Str)(t:D):pairD (a++[(n,t)])=pairD a++[.tup [.str n,t]]:=by simp[pairD]
def x8{a:aT}{t:D}(h:∀p∈a,p.2.sc=bU)(b:t.sc=bU):∀p∈a++[(n,t)],p.2.sc=bU:=λp c=>by
 rcases Rc.mp c with q|q
 .show h p q
 .rw[Rg.mp q];show b
section
variable {σ:St}{δ:Dn}{M:List vb}{H:Hp}{tt tu:TT}{ta ty tz te:TE}{E:Ends}{b c:Bool}{d:D}{ds:List D}{K:kc}
def wM(e:aA `a σ δ)(f:H p=bF):aA (but (upd H p o) (p::M)) (σ.set i^!.ref p)^δ.set i bF:=by
 let g:aA (but (upd H p o) (p::M)) σ δ:={e.len,λj d q=>let⟨v,a,b⟩:=e.get j d q;{v,a,vB f b}}
 show g.off i _
def G4{k:Nat}(l:av M H)(n:aA `a σ δ)(I:i<δ.length)(u:δ[k]?=!!.lst^pairD m)(w:∀p∈m,p.2.sc=bU)
  (q:∀p f g,(∀j:Nat,j≠i->f[j]?=σ[j]?)->f[i]?=!!.ref p->p∉M->g p=!.dK^cg []^bX m->av (p::M) g->(∀b o,H b=!o->b≠p/\g b=!o)->aA (but g (p::M)) f^δ.set i bF->E.nx f g):
  dX (cN (λx H Q=>∃a s h,x=[.ref a]/\aU K H a s/\Pairs K H s h/\∀p,H p=bF->Q (.ref p)^upd H p^.dK^cg [] h)^bq (aW k) bM) (cp i) E σ H:=by
 let{v,y,z}:=n.get k _ u;let{a,A,rfl,B,C}:=z.el;show{.ref a,y,a,A,bX m,A2,aU.of (ay B).2,vz w C,λp r=>?_};let J:=n.len;show q p _ _ (λj G=>QS^RG G) (Q3 Z4) (l.fresh r) aM (l.upd.cons aM) (λb o e=>?_)^wM n r;let t:b≠p:=dy e r;show{t,by rw[aE t];show e}
def OY{k:Nat}(l:av M H)(s:aA `a σ δ)(u:i<δ.length)(w:δ[k]?=!!.lst ds)
  (q:∀p t m n,(∀j:Nat,j≠i->m[j]?=σ[j]?)->m[i]?=!!.ref p->p∉M->n p=!.lst t->aF (but n (p::M)) t ds->av (p::M) n->(∀b o,H b=!o->b≠p/\n b=!o)->aA (but n (p::M)) m^δ.set i bF->E.nx m n):
  dX (cN (λx H Q=>∃p r,x=[.ref p]/\(aU K H p r\/bQ K H p r)/\∀l,H l=bF->Q (.ref l)^upd H l^.lst r)^bq (aW k) bM) (cp i) E σ H:=by
 let{v,y,z}:=s.get k _ w;let{a,A,rfl,B,C}:=z.el;show JO l s u y (ay B).2 C λp m n a b c d e f g h=>q p A m n a b c d e f g h
def Az{i:Nat}{y:D}(l:av M H)(t:aA `a σ δ)(m:p∈M)(e:σ[i]?=!!.ref p)(w:H p=!.dK^cg []^bX F)(x:y.sc=bU)(N:F.length<1000)(h:ag ty `a σ^.str n)(z:ag tz `a σ y)
  (k:∀f,(∀b o,b≠p->H b=!o->f b=!o)->av M f->f p=!.dK^cg []^bX (F++[(n,y)])->aA (but f M) σ δ->E.nx σ f):p9 (aW i) ty tz E σ H:=by
 show z M H `f l _ λv A a B=>{.ref p,e,h M A (a.but M) (l.same a) _ λu s j C=>?_}
 let r:=j _ _^a _ _ w
 let G:=(gz (d:=.str n) A2 C).2;let I:=(gz x B).1;let g:(cg []^bX F).length<se:=by
  have:=uo (bX F) [];simp only[bX,QP,SI,Tc]at this;show cH (by unfold bX;omega)
 show{p,_,A2,by rw[G];show gK.k (k:=Sum.inr n) r g,?_};let J:but (upd s p^.dK^cr (cg []^bX F) (Sum.inr n) v) M=but s M:=eo m;show k _ (λb o L q=>by rw[aE L];show j _ _^a _ _ q) (l.same^a.trans j).upd ?_ ?_
 .rw[aM,I]
  change(!(HO.dK^cr _ _ _))=!(HO.dK<|cg []<|bX<|F++[(n,y)]);rw[Lj]
 .rw[J];show t.same^a.trans j
end
end FL
namespace L2
open PySem PySem.Spec PyProof.Rows
section
variable {X:Cx}
def A3(h:(dm P w).is k u=bU):RelV (kV k) u:=by
 rw[Jc]at h;rcases kB h with⟨i,t,rfl,rfl⟩|⟨x,t,rfl,rfl⟩
 .show{t,A2}
 .show{t,A2}
def Mt (L:X.calm=bU):iG X (.type "list")^λE H Q=>∃a b,E=[.ref a]/\Rd H a^.dK b/\∀l,H l=bF->Q (.ref l)^upd H l^.lst^b.map λg=>kV g.1:=by
 intro G s σ H E us Q I r h;let{a,b,rfl,e,q}:=h;let{u,rfl,M}:=Vf r;cases M;let{z,N,J,bK,O}:=jg I.au e;let{T,o}:=O.dictAt;let i:=bK.length;show W.kdl_call (W.kdl_dict (knd:=dm X.prog X.w) (kvs:=J) (ep:=T) N) (I.ok.hd L) o (by rw[<-i];show z) λU Y c c' hk hS f=>?_;let rv:bn (b.map λg=>kV g.1) c.toList:=by
  let y:∀(A:List (aH×V)) (m:List (aH×wj)) (d:List wj),KV A m->d.length=m.length->(∀(j:Nat) v,d[j]?=!v->∃k x,m[j]?=!(k,x)/\(dm X.prog X.w).is k v=bU)->bn (A.map λg=>kV g.1) d:=by
   intro A m d rk;induction rk generalizing d with
   |nil=>intro i _;cases d with
    |nil=>show .nil
    |cons _ _=>cases i
   |@cons p q ps qs B t ih=>
    intro i n;cases d with
    |nil=>cases i
    |cons v d=>
     let{k,x,C,h2}:=n 0 v A2;let C:q=(k,x):=Q5 C;show .cons ?_^ih d (Wo i) λj u hu=>n (j+1) u hu;let e1:p.1=k:=by rw[B.1,C]
     change RelV (kV p.1) v;rw[e1];show A3 h2
  show y b J c.toList bK (by rw[RP];show f.1) λj v n=>f.2 j v (by rw[<-UV];show n)
 show{.ref s.heap.objs.size,_,I.laid (t':=Y) hk (QU _)^show bZ X.prog X.w _ U _ (.lst^b.map λg=>kV g.1)from{by rw[QP];show z,c.toList,c',rv,by rw[U8];show hS},A2,q _^I.au.fresh^QU _}
def OG (C:X.calm=bU):iG X (.builtin "all")^λn H Q=>∃(a:vb) (d:List Bool),n=[.ref a]/\aU X.K H a^d.map V.bl/\Q (.bl^d.all id) H:=by
 intro t s T H n U Q I r h;let{a,d,rfl,x,q}:=h;let{u,rfl,E}:=Vf r;cases E;let{c,j,p,G}:=I.list x;show call_all_walk^S6 p.isList ?_
 let k:a≠s.heap.objs.size:=by
  let{o,J,_}:=p.isList;show Rp^Re J
 let f:c.length=d.length:=by have:=j.length;rw[QP]at this;show this.symm
 show{s.heap.objs.size,_,_,c.toArray.size,_,_,λi=>d.getD i bU,A2,Walks.list (A:=X.A.in1) (prog:=X.prog) (w:=X.w) (show X.A.in1.handled=bF from I.ok.hd C) s.heap.objs.size a k c.toArray,{{_,Ra _ A2,A2,A2},p.isList.push _},λi v Y Q' E' g l=>?_,λh' L M=>?_}
 .let g:c[i]?=!v:=by simpa using g
  let hi:i<c.length:=(QN.mp g).1;let N:(d.map V.bl)[i]?=!(.bl^d.getD i bU):=by
   rw[QY,QO Z4,List.getD,QO Z4];rfl
  let{w',y,m}:=j.get N;rw[g]at y;cases y;obtain rfl:v=wj.bool (d.getD i bU):=m;show Sk l
 .let e:(List.range c.toArray.size).all (λi=>d.getD i bU)=d.all id:=by
   rw[Rb,f];clear f j G x q;induction d with
   |nil=>rfl
   |cons b r O=>
    rw[Rw,List.range_succ_eq_map,Uq,US];change(b&&(List.range r.length).all λi=>r.getD i bU)=(b&&r.all id)
    rw[O]
  show{.bl^d.all id,H,I.kept (t':=L) λb o B=>M b o (λz=>?_)^QR _ B,RF wj.bool e,q};have:b=s.heap.objs.size:=by simpa using z
  show absurd (Re B)^by rw[this];show Sm _
end
end L2
namespace L2
open PySem PySem.Spec PyProof.Rows
section
variable {X:Cx}
def Gi (K:kc):R2:=λx y H Q=>∃a b xs ys,x=.ref a/\y=.ref b/\bQ K H a xs/\bQ K H b ys/\xs.length+ys.length<=se/\
 (xs=[]->Q (.ref b) H)/\(xs≠[]->ys=[]->Q `n H)/\(xs≠[]->ys≠[]->∀p,H p=bF->Q (.ref p)^upd H p^.tup (xs++ys))
def B1:dh X (binaryOp .Add)^Gi X.K:=by
 intro c s B H x y v u Q I l m h;let{a,b,o,C,rfl,rfl,p,q,E,G,J,L}:=h;by_cases d:o=[]
 .cases l;cases m;let{e,M,N,_}:=I.tuple p;let{f,r2,O,_}:=I.tuple q;let T:e=[]:=M.uD.mpr d;let{{U,Y,r,sl},t,w,n,z}:=id N;let{{A,j,data2,k},g,i,n2,d6}:=id O;simp only at w z i d6;subst w z i d6;show concat_meets {_,t,A2} {_,g,A2} VM seq_tuple_add UP UM (Uw _ _)
   (tuple_addW0 a b e.toArray f.toArray n n2 Y j sl k^by simp[T]) {t,g,{.ref b,H,I,A2,G d}}
 .show Lp c s B H _ _ v u Q I l m {a,b,o,C,A2,A2,p,q,d,E,J d,L d}
end
end L2
namespace FL
open PySem L2
section
variable {G:Hp}{σ:St}{ta tb:TE}{K:kc}{xs ys:List D}
def Dp (u:xs.length+ys.length<=1000)(j:ag ta G σ^.tup xs)(m:ag tb G σ^.tup ys):ag (bT (Gi K) ta tb) G σ^.tup (xs++ys):=
 kb (λM H v y l n o Q k=>by
  let{a,q,rfl,f,c}:=n.fS;let{b,r,rfl,g,d}:=o.fS;let s:=c.length;let t:=d.length;show{a,b,q,r,A2,A2,bQ.of (ay f).2,bQ.of (ay g).2,Sf^cH Z4,λe=>?_,λe h=>?_,λe h p i=>?_}
  .have:xs=[]:=SR (by rw[<-s,e];rfl);rw[this,T4]at k;show k _ H `f^.tup g d
  .have:ys=[]:=SR (by rw[<-t,h];rfl);rw[this,Ro]at k;show k _ H `f^.tup f c
  .show k _ _ (c9 i _)^qE l i^c.append d) j m
def qo (q:xs.length+ys.length<=1000)(f:ag ta G σ^.lst xs)(g:ag tb G σ^.lst ys):ag (bT CU ta tb) G σ^.lst (xs++ys):=
 kb (λM H v y l h i Q k=>by
  let{a,j,rfl,m,c}:=h.el;let{b,n,rfl,o,d}:=i.el;let r:=c.length;let s:=d.length;show{a,b,j,n,A2,A2,(ay m).2,(ay o).2,Sf^cH Z4,λp e=>k _ _ (c9 e _)^rP l e^c.append d}) f g
end
section
variable {X:Cx}{N':List Str}{scope:Scope}{cl:List (Str×vb)}{C:vb}{fp:List vb}{s:ot}{H:Hp}
def kA(h:bP X.prog X.w X.K X.mg X.base n x i g)(j:cW m X.A)(k:PA `m (e::a) t)(c:n<=m:=by decide)
  (l:Gl `m x:=by rfl) (d:`k=fF:=by decide) (o:zA (e::a) (bW X N' scope cl C fp s H).env=(fF,y1 e (bW X N' scope cl C fp s H).env)::zA a (bW X N' scope cl C fp s H).env:=by rfl) (f:(gA b^zA a (bW X N' scope cl C fp s H).env).any (·.1)=fF:=by rfl):
  PE `m (.Call (.Name x p) (e::a) [] b)^ja g [] E0 t:=bL (X:=bW X N' scope cl C fp s H) h j k c l d o f
end
structure jB (P:qj)(w:pa)(K:kc)(mg:Str->Option wj)(base:rl)(n:Nat)(C:vb)(m:Str)(ps:List Str)(sp:Sp):Prop where
 ex:∃f fd,bw P w K mg base bO n f fd ps sp/\Binds K fd ps []/\ri K C m f
structure px (P:qj)(w:pa)(K:kc)(mg:Str->Option wj)(base:rl)(n:Nat)(C:vb)(x:Str)(ps:List Str)(sp:Sp):Prop where
 ex:∃f fd,bw P w K mg base bO n f fd ps sp/\Binds K fd ps []/\Mk K C f/\mg x=!.ref C
section
variable {X:Cx}{C:vb}
def lT(v:PE X o r)(c:eX X.K C)(h:jB X.prog X.w X.K X.mg X.base n C m u q)(x:cW k X.A)(y:PA X (e::g) t)(i:n<=k:=by decide)
  (j:zA (e::g) X.env=(fF,y1 e X.env)::zA g X.env:=by rfl) (l:(gA a^zA g X.env).any (·.1)=fF:=by rfl)
  (z:y1 (.Call (.Attribute o m d) (e::g) [] a) X.env=(do
   let s<-y1 o X.env
   standAt d.atName
   let(f,first)<-gD [s] (mm s m p)
   zB a f first (gA a^zA (e::g) X.env)^backToKw a^y2 [] X.env):=by rfl):
  PE X (.Call (.Attribute o m d) (e::g) [] a)^mP C m q [] E0 r t:=by
 let{f,B,F,b,M}:=h.ex;show Ik (pl:=p) v c M (F.mono i) x b .nil tP y j l z
def Ax(h:px X.prog X.w X.K X.mg X.base n C x l j)(m:cW (k+1) X.A)(o:PA X (e::a) t)(d:n<=k:=by decide)
  (q:Gl X x:=by rfl) (g:`k=fF:=by decide) (r:zA (e::a) X.env=(fF,y1 e X.env)::zA a X.env:=by rfl) (i:(gA c^zA a X.env).any (·.1)=fF:=by rfl):
  PE X (.Call (.Name x p) (e::a) [] c)^uw C j [] E0 t:=by
 let{f,u,F,b,M,s}:=h.ex;show Hi M (F.mono d) m q s b .nil tP o g r i
end
section
variable {X:Cx}{e:sH}{te:TE}{p pos:Pos}
def Ic (B:Bl X.mg)(h:PE X e te)(d:X.calm=bU:=by rfl)(f:Gl X "list":=by rfl)(c:zA [e] X.env=(fF,y1 e X.env)::zA [] X.env:=by rfl):PE X (.Call (.Name "list" p) [e] [] pos)
  (cN (λg H Q=>∃a b,g=[.ref a]/\Rd H a^.dK b/\∀l,H l=bF->Q (.ref l)^upd H l^.lst^b.map λi=>kV i.1)^bq te bM):=
 pC (Mt d) f B.list T0 (ai h aq c) (he:=c)
def zQ (B:Bl X.mg)(h:PE X e te)(d:X.calm=bU:=by rfl)(f:Gl X "all":=by rfl)(b:zA [e] X.env=(fF,y1 e X.env)::zA [] X.env:=by rfl):PE X (.Call (.Name "all" p) [e] [] pos)
  (cN (λg H Q=>∃(a:vb) (c:List Bool),g=[.ref a]/\aU X.K H a^c.map V.bl/\Q (.bl^c.all id) H)^bq te bM):=
 pE (OG d) f B.all PyProof.Rows.boot_all (ai h aq b) (he:=b)
end
section
variable {G:Hp}{σ:St}{ta:TE}{t:TA}{K:kc}
theorem Ey:∀{a:List V} {c:List Bool},aF H a^c.map D.bl->a=c.map V.bl
 |_,[],.nil=>rfl
 |_,b::r,.cons h t=>by rw[h.ik,Ey t];rfl
def wm {bs:List Bool}(h:dF t G σ [.lst^bs.map D.bl]):ag (cN (λb H Q=>∃(a:vb) (bs:List Bool),b=[.ref a]/\aU K H a^bs.map V.bl/\Q (.bl^bs.all id) H) t) G σ^.bl^bs.all id:=
 r9 (λM H b l c Q k=>by
  let{v,rfl,r}:=jM c;let{a,f,rfl,d,e}:=r.el;show{a,bs,A2,?_,k _ H `f^.bl _};rw[<-Ey e];show aU.of (ay d).2) h
def AI(h:ag ta G σ^.lst b):bu (λσ H Q=>ta σ H λx c=>∃k,vk K x c k/\Q k c) G σ^not b.isEmpty:=λM H s l Q k=>h M H s l _ λv d e f=>by
 let{a,g,rfl,i,j}:=f.el;show{not b.isEmpty,.inl {g,aU.of (ay i).2,?_},k d e};cases j<;>rfl
end
end FL
namespace PySem
section
variable {prog:qj}{w:pa}{K:Type} [DecidableEq K] {knd:HeapKind prog w K}{A:om}{E:wj->ot->Prop}{s:ot}
def MQ (knd:HeapKind prog w K)(d:vb)(c:(d==uU)=fF):
  MeetsIn prog w (Builtin.«dict.__len__» {[.ref d],[]})^λ_ R s=>∃b,s.heap.DictOfH knd d b/\R (.ok^.ret^.int b.length s.toks) {s with toks:=s.toks+1}:=
 .of_wp λA R s e=>by
  let{b,f,h}:=e;let{o,g,l,i,m,a,j,k,n}:=f;change gE _ _ (dictSize d>>=_) _ _ s;unfold dictSize;show QL^QL^Ug i a^QX ?_;change gE _ _ (Builtin.Dict.pendingCount d>>=_) _ _ s;show QL^wpAny_pendingCount_other c ?_;show wpAny_ret_mkInt ?_;have:g.size=b.length:=size_of_entries j;rw[Nat.add_zero,this];show h
def G7{Q:ZT}(e:(d==uU)=fF)(b:s.heap.DictOfH knd d a)(c:(a.length:Int)<2^63)
  (h:Q (.int a.length (s.toks+1)) {s with toks:=s.toks+1+1}):gE `i A (call (.builtin "len") [.ref d]) Q E s:=by
 show Calls.call_function_entry kind_len plain_len entry_len (args_len1 _) ?_;unfold Builtin.«len»;show QL (m:=oneArg "len" _)^QX ?_
 show QL (m:=callSpecial? (.ref d)^Str.ofString "__len__") (RO (name:=Str.ofString "__len__") b.typeIs F.slot_dict_len
  (TX F.slot_dict_len b.typeIs F.entry_dict_len (F.args_dict_len_1 _) (MQ knd d e) {a,b,?_}))
 change gE _ _ _ _ _ {s with toks:=s.toks+1};show QL^So^QX ?_
 show QL^Uk ?_
 change gE _ _ (if((a.length:Nat):Int)<0 then _ else _) _ _ _;rw[QV Z4];change gE _ _ (if((a.length:Nat):Int)≥2^63 then _ else _) _ _ _;rw[QV Z4];show QL^wpAny_mkInt^QX {_,A2,h}
end
end PySem
namespace L2
open PySem PySem.Spec PyProof.Rows
section
variable {X:Cx}
def uT:List V->Hp->VK->Prop:=λxs H Q=>(∃a kvs,xs=[.ref a]/\Rd H a^.dK kvs/\Q (.int kvs.length) H)\/∃a kvs,xs=[.ref a]/\Rd H a^.dT kvs/\Q (.int kvs.length) H
def Na:iG X (.builtin "len") uT:=by
 intro d s l H g m Q I r h;rcases h with⟨a,b,rfl,e,q⟩|⟨a,b,rfl,e,q⟩
 .let{u,rfl,c}:=Vf r;cases c;show OU I e λt n i=>{.int b.length,H,i,{t,A2},q}
 .let{u,rfl,c}:=Vf r;cases c;let{z,j,g,bK,k}:=mj I.au e;let f:=Tf bK;show G7 j k (by rw[<-f];rw[Ts]at z;omega) ?_;rw[<-f];show{.int b.length,H,I.tok _,{_,A2},q}
end
end L2
namespace FL
open PySem L2
section
variable {X:Cx}{e:sH}{te:TE}{p pos:Pos}
def BP (B:Bl X.mg)(h:PE X e te)(b:Gl X "len":=by rfl)(a:zA [e] X.env=(fF,y1 e X.env)::zA [] X.env:=by rfl):PE X (.Call (.Name "len" p) [e] [] pos)^cN uT^bq te bM:=
 pE Na b B.len PySem.boot_len (ai h aq a) (he:=a)
end
section
variable {X:Cx}{N':List Str}{scope:Scope}{cl:List (Str×vb)}{C:vb}{fp:List vb}{s:ot}{H:Hp}{e:sH}{te:TE}{p pos:Pos}
end
end FL
namespace FL
open PySem L2
section
variable {X:Cx}{N':List Str}{scope:Scope}{cl:List (Str×vb)}{C:vb}{fp:List vb}{s:ot}{H:Hp}{e:sH}{te:TE}{p pos:Pos}{f:Str}
def sD (a:PE `m e te)(b:y0 e f (bW X N' scope cl C fp s H).env^y1 e (bW X N' scope cl C fp s H).env=y1 e (bW X N' scope cl C fp s H).env):PE `m (.Attribute e f pos)^my X.K te f:=eD (X:=bW X N' scope cl C fp s H) a b
def D4 (b:PE `m e te)(c:∀hZ,isTrue e (bW X N' scope cl C fp s H).env hZ=(do let v<-hZ;standAt e.pos;gD [v]^truthy v)):
  PT `m e^λd H Q=>te d H λx a=>∃k,vk X.K x a k/\Q k a:=yQ (X:=bW X N' scope cl C fp s H) b c
end
end FL
namespace FL
open PySem L2
def ax (V:Str->D)(B:List Str):aT:=B.map λb=>(b,V b)
def aX (V:Str->D)(x:D):D:=if aG x=bU then V x.name else x
def cJ (B:List Str)(x:D):List Str:=if(aG x&& not^fT (x.name∈B))=bU then B++[x.name]else B
def al (B:List Str)(l:List D):List Str:=l.foldl cJ B
def cL (B:List Str):Prop:=∀b∈B,aG^.str b=bU
def jD(h:aG x=bU):x=.str x.name:=by
 cases x with
 |str s=>rfl
 |_=>cases h
def cL.add(h:cL B)(x:D):cL^cJ B x:=λb a=>by
 unfold cJ at a;by_cases e:(aG x&& not^fT (x.name∈B))=bU
 .rw[Q0 e]at a
  rcases Rc.mp a with z|z
  .show h b z
  .rw[Rg.mp z]
   rw[RJ]at e;rw[<-jD e.1];show e.1
 .rw[QV e]at a;show h b a
def Ge{B:ZY}(h:b∈B):b∈cJ B x:=by
 unfold cJ;by_cases e:(aG x&& not^fT (x.name∈B))=bU
 .rw[Q0 e];show Q2 _ h
 .rw[QV e];show h
def Cj(h:aG x=bU):x.name∈cJ B x:=by
 unfold cJ;by_cases e:x.name∈B
 .rw[QV^by simp[e]];show e
 .rw[Q0^by simp[e,h]];show Q1 _^Rg.mpr A2
def Jq(h:b∈cJ B x):b∈B\/(aG x=bU/\b=x.name):=by
 unfold cJ at h;by_cases e:(aG x&& not^fT (x.name∈B))=bU
 .rw[Q0 e]at h
  rw[RJ]at e;rcases Rc.mp h with z|z
  .show .inl z
  .show .inr {e.1,Rg.mp z}
 .rw[QV e]at h;show .inl h
def Je{B:ZY}(h:B.Nodup):(cJ B x).Nodup:=by
 unfold cJ;by_cases e:(aG x&& not^fT (x.name∈B))=bU
 .rw[Q0 e]
  rw[RJ]at e;let c:x.name∉B:=by simpa using e.2
  rw[T3];show{h,by simp,?_};intro a d b f;rw[Rg.mp f];show λz=>c<|z▸d
 .rw[QV e];show h
def vO:∀{B:ZY} {b:Str},b∈B->b∈al B l:=by
 induction l with
 |nil=>show λh=>h
 |cons x r a=>show λh=>a^Ge h
def j6:∀{B:ZY},cL B->cL^al B l:=by
 induction l with
 |nil=>show λh=>h
 |cons x r a=>show λh=>a^h.add x
def B5:∀{B:ZY},B.Nodup->(al B l).Nodup:=by
 induction l with
 |nil=>show λh=>h
 |cons x r a=>show λh=>a^Je h
def pe{l:ZZ}(a:x∈l)(h:aG x=bU):∀{B:ZY},x.name∈al B l:=by
 induction l with
 |nil=>cases a
 |cons y r b=>
  intro B;rcases QZ.mp a with rfl|a
  .show vO (l:=r) (B:=cJ B x)^Cj h
  .show b a
def z8:∀{B:ZY},b∈al B l->b∈B\/∃x∈l,aG x=bU/\b=x.name:=by
 induction l with
 |nil=>show λh=>.inl h
 |cons y r a=>
  intro B h;rcases a h with z|⟨x,c,z⟩
  .rcases Jq z with z|⟨d,e⟩
   .show .inl z
   .show .inr {y,QQ,d,e}
  .show .inr {x,QM _ c,z}
def MH (V:Str->D)(B:ZY):Bv^ax V B:=λp a q d e=>by
 let{b,_,rfl}:=Q6.mp a;let{c,_,rfl}:=Q6.mp d;let e:b=c:=e;rw[e]
def Bi {V a:Str->D}{B:ZY}(h:∀b∈B,a b=V b):ax a B=ax V B:=Rq λb c=>by rw[h b c]
def zX{V:Str->D}(a:aG x=bU):fP (ax V B) x=fT (x.name∈B):=by
 rw[jD a];let h:=Hw (F:=ax V B) (s:=x.name);let e:(ax V B).map (·.1)=B:=by simp[ax,Rz,Function.comp_def]
 rw[e]at h;change fP (ax V B)^.str x.name=fT (x.name∈B);by_cases z:x.name∈B
 .rw[h.mpr z,Q9 z]
 .rw[Ri z]
  cases q:fP (ax V B)^.str x.name with
  |false=>rfl
  |true=>show absurd (h.mp q) z
def qy{V:Str->D}(a:cL B)(c:aG x=fF):fP (ax V B) x=fF:=by
 cases q:fP (ax V B) x with
 |false=>rfl
 |true=>
  let{p,d,e}:=Um.mp q;let{b,f,rfl}:=Q6.mp d;let e:D.str b=x:=Q8 e;have:=a b f;rw[e,c]at this;cases this
def pW{V:Str->D}{B:ZY}(a:b∈B):cF (ax V B)^.str b=V b:=JA (MH V B) (p:=(b,V b))^Q6.mpr {b,a,A2}
def md{V:Str->D}(a:cL B)(b:aG x=bU->x.name∈B):cF (ax V B) x=aX V x:=by
 unfold aX;by_cases e:aG x=bU
 .rw[Q0 e]
  have:=pW (V:=V)^b e
  rw[<-jD e]at this;show this
 .rw[QV e]
  show lG^qy a (by simpa using e)
def JG{V:Str->D}(a:cL B)(x:D):gW (ax V B) x^aX V x=!ax V^cJ B x:=by
 unfold gW cJ;by_cases e:aG x=bU
 .rw[zX e]
  by_cases z:x.name∈B
  .rw[QV (by simp[z]),md a λ_=>z,Q0 A2,QV^by simp[z]]
  .rw[Q0 (by simp[z,e]),Q0^by simp[z,e]]
   unfold aX ax;rw[Q0 e,Rl];rfl
 .let b:aG x=fF:=by simpa using e
  rw[QV (by simp[b]),md a λz=>absurd z e,Q0 A2,QV^by simp[b]]
def Oi{V a:Str->D}(h:∀b∈cJ B x,a b=V b):aX a x=aX V x:=by
 unfold aX;by_cases e:aG x=bU
 .rw[Q0 e,Q0 e,h _^Cj e]
 .rw[QV e,QV e]
def N8{V:Str->D}(d:cL B)(h:gW (ax V B) x y=!f):∃a,(∀b∈B,a b=V b)/\f=ax a^cJ B x/\y=aX a x:=by
 unfold gW at h;by_cases e:aG x=bU
 .rw[zX e]at h
  by_cases z:x.name∈B
  .rw[QV (by simp[z]),md d λ_=>z]at h
   by_cases q:aX V x=y
   .rw[Q0 q]at h
    show{V,λ_ _=>A2,?_,q.symm};unfold cJ;rw[QV^by simp[z]];show(Q5 h).symm
   .rw[QV q]at h;cases h
  .rw[Q0^by simp[z,e]]at h
   show{λb=>if b=x.name then y else V b,λb c=>QV λw=>z (by rw[<-w];show c),?_,?_}
   .let i:=Q5 h;rw[<-i];unfold cJ;rw[Q0^by simp[z,e]];unfold ax;rw[Rl];congr 1
    .show Rq λb c=>by
      have:b≠x.name:=λw=>z (by rw[<-w];show c);simp[this]
    .simp
   .unfold aX;rw[Q0 e];simp
 .let g:aG x=fF:=by simpa using e
  rw[QV (by simp[g]),md d λz=>absurd z e]at h;by_cases q:aX V x=y
  .rw[Q0 q]at h
   show{V,λ_ _=>A2,?_,q.symm};unfold cJ;rw[QV^by simp[g]];show(Q5 h).symm
  .rw[QV q]at h;cases h
theorem Gc {V:Str->D}:∀(l:ZZ) {B:ZY},cL B->gH (ax V B)^l.zip^l.map^aX V=!ax V^al B l
 |[],B,_=>rfl
 |x::r,B,a=>by
  change(gW (ax V B) x^aX V x).bind (λb=>gH b^r.zip^r.map^aX V)=_;rw[JG a];show Gc r^a.add x
theorem B6:∀(l f:ZZ) {V:Str->D} {B:ZY} {a:aT},cL B->l.length=f.length->gH (ax V B)^l.zip f=!a->∃d,(∀b∈B,d b=V b)/\a=ax d^al B l/\f=l.map^aX d
 |[],[],V,B,a,_,_,h=>{V,λ_ _=>A2,(Q5 h).symm,A2}
 |[],_::_,_,_,_,_,c,_=>by cases c
 |_::_,[],_,_,_,_,c,_=>by cases c
 |x::r,y::t,V,B,a,g,c,h=>by
  let h:(gW (ax V B) x y).bind (λa=>gH a^r.zip t)=!a:=h;cases e:gW (ax V B) x y with
  |none=>rw[e]at h;cases h
  |some q=>
   rw[e]at h;let{s,k,rfl,m}:=N8 g e;let{n,i,o,p}:=B6 r t (g.add x) (Wo c) h;show{n,λb j=>(i b^Ge j).trans^k b j,o,?_};rw[RB,<-p,m,Oi i]
def b9 (A f:List D)(S:aT):Option aT:=if A.headD .aw=f.headD .aw/\A.length=f.length then gH S^A.zip f else bF
def Dm{V:Str->D}(b:A≠[])(a:aG^A.headD .aw=fF):A.headD .aw=(A.map^aX V).headD .aw:=by
 cases A with
 |nil=>show absurd A2 b
 |cons x r=>
  change x=aX V x;unfold aX;let a:aG x=fF:=a;rw[QV^by rw[a];show QW]
def we{V:Str->D}(a:cL B)(b:A≠[])(c:aG^A.headD .aw=fF):b9 A (A.map^aX V)^ax V B=!ax V^al B A:=by
 unfold b9;rw[Q0 {Dm b c,by rw[QP]}];show Gc A a
def kn{V:Str->D}(d:cL B)(h:b9 A f^ax V B=!c):∃a,(∀b∈B,a b=V b)/\c=ax a^al B A/\f=A.map^aX a:=by
 unfold b9 at h;by_cases z:A.headD .aw=f.headD .aw/\A.length=f.length
 .rw[Q0 z]at h;show B6 A f d z.2 h
 .rw[QV z]at h;cases h
end FL
namespace FL
open PySem L2
abbrev aN:=aT×List Nat
def ext (facts:List (List D))(a:List D)(w:aN):List aN:=facts.zipIdx.filterMap λp=>(b9 a p.1 w.1).map λS=>(S,w.2++[p.2])
def gF (facts:`j):List^List D->List aN->List aN
 |[],ws=>ws
 |a::r,ws=>gF facts r^ws.flatMap^ext facts a
def ba (B:List Str)(as:`j):List Str:=as.foldl al B
def eM (facts:`j)(V:Str->D)(as:`j)(pl:List Nat):Prop:=pl.map (λi=>facts[i]?)=as.map λa=>!a.map^aX V
def kN (a:List D):Prop:=a≠[]/\aG^a.headD .aw=fF
def qw:(S,c)∈ext b a w↔∃i f,b[i]?=!f/\b9 a f w.1=!S/\c=w.2++[i]:=by
 unfold ext;rw[UH];constructor
 .rintro⟨⟨f,i⟩,g,e⟩
  let d:b[i]?=!f:=by
   have:=T9.mp g;show this
  let e:(b9 a f w.1).map (λS=>(S,w.2++[i]))=!(S,c):=e;cases q:b9 a f w.1 with
  |none=>rw[q]at e;cases e
  |some j=>
   rw[q]at e;let e:=Q5 e;show{i,f,d,by rw[q];show RF some^RF Prod.fst e,(RF Prod.snd e).symm}
 .rintro⟨i,f,d,h,rfl⟩
  show{(f,i),T9.mpr d,by change(b9 a f w.1).map _=_;rw[h];rfl}
def Jo{V f:Str->D}{d:ZW}{B:ZY}(i:∀a∈d,∀x∈a,aG x=bU->x.name∈B)(h:∀b∈B,f b=V b)(j:eM c V d g):eM c f d g:=by
 unfold eM at*
 rw[j];show Rq λa k=>?_;congr 1;show Rq λx l=>?_;unfold aX;by_cases e:aG x=bU
 .rw[Q0 e,Q0 e,h _^i a k x l e]
 .rw[QV e,QV e]
def IH:∀{B:ZY} {b:Str},b∈B->b∈ba B as:=by
 induction as with
 |nil=>show λh=>h
 |cons a r c=>show λh=>c^vO h
def jh:∀{B:ZY},cL B->cL^ba B b:=by
 induction b with
 |nil=>show λh=>h
 |cons a r c=>show λh=>c^j6 h
def uj:∀{B:ZY},B.Nodup->(ba B as).Nodup:=by
 induction as with
 |nil=>show λh=>h
 |cons a r b=>show λh=>b^B5 h
def ly{d:ZW}(b:a∈d)(e:x∈a)(h:aG x=bU):∀{B:ZY},x.name∈ba B d:=by
 induction d with
 |nil=>cases b
 |cons c r f=>
  intro B;rcases QZ.mp b with rfl|b
  .show IH (as:=r) (B:=al B a)^pe e h
  .show f b
def uC:∀{B:ZY},b∈ba B as->b∈B\/∃a∈as,∃x∈a,aG x=bU/\b=x.name:=by
 induction as with
 |nil=>show λh=>.inl h
 |cons c r d=>
  intro B h;rcases d h with z|⟨a,e,z⟩
  .rcases z8 z with z|⟨x,f,z⟩
   .show .inl z
   .show .inr {c,QQ,x,f,z}
  .show .inr {a,QM _ e,z}
theorem DL:∀(m:ZW) (done:ZW) (B:ZY) (j:List aN),cL B->(∀a∈done,∀x∈a,aG x=bU->x.name∈B)->(∀a∈m,kN a)->
  (∀S d,(S,d)∈j↔∃V,S=ax V B/\eM b V done d)->∀S d,(S,d)∈gF b m j↔∃V,S=ax V^ba B m/\eM b V (done++m) d
 |[],done,B,j,_,_,_,h,S,d=>by
  rw[Ro];show h S d
 |a::r,done,B,j,o,u,v,h,S,d=>by
  let k:=DL r (done++[a]) (al B a) (j.flatMap^ext b a) (j6 o) (λc p x q e=>by
    rcases Rc.mp p with z|z
    .show vO^u c z x q e
    .rw[Rg.mp z]at q;show pe q e) (λc p=>v c^QM _ p) (λS d=>by
   rw[RY];constructor
   .rintro⟨⟨A,s⟩,C,E⟩
    let{i,f,G,H,rfl}:=qw.mp E;let{V,rfl,l}:=(h A s).mp C;let{w,I,J,L}:=kn o H;show{w,J,?_};let M:=Jo u I l;unfold eM at*
    rw[Rl,Rl,M];change _++[b[i]?]=_++[some^a.map^aX w]
    rw[G,L]
   .rintro⟨V,rfl,l⟩
    unfold eM at l;rw[Rl]at l;let{N,y,rfl,O,n}:=List.map_eq_append_iff.mp l;obtain ⟨i,rfl,Q⟩:∃i,y=[i]/\b[i]?=!(a.map^aX V):=by
     cases y with
     |nil=>cases n
     |cons i t=>
      let n:b[i]?::t.map (λi=>b[i]?)=[some^a.map^aX V]:=n;let{T,U}:=Tx n;have:t=[]:=List.map_eq_nil_iff.mp U;show{i,by rw[this],T}
    show{(ax V B,N),(h _ _).mpr {V,A2,O},qw.mpr {i,_,Q,?_,A2}};let g:=v a QQ;show we o g.1 g.2) S d
  rw[RI]at k;show k
def sf{d:ZW}(g:∀a∈d,kN a):(S,f)∈gF c d [([],[])]↔∃V,S=ax V^ba [] d/\eM c V d f:=by
 show DL d [] [] [([],[])] (λb i=>nomatch i) (λa j=>nomatch j) g (λS f=>?_) S f;rw[Rg];constructor
 .intro e;let{rfl,rfl}:=Wu e;show{λ_=>.aw,A2,A2}
 .rintro⟨V,rfl,h⟩
  have:f=[]:=List.map_eq_nil_iff.mp h;rw[this];rfl
theorem jx  [DecidableEq c]:∀{l m:List c},l.Nodup->(∀x∈l,x∈m)->l.length<=m.length
 |[],m,_,_=>Rk _
 |x::r,m,h,d=>by
  let{g,i}:=Th.mp h;let e:=d x QQ;let a:=jx (l:=r) (m:=m.erase x) i (λy f=>by
   let b:y≠x:=λz=>g (z▸f);show(List.mem_erase_of_ne b).mpr^d y^QM _ f)
  rw[List.length_erase_of_mem e]at a;have:0<m.length:=List.length_pos_of_mem e;rw[Rw];omega
def Ip{f:d->g}{l:List d}(h:l.Nodup)(i:∀x∈l,∀y∈l,f x=f y->x=y):(l.map f).Nodup:=by
 unfold List.Nodup at*
 rw[List.pairwise_map];show h.imp_of_mem λ{a b} j k c e=>c^i a j b k e
def df (pool:List D):List Str->List aT->List aT
 |[],ms=>ms
 |b::r,ms=>df pool r^ms.flatMap λc=>pool.map λt=>c++[(b,t)]
theorem C1 {a:ZZ}:∀(B:ZY) (done:ZY) (d:List aT),(done++B).Nodup->(∀c,c∈d↔∃V,c=ax V done/\∀b∈done,V b∈a)->∀c,c∈df a B d↔∃V,c=ax V (done++B)/\∀b∈done++B,V b∈a
 |[],done,d,_,h,c=>by rw[Ro];show h c
 |b::r,done,d,j,h,c=>by
  let k:((done++[b])++r).Nodup:=by rw[RI];show j
  let l:b∉done:=by
   rw[T3]at j;show λz=>j.2.2 b z b QQ A2
  let f:=C1 r (done++[b]) (d.flatMap λc=>a.map λt=>c++[(b,t)]) k (λc=>by
   rw[RY];constructor
   .rintro⟨m,n,o⟩
    let{t,p,rfl}:=Q6.mp o;let{V,rfl,i}:=(h m).mp n;show{λx=>if x=b then t else V x,?_,λx g=>?_}
    .unfold ax;rw[Rl];congr 1
     .show Rq λx g=>by
       have:x≠b:=λz=>l (z▸g);simp[this]
     .simp
    .change(if x=b then t else V x)∈a;by_cases e:x=b
     .rw[Q0 e];show p
     .rw[QV e]
      rcases Rc.mp g with z|z
      .show i x z
      .show absurd (Rg.mp z) e
   .rintro⟨V,rfl,i⟩
    show{ax V done,(h _).mpr {V,A2,λx g=>i x^Q2 _ g},Q6.mpr {V b,i b^Q1 _^Rg.mpr A2,?_}};unfold ax;rw[Rl];rfl) c
  rw[RI]at f;show f
def y6{B:ZY}(d:B.Nodup):c∈df a B [[]]↔∃V,c=ax V B/\∀b∈B,V b∈a:=
 C1 B [] [[]] d (λc=>by
  rw[Rg];constructor
  .rintro rfl;show{λ_=>.aw,A2,λb e=>nomatch e}
  .rintro⟨V,rfl,_⟩;rfl) c
theorem AW:∀{l:List d} {i j:Nat} {x:d},l.Nodup->l[i]?=!x->l[j]?=!x->i=j
 |[],i,_,_,_,h,_=>by simp at h
 |y::r,0,0,x,_,_,_=>rfl
 |y::r,0,j+1,x,c,a,b=>by
  let a:y=x:=Q5 a;let b:r[j]?=!x:=b;show absurd (a▸QT b) (Th.mp c).1
 |y::r,i+1,0,x,c,a,b=>by
  let b:y=x:=Q5 b;let a:r[i]?=!x:=a;show absurd (b▸QT a) (Th.mp c).1
 |y::r,i+1,j+1,x,c,a,b=>RF (· +1)^AW (l:=r) (Th.mp c).2 a b
def FK{V:Str->D}(h:eM b V c d):∀a∈c,a.map^aX V∈b:=by
 intro a f;have:(!(a.map^aX V))∈d.map^λi=>b[i]?:=by rw[h];show Q6.mpr {a,f,A2}
 let{i,_,e}:=Q6.mp this;show QT e
end FL
namespace FL
open PySem L2
theorem Gq:∀(l:ZZ) (B C:ZY),(∀b∈C,b∈B\/b∈C)->al (B++C.filter^λb=> not^fT (b∈B)) l=B++(al C l).filter^λb=> not^fT (b∈B)
 |[],B,C,_=>rfl
 |x::r,B,C,h=>by
  change al (cJ (B++C.filter λb=> not^fT (b∈B)) x) r=B++(al (cJ C x) r).filter _;let e:cJ (B++C.filter λb=> not^fT (b∈B)) x=B++(cJ C x).filter λb=> not^fT (b∈B):=by
   unfold cJ;by_cases f:aG x=bU
   .by_cases c:x.name∈B
    .rw[QV^by simp[c]]
     by_cases a:x.name∈C
     .rw[QV^by simp[a]]
     .rw[Q0 (by simp[a,f]),R7]
      simp[c]
    .by_cases a:x.name∈C
     .rw[QV (by simp[a,c]),QV^by simp[a]]
     .rw[Q0 (by simp[a,c,f]),Q0 (by simp[a,f]),R7,RI]
      simp[c]
   .let d:aG x=fF:=by simpa using f
    rw[QV (by simp[d]),QV^by simp[d]]
  rw[e];show Gq r B (cJ C x) λb g=>.inr g
def nM (l:ZZ)(B:ZY):al B l=B++(al [] l).filter^λb=> not^fT (b∈B):=by
 have:=Gq l B [] λb a=>nomatch a;rw[V3,Ro]at this;show this
def dS (B:List Str)(st:aT):List D:=(st.filter λp=>fT (p.1∈B)).map (·.2)
def restOf (B:List Str)(st:aT):aT:=st.filter λp=> not^fT (p.1∈B)
def xN (U:Str->D)(C:ZY)(p:Str->Bool):(ax U C).filter (λq=>p q.1)=ax U^C.filter p:=by
 unfold ax;rw[SD];rfl
def Qj (U:Str->D)(B C:ZY):ax U (B++C)=ax U B++ax U C:=Rl
def fj:cL []:=λb a=>nomatch a
def OH{V:Str->D}(k:cL B)(i:kN a):b9 a f^ax V B=(b9 a f []).bind λst=>if dS B st=((al [] a).filter λb=>fT (b∈B)).map V then !ax V B++restOf B st else bF:=by
 cases e:b9 a f []with
 |none=>
  change _=bF;cases l:b9 a f^ax V B with
  |none=>rfl
  |some S=>
   let{g,_,_,rfl}:=kn k l;have:=we (V:=g) (B:=[]) fj i.1 i.2;rw[show ax g []=[]from A2,e]at this;cases this
 |some st=>
  let{U,_,rfl,rfl}:=kn (V:=λ_=>.aw) (B:=[]) fj e;change _=if dS B^ax U^al [] a=_ then !ax V B++restOf B^ax U^al [] a else bF;let r:dS B^ax U^al [] a=((al [] a).filter λb=>fT<|b∈B).map U:=by
   unfold dS;rw[xN U _ λb=>fT<|b∈B];unfold ax;rw[Rz];rfl
  let s:restOf B^ax U^al [] a=ax U^(al [] a).filter λb=> not^fT (b∈B):=xN U _ λb=> not^fT (b∈B);rw[r,s];by_cases j:((al [] a).filter λb=>fT<|b∈B).map U=((al [] a).filter λb=>fT<|b∈B).map V
  .rw[Q0 j]
   let m:∀b∈al [] a,b∈B->U b=V b:=λb c n=>List.map_inj_left.mp j b^Q4.mpr {c,Q9 n}
   letI g:Str->D:=λb=>if b∈B then V b else U b;let o:a.map^aX U=a.map^aX g:=Rq λx p=>by
    unfold aX;by_cases e:aG x=bU
    .rw[Q0 e,Q0 e]
     let t:=pe p e (B:=[]);change U x.name=if x.name∈B then V x.name else U x.name;by_cases z:x.name∈B
     .rw[Q0 z];show m _ t z
     .rw[QV z]
    .rw[QV e,QV e]
   let u:ax V B=ax g B:=Bi λb c=>by change V b=if b∈B then V b else U b;rw[Q0 c]
   rw[o,u,we k i.1 i.2,nM,Qj];congr 2;show Bi λb c=>by
    have:b∉B:=by simpa using(Q4.mp c).2
    change(if b∈B then V b else U b)=U b;rw[QV this]
  .rw[QV j]
   cases l:b9 a (a.map^aX U)^ax V B with
   |none=>rfl
   |some S=>
    let{g,o,_,v}:=kn k l;show absurd ?_ j;show Rq λb c=>?_;let{q,d}:=Q4.mp c;let d:=Q8 d;rcases z8 q with z|⟨x,p,h,rfl⟩
    .cases z
    .have:=List.map_inj_left.mp v x p;unfold aX at this;rw[Q0 h,Q0 h]at this;rw[this,o _ d]
abbrev dP:=List D×(Nat×aT)
def fi (a:List D)(facts:`j)(B:List Str):List dP:=facts.zipIdx.filterMap λp=>(b9 a p.1 []).map λst=>(dS B st,(p.2,restOf B st))
def pZ (of:List dP)(key:List D)(w:aN):List aN:=((of.filter λo=>fT (o.1=key)).map λo=>(w.1++o.2.2,w.2++[o.2.1]))
def zc{V:Str->D}(k:cL B)(m:kN a):pZ (fi a c B) (((al [] a).filter λb=>fT (b∈B)).map V) (ax V B,d)=ext c a (ax V B,d):=by
 unfold pZ fi ext;change List.map (λo:dP=>(ax V B++o.2.2,d++[o.2.1])) _=List.filterMap (λ(p:ZZ×Nat)=>(b9 a p.1^ax V B).map λS=>(S,d++[p.2])) c.zipIdx;generalize c.zipIdx=l;induction l with
 |nil=>rfl
 |cons p r i=>
  let j:=OH (f:=p.1) (V:=V) k m;cases e:b9 a p.1 []with
  |none=>
   let g:b9 a p.1^ax V B=bF:=by rw[j,e];rfl
   rw[UA (f:=λ(p:ZZ×Nat)=>(b9 a p.1 []).map λst=>(dS B st,(p.2,restOf B st))) (a:=p) (show Option.map _^b9 a p.1 []=bF by rw[e];rfl),UA (f:=λ(p:ZZ×Nat)=>(b9 a p.1^ax V B).map λS=>(S,d++[p.2])) (a:=p)^show Option.map _^b9 a p.1^ax V B=bF by rw[g];rfl];show i
  |some st=>
   rw[VG (f:=λ(p:ZZ×Nat)=>(b9 a p.1 []).map λst=>(dS B st,(p.2,restOf B st))) (a:=p) (b:=(dS B st,(p.2,restOf B st))) (show Option.map _^b9 a p.1 []=_ by rw[e];rfl),Tg];by_cases h:dS B st=((al [] a).filter λb=>fT<|b∈B).map V
   .let g:b9 a p.1^ax V B=!ax V B++restOf B st:=by rw[j,e];show Q0 h
    rw[VG (f:=λ(p:ZZ×Nat)=>(b9 a p.1^ax V B).map λS=>(S,d++[p.2])) (a:=p) (b:=(ax V B++restOf B st,d++[p.2])) (show Option.map _^b9 a p.1^ax V B=_ by rw[g];rfl),Q0^Q9 h,RB,i]
   .let g:b9 a p.1^ax V B=bF:=by rw[j,e];show QV h
    rw[UA (f:=λ(p:ZZ×Nat)=>(b9 a p.1^ax V B).map λS=>(S,d++[p.2])) (a:=p) (show Option.map _^b9 a p.1^ax V B=bF by rw[g];rfl),QV (by simpa using h),i]
structure kU where
 atom:List D
 ok:aT->Bool
def qf (facts:`j)(s:kU)(w:aN):List aN:=(ext facts s.atom w).filter λw=>s.ok w.1
def ge (facts:`j):List kU->List aN->List aN
 |[],ws=>ws
 |s::r,ws=>ge facts r^ws.flatMap^qf facts s
theorem CF (b:ZW):∀(c:ZW),gF b c []=[]
 |[]=>rfl
 |a::r=>CF b r
theorem DU (b:ZW):∀(e:List kU) (c d:List aN),ge b e (c++d)=ge b e c++ge b e d
 |[],_,_=>rfl
 |a::r,c,d=>by
  change ge b r^(c++d).flatMap _=ge b r^c.flatMap _++ge b r^d.flatMap _;rw[UT,DU b r]
theorem DN (b:ZW):∀(c:List kU),ge b c []=[]
 |[]=>rfl
 |a::r=>DN b r
theorem CS (a:ZW)(b:List kU):∀c:List aN,ge a b c=c.flatMap λw=>ge a b [w]
 |[]=>DN a b
 |w::r=>by
  have:ge a b (w::r)=ge a b [w]++ge a b r:=DU a b [w] r;rw[this,CS a b r];rfl
theorem Ce (c:ZW)(p:aT->Bool):∀(z:ZW) (B:ZY) (j:List aN),cL B->(∀V g:Str->D,∀C,cL (B++C)->(∀b∈B,g b=V b)->p^ax g (B++C)=p^ax V B)->(∀w∈j,∃V,w.1=ax V B)->gF c z (j.filter λw=>p w.1)=(gF c z j).filter λw=>p w.1
 |[],_,j,_,_,_=>rfl
 |a::r,B,j,n,s,o=>by
  change gF c r^(j.filter _).flatMap^ext c a=(gF c r^j.flatMap^ext c a).filter _;let d:∀w∈j,∀x∈ext c a w,∃V g,w.1=ax V B/\x.1=ax g (al B a)/\∀b∈B,g b=V b:=λw l x k=>by
   let{V,e}:=o w l;let{S,L}:=x;let{i,f,_,A,_}:=qw.mp k;rw[e]at A;let{g,E,G,_}:=kn n A;show{V,g,e,G,E}
  let H:(j.filter λw=>p w.1).flatMap^ext c a=(j.flatMap^ext c a).filter λw=>p w.1:=by
   clear o;revert d;induction j with
   |nil=>show λ_=>A2
   |cons w t u=>
    intro d;let u:=u λw o=>d w^QM _ o
    rw[RT,R7,<-u,Tg];let m:∀x∈ext c a w,p x.1=p w.1:=λx k=>by
     let{V,g,e,I,h}:=d w QQ x k;rw[e,I,nM];show s V g _ (by rw[<-nM];show j6 n) h
    by_cases q:p w.1=bU
    .rw[Q0 q,RT]
     congr 1;show(RM.mpr λx k=>by rw[m x k];show q).symm
    .rw[QV q]
     have:(ext c a w).filter (λw=>p w.1)=[]:=Td.mpr λx k=>by rw[m x k];show q
     rw[this,T4]
  rw[H];show Ce c p r (al B a) _ (j6 n) (λV g C v h=>?_) λx k=>?_
  .let y:cL (B++(al [] a).filter λb=> not^fT (b∈B)):=by rw[<-nM];show j6 n
   rw[nM]at h v⊢;rw[RI]at v⊢;rw[s V g _ v λb J=>h b^Q2 _ J,s V V _ y λb _=>A2]
  .let{w,l,k}:=RY.mp k;let{V,g,_,e,_}:=d w l x k;show{g,e}
theorem AG (a:ZW):∀(d:List kU) (B:ZY) (c:List aN),cL B->(∀w∈c,∃V,w.1=ax V B)->
  (∀(i:Nat) (s:kU),d[i]?=!s->∀V g:Str->D,∀C,cL (ba B^(d.take (i+1)).map (·.atom)++C)->(∀b∈ba B ((d.take (i+1)).map (·.atom)),g b=V b)->s.ok^ax g (ba B^(d.take (i+1)).map (·.atom)++C)=s.ok^ax V^ba B^(d.take (i+1)).map (·.atom))->
  ge a d c=(gF a (d.map (·.atom)) c).filter λw=>d.all λs=>s.ok w.1
 |[],_,c,_,_,_=>by
  change c=c.filter λw=>bU;show(RM.mpr λ_ _=>A2).symm
 |s::r,B,c,j,p,n=>by
  change ge a r^c.flatMap^qf a s=(gF a (r.map (·.atom))^c.flatMap^ext a s.atom).filter λw=>s.ok w.1&&r.all λs=>s.ok w.1;let q:c.flatMap^qf a s=(c.flatMap^ext a s.atom).filter λw=>s.ok w.1:=by
   rw[List.filter_flatMap];rfl
  let h:∀x∈c.flatMap (ext a s.atom),∃V,x.1=ax V^al B s.atom:=λx h=>by
   let{w,k,h}:=RY.mp h;let{V,e}:=p w k;let{S,y}:=x;let{i,f,_,o,_}:=qw.mp h;rw[e]at o;let{g,z,u,_}:=kn j o;show{g,u}
  let l:=n 0 s A2;let l:∀V g:Str->D,∀C,cL (al B s.atom++C)->(∀b∈al B s.atom,g b=V b)->s.ok (ax g<|al B s.atom++C)=s.ok^ax V^al B s.atom:=l;rw[q,AG a r (al B s.atom) _ (j6 j) (λx m=>h x (Q4.mp m).1) λi t v=>n (i+1) t v,Ce a s.ok _ (al B s.atom) _ (j6 j) l h,Vq];show SN λw _=>Bool.and_comm _ _
end FL
namespace FL
open PySem L2
def ox:D->Prop
 |.str s=>s.length<=se/\∃c r,s.cps.toList=c::r
 |_=>True
def xV:List D->D->Prop:=λds d=>∃x,ds=[x]/\ox x/\d=.bl^aG x
def Mo{s:Str}(h:s.cps.toList=c::r):s.cps.getD 0 0=c:=by
 have:s.cps.getD 0 0=s.cps.toList.getD 0 0:=by simp
 rw[this,h];rfl
def pH:Option aT->D
 |some F=>.lst^pairD F
 |none=>.aw
def EG:List D->D->Prop:=λds d=>∃A Fc ps,ds=[.tup A,.tup Fc,.lst^pairD ps]/\(∀x∈A,x.sc=bU/\ox x)/\(∀y∈Fc,y.sc=bU)/\(∀p∈ps,p.2.sc=bU)/\A.length<=100/\ps.length<=100/\A≠[]/\Fc≠[]/\d=pH^b9 A Fc ps
def Kg{j:Nat}(h:(mE A a)[j]?=!d):∃x y,A[j]?=!x/\a[j]?=!y/\d=.tup [x,y]/\(A.zip a).drop j=(x,y)::(A.zip a).drop (j+1):=by
 unfold mE at h;rw[UZ]at h;cases b:A[j]? with
 |none=>rw[b]at h;cases h
 |some x=>
  cases c:a[j]? with
  |none=>rw[b,c]at h;cases h
  |some y=>
   rw[b,c]at h;show{x,y,A2,A2,(Q5 h).symm,?_};let e:(A.zip a)[j]?=!(x,y):=by
    change(List.zipWith Prod.mk A a)[j]?=_;rw[UZ,b,c]
   let{f,g}:=QN.mp e;rw[Tl f,g]
structure d9 (A:List D):Prop where
 sc:∀x∈A,x.sc=bU/\ox x
 ne:A≠[]
 len:A.length<=100
def aO (A:List D):Bool:=fT (A.headD .aw=.str "less")||fT (A.headD .aw=.str "unlike")
def uu:List D->D->Prop:=λds d=>∃A,ds=[.tup A]/\d9 A/\d=.bl^aO A
def gU (B:List Str):D:=.lst^B.map D.str
def pF:List D->D->Prop:=λds d=>∃A,ds=[.tup A]/\d9 A/\d=gU^al [] A
def holdsD (r:Str)(a b:D):Bool:=if r="unlike" then not^fT (a=b)else match a,b with
 |.int i,.int j=>fT (i<j)
 |_,_=>fF
def holdsA:List D->Bool
 |[.str r,a,b]=>holdsD r a b
 |_=>fF
def vh:List D->D->Prop:=λds d=>∃r a b,ds=[.tup [.str r,a,b]]/\a.sc=bU/\b.sc=bU/\d=.bl^holdsD r a b
def cB (as:`j):D:=.tup^as.map D.tup
def cR (as:`j):D:=.lst^as.map D.tup
def xw:List D->D->Prop:=λds d=>∃as,ds=[cB as]/\(∀a∈as,d9 a)/\as.length<=100/\d=cR^as.filter λa=> not^aO a
def qU:List D->D->Prop:=λds d=>∃as,ds=[cB as]/\(∀a∈as,d9 a)/\as.length<=100/\d=cR^as.filter aO
def sX:List D->D->Prop:=λds d=>∃l ps,ds=[.tup l,.lst^pairD ps]/\(∀x∈l,x.sc=bU)/\(∀p∈ps,p.2.sc=bU)/\l.length<=1000/\d=.tup^l.map^cF ps
def ff (B:List Str):List (aH×V):=B.map λb=>(Sum.inr b,V.bl bU)
def HL (B:ZY)(n:Str):cr (ff B) (Sum.inr n)^V.bl bU=ff (if n∈B then B else B++[n]):=by
 let a:∀B:ZY,((ff B).any λc=>fT<|c.1=(Sum.inr n:aH))=fT (n∈B):=by
  intro B;induction B with
  |nil=>rfl
  |cons b r d=>
   change(fT ((Sum.inr b:aH)=Sum.inr n)||(ff r).any λc=>fT<|c.1=(Sum.inr n:aH))=_;rw[d];have:fT ((Sum.inr b:aH)=Sum.inr n)=fT (b=n):=by simp
   rw[this];by_cases e:b=n
   .simp[e]
   .let f:¬n=b:=λz=>e z.symm;simp[e,f]
 unfold cr;rw[a B];by_cases e:n∈B
 .rw[Q9 e,Q0 A2,Q0 e]
  unfold ff;rw[Rz];show Rq λb _=>?_;change(if(Sum.inr b:aH)=Sum.inr n then((Sum.inr b:aH),V.bl bU)else(Sum.inr b,V.bl bU))=(Sum.inr b,V.bl bU)
  split<;>rfl
 .rw[Ri e,QV QW,QV e]
  unfold ff;rw[Rl];rfl
def J9(h:aG x=bU):cJ B x=if x.name∈B then B else B++[x.name]:=by
 unfold cJ;by_cases e:x.name∈B
 .rw[QV (by simp[e]),Q0 e]
 .rw[Q0 (by simp[e,h]),QV e]
def yZ(h:aG x=fF):cJ B x=B:=by unfold cJ;rw[QV^by simp[h]]
def FT {l:ZZ}{j:Nat}{x:D}(h:l[j]?=!x):al []^l.take (j+1)=cJ (al []^l.take j) x:=by
 unfold al;rw[Rs,h,R1];rfl
def mv (l:ZZ):∀B:ZY,(al B l).length<=B.length+l.length:=by
 induction l with
 |nil=>intro B;show QU _
 |cons x r a=>
  intro B;let b:=a^cJ B x
  let c:(cJ B x).length<=B.length+1:=by
   unfold cJ;split
   .rw[Q7];show QU _
   .omega
  change(al (cJ B x) r).length<=_;rw[Rw];omega
section
variable {σ:St}{δ:Dn}{M:List vb}{H:Hp}{ty tz:TE}{E:Ends}{K:kc}
def Ak(l:av M H)(f:aA `a σ δ)(k:i<δ.length)
  (q:∀p a c,(∀j:Nat,j≠i->a[j]?=σ[j]?)->a[i]?=!!.ref p->p∉M->c p=!.dK []->av (p::M) c->(∀b o,H b=!o->b≠p/\c b=!o)->aA (but c (p::M)) a^δ.set i bF->E.nx a c):dX vx (cp i) E σ H:=λp d=>by
 let m:=f.len;show q p _ _ (λj h=>QS^RG h) (Q3 Z4) (l.fresh d) aM (l.upd.cons aM) (λb o e=>?_)^wM f d
 let g:b≠p:=dy e d;show{g,by rw[aE g];show e}
def Ch{i:Nat}(l:av M H)(s:aA `a σ δ)(j:p∈M)(e:σ[i]?=!!.ref p)(t:H p=!.dK^ff B)(J:B.length<1000)(h:ag ty `a σ^.str n)(w:ag tz `a σ^.bl bU)
  (k:∀c,(∀b o,b≠p->H b=!o->c b=!o)->av M c->c p=!.dK (ff^if n∈B then B else B++[n])->aA (but c M) σ δ->E.nx σ c):p9 (aW i) ty tz E σ H:=by
 show w M H `f l _ λv x a y=>{.ref p,e,h M x (a.but M) (l.same a) _ λu r g z=>?_}
 let m:=g _ _^a _ _ t
 let A:=(gz (d:=.str n) A2 z).2;let C:=y.ik;let f:(ff B).length<se:=by unfold ff;rw[QP];show cH Z4
 show{p,_,A2,by rw[A];show gK.k (k:=Sum.inr n) m f,?_};let G:but (upd r p^.dK^cr (ff B) (Sum.inr n) v) M=but r M:=eo j;show k _ (λb o I q=>by rw[aE I];show g _ _^a _ _ q) (l.same^a.trans g).upd ?_ ?_
 .rw[aM,C,HL]
 .rw[G];show s.same^a.trans g
end
theorem Gb:∀(B:ZY),aF H (B.map V.str)^B.map D.str
 |[]=>.nil
 |b::r=>.cons (.str b)^Gb r
end FL
namespace FL
open PySem L2
section
variable {X:Cx}{x:Str}{e a b tg iter:sH}{te ta tb:TE}{pos pos':Pos}{op:CmpOp}{r:R2}{wi:TI}{g:TG}{ts:TS}{body:List uL}
def bC (i:Nat)(c:X.N.Nodup)(d:X.N[i]?=!x:=by rfl)(f:Loc X.env.scope x:=by first|show Or.inl rfl|show Or.inr rfl)(h:X.fn x=bU\/X.env.scope.names.lookup x=!.local:=by first|show .inl rfl|show .inr rfl|assumption):PG X (.Name x pos)^cp i:=Jv c d f h
def bf (i:Nat)(c:X.N.Nodup)(d:PE X e te)(f:X.N[i]?=!x:=by rfl)(h:Loc X.env.scope x:=by first|show Or.inl rfl|show Or.inr rfl)(j:swapsWith e (!.Name x pos') pos.line X.env=pure fF:=by rfl)(k:X.fn x=bU\/X.env.scope.names.lookup x=!.local:=by first|show .inl rfl|show .inr rfl|assumption):
  PS X (.Assign [.Name x pos'] e pos)^dX te^cp i:=DP c f h d j k
def gQ (c:dh X (rd op) r)(d:PE X a ta)(f:PE X b tb)(h:behindInMarks op b=fF:=by first|show Db _|rfl):PE X (.Compare a [op] [b] pos)^bT r ta tb:=PN c d f h
def cA (c:dh X (rd op) r)(d:PE X a ta)(f:PE X b tb)(h:behindInMarks op b=fF:=by first|show Db _|rfl):PT X (.Compare a [op] [b] pos)^p7^bT r ta tb:=IG c d f h
end
def lI (x:Str):[x].Nodup:=by simp
end FL
namespace cf
open PySem L2 FL
def cq (i:Nat):uL:=PySem.Challenge.pw_factloom_k09_whole_grounds.main.body.getD i^.Pass {0,0,0,0}
abbrev wG:uL:=cq 3
abbrev Am:uL:=cq 4
abbrev zf:uL:=cq 5
abbrev zp:uL:=cq 6
abbrev yt:uL:=cq 7
abbrev s_holds:uL:=cq 8
abbrev wc:uL:=cq 17
abbrev yz:uL:=cq 18
abbrev zt:uL:=cq 19
abbrev wQ:uL:=cq 20
abbrev zP:uL:=cq 21
abbrev xJ:uL:=cq 23
abbrev zM:uL:=cq 24
abbrev zF:uL:=cq 25
abbrev zJ:uL:=cq 29
abbrev Ap:uL:=cq 30
abbrev zx:uL:=cq 31
abbrev wz:uL:=cq 33
abbrev Aw:uL:=cq 34
abbrev xH:uL:=cq 36
abbrev zI:uL:=cq 37
abbrev yY:uL:=cq 38
abbrev y8:uL:=cq 39
abbrev zN:uL:=cq 40
abbrev wF:uL:=cq 41
abbrev yy:uL:=cq 42
abbrev Ay:uL:=cq 43
abbrev yl:uL:=cq 44
abbrev xy:uL:=cq 45
abbrev xL:uL:=cq 46
abbrev x6:uL:=cq 47
abbrev Ar:uL:=cq 48
abbrev Af:uL:=cq 49
abbrev x9:uL:=cq 50
abbrev yw:uL:=cq 51
abbrev yr:uL:=cq 52
abbrev xj:uL:=cq 53
abbrev oh:uL:=cq 54
def jj:uL->Nat->uL
 |.ClassDef (body:=b) ..,j=>b.getD j^.Pass {0,0,0,0}
 |s,_=>s
abbrev yG:uL:=jj (cq 22) 0
abbrev yH:uL:=jj (cq 22) 1
abbrev xz:uL:=jj (cq 22) 2
abbrev yL:uL:=jj (cq 22) 3
abbrev xf:uL:=jj (cq 26) 0
abbrev zy:uL:=jj (cq 26) 1
abbrev xS:uL:=jj (cq 26) 2
abbrev z7:uL:=jj (cq 26) 3
abbrev wD:uL:=jj (cq 26) 4
abbrev xK:uL:=jj (cq 28) 0
abbrev wq:uL:=jj (cq 28) 1
abbrev xm:uL:=jj (cq 28) 2
section
variable {P:qj}{w:pa}{K:kc}{mg:Str->Option wj}{base:rl}{f:vb}{fd:mu}
def Hz:cb ["part"] ["part"]^bH wG:=`b
def P8 (F:bB K "is_blank" "is_blank" wG f fd)(B:Bl mg):bw P w K mg base bO 1 f fd ["part"]^bI xV:=by
 show F.ok Hz (eF (n:=1) λi d j=>by let{x,e,_}:=j;rw[e];rfl) λk A g s H p Q E t h=>?_;let{M,i,d,a,l,{x,rfl,m,rfl},q}:=h;show{_,(az^bz^jI (gS B (pv 0) B.str Ud)^lR^QB^aY (pv 0) aD),?_};let E0:=iA l ["part"];cases x with
 |str s=>
  let{o,c,r,e}:=m;show eZ a ((fh (b:=bU) (mh (d:=.str s)^aI E0 A2) λ_=>KL^JT o (c:=c) (by rw[e];show iq) (aI E0 A2) ar).eq^by change D.bl (bU&&_)=D.bl^Txt.isupper _;rw[Mo e,Uc]) q
 |aw=>show eZ a (fh (b:=fF) (c:=fF) (mh (d:=.aw)^aI E0 A2) λz=>nomatch z) q
 |bl b=>show eZ a (fh (b:=fF) (c:=fF) (mh (d:=.bl b)^aI E0 A2) λz=>nomatch z) q
 |int b=>show eZ a (fh (b:=fF) (c:=fF) (mh (d:=.int b)^aI E0 A2) λz=>nomatch z) q
 |tup b=>show eZ a (fh (b:=fF) (c:=fF) (mh (d:=.tup b)^aI E0 A2) λz=>nomatch z) q
 |lst b=>show eZ a (fh (b:=fF) (c:=fF) (mh (d:=.lst b)^aI E0 A2) λz=>nomatch z) q
def Fq:cb ["atom","setting","things"] ["atom","setting"]^bH zp:=`b
def PY (F:bB K "filled" "filled" zp f fd)(B:Bl mg):bw P w K mg base bO 1 f fd ["atom","setting"]^bI sX:=by
 show F.ok Fq (eF (n:=2) λz d C=>by let{l,b,e,_}:=C;rw[e];rfl) λG A c s H I Q E t h=>?_;let{M,z,d,u,J,{l,b,rfl,L,x,N,rfl},q}:=h;let hu:=d8 t;let g:=fH t;show{_,(aC (bf 2 Fq.nd^zT B^pv 1)
   (az^bz^rQ B^gt ["things","part"] [2] 1 (cG^pv 0) (λ_ _ _ _ _=>(bC 1 (show(["things","part"]:ZY).Nodup from by decide+kernel))) (λ_ _ _ _ _=>j8) λ_ _ _ _ _=>(t6 g (pv 0) (pv 1) (pv 1) {A2,A2,A2,A2}))),?_}
 let E0:=iA J ["atom","setting","things"];let{v,O,T}:=E0.get 1 _ A2;let{a,U,rfl,Y,h2}:=T.el;show{.ref a,O,a,U,bX b,A2,aU.of (ay Y).2,vz x h2,λp y=>?_};let j:=c9 y^.dK^cg []^bX b;let k:=u.fresh y;let E1:=(E0.same j).off 2^!.ref p
 let m:but (upd H p^.dK^cg []^bX b) M p=!(.dK^cg []^bX b):=by rw[bv k];show aM
 let o:((L2.start ["atom","setting","things"] I).set 2^!V.ref p)[2]?=!!.ref p:=Q3 (by rw[E0.len];change 2<3;decide);show eZ (u.same j) (qX^aa ((iC (i:=1) (p:=λ_=>bU) (f:=cF b) (im^aI E1 A2) (λG' v d _ _ _=>kS) (λG' v d sG hd _ r=>C9 (a:=p) ?_ (sG _ _ m) (L d hd) x^de ?_ r)^cH N).eq ?_) ah) λv H2 s2 r2=>q v H2 (j.trans s2) r2
 .simp[bo,o]
 .simp[bo]
 .rw[RM.mpr λ_ _=>A2]
def sx:cb ["atom","fact","setting","things","further","part","thing"] ["atom","fact","setting"]^bH yt:=`b
def Hj (F:bB K "matched" "matched" yt f fd)(B:Bl mg)(l:bP P w K mg base 1 "is_blank" ["part"]^bI xV):bw P w K mg base bO 2 f fd ["atom","fact","setting"]^bI EG:=by
 show F.ok sx (eF (n:=3) λds d q0=>by let{_,_,_,e,_}:=q0;rw[e];rfl) λbl A a4 s H vs Q E hr h=>?_;let{M,ds,d,lv,rs,{At,Fc,u,rfl,hA,ab,an,a5,bm,nA,nF,rfl},q}:=h;let hu:=d8 hr;let ac:=fH hr;show⟨_,(aC (cc (fM (cA (gc^by show hu) (aY (pv 0) aD)^aY (pv 1) aD)^iw^cA (gc^by show hu) (cy B^pv 0)^cy B^pv 1).pt (az^bz uM) cw)
   (aC (bf 3 sx.nd^zT B^pv 2)
   (aC (bf 4 sx.nd^EU B^pv 2)
   (aC (cV Rf A2 (IT B.zip^ai (pv 0)^ai (pv 1) aq) (mZ A2^fC (bC 5 sx.nd)^fC (bC 6 sx.nd) lh)^az^cc (kz (cS^bL l hr^ai (pv 5) aq)^kO^lC^rT (by show ac) (pv 5)^pv 3).pt (aC (jW ac (pv 3) (pv 5) (pv 6) A2)
   (az^jU (pv 4)^eG^ai (pv 5)^ai (pv 6) aq))^az^cc (cA (gc^by show hu) (t6 ac (pv 3) (pv 5) (pv 5) {A2,A2,A2,A2})^pv 6) (az^bz uM) cw)
   (az^bz^pv 4))))),?_⟩
 let E0:=iA rs ["atom","fact","setting","things","further","part","thing"];let{N,A',rfl}:=Ur nA;let{O,F',rfl}:=Ur nF;let ao:=fm (hA N QQ).1<|ab O QQ
 show jG lv E0 (fy (cz^mT ao.1 ao.2 (bS (d:=N) iq (aI E0 A2) ar)^bS (d:=O) iq (aI E0 A2) ar) λ_=>cz^lN (gv^aa (aI E0 A2) ah)^gv^aa (aI E0 A2) ah) (λe H1 s1 l1 E1=>?_) λe H1 s1 l1 E1=>nx ?_
 .let hm:pH^b9 (N::A') (O::F') u=.aw:=by
   unfold b9;rw[QV];rfl;rintro⟨z1,z2⟩;let z1:N=O:=z1;rw[z2,z1]at e;simp at e
  rw[hm]at q;show q .aw H1 s1 .aw
 let v:N=O/\(N::A').length=(O::F').length:=by
  rw[Uo]at e;show{by simpa using e.1,?_};have:=e.2;simp only[Vr,Tu]at this;show Int.ofNat.inj this
 let hm:pH^b9 (N::A') (O::F') u=pH^gH u^(N::A').zip (O::F'):=by
  unfold b9;rw[Q0];show v
 rw[hm]at q;let C:=v.2;generalize N::A'=m at hA a5 q C E1;generalize O::F'=r at ab q C E1;show G4 (i:=3) (k:=2) l1 E1 Z8 A2 an λp bs H2 o2 i2 n2 h2 l2 k2 E2=>?_;show OY (i:=4) (k:=2) l2 E2 Z8 A2 λa a6 a7 H3 o3 i3 n3 h3 r3 l3 k3 E3=>?_;let a8:a7[3]?=!!.ref p:=(o3 3 Z1).trans i2;let{as,a9}:=k3 _ _ h2;let a0:ae H H2:=s1.trans λb o e=>(k2 b o e).2;let bc:ae H H3:=a0.trans λb o e=>(k3 b o e).2;let bd:H p=bF:=none_of s1 k2;let be:H a=bF:=none_of a0 k3;show i6 (M:=a::p::M) (ds:=mE m r) (NN C^aa (aI E3 A2)^aa (aI E3 A2) ah) l3 λH4 s4=>?_;show⟨λj g G=>∃Fr ws,gH u^m.zip r=gH Fr^(m.zip r).drop j/\(∀t∈Fr,t.2.sc=bU)/\Fr.length<=u.length+j/\g[3]?=!!.ref p/\g[4]?=!!.ref a/\G p=!(.dK^cg []^bX Fr)/\G a=!.lst ws/\aF (but G (a::p::M)) ws^pairD Fr/\ae H G/\av (a::p::M) G/\ae (but H4 (a::p::M))^but G (a::p::M)/\aA (but G (a::p::M)) g [!.tup m,!.tup r,!(.lst^pairD u),bF,bF,bF,bF],
  {u,a6,A2,an,by omega,a8,i3,s4 _ _ a9,s4 _ _ h3,r3.mono^s4.but _,bc.trans s4,l3.same s4,ae.refl _,E3.same s4},λj g G q1=>by let{_,_,_,_,_,_,_,_,_,_,_,x,y,_}:=q1;show{y,x},?_,?_⟩
 .rintro j d x g G bg hd ⟨Fr,ws,c,cC,bh,j3,j4,hp,ha,ra,S0,l',S',E'⟩ L rx
  let{x1,Y,ex,ey,rfl,af}:=Kg hd;let aj:=hA x1^QT ex;let am:=ab Y^QT ey;let hj:j<m.length:=(QN.mp ex).1;show pc rx λv1 v2 r1 r2=>?_;let E5:aA (but bg (a::p::M)) ((g.set 5^!v1).set 6^!v2) [!.tup m,!.tup r,!(.lst^pairD u),bF,bF,!x1,!Y]:=((E'.same L).set 5 r1).set 6 r2;let l5:=l'.same L;let b3:((g.set 5^!v1).set 6^!v2)[3]?=!!.ref p:=by rw[QS Z1,QS Z1];show j3
  let b4:((g.set 5^!v1).set 6^!v2)[4]?=!!.ref a:=by rw[QS Z1,QS Z1];show j4
  let T:=L _ _ hp;let a1:=L _ _ ha;let a2:=ra.mono^L.but (a::p::M)
  rw[af]at c;show yW l5 E5 (Jj (TV.of l5^cM^bR {x1,A2,aj.2,A2}^aa (aI E5 A2) ah) λ_=>Qh b3 T aj.1 l5^aI E5 A2) (λe H6 U l6 E6=>?_) λe H6 U l6 E6=>?_
  .obtain ⟨n,rfl⟩:∃n,x1=.str n:=by
    cases x1 with
    |str n=>show{n,A2}
    |_=>simp[aG]at e
   let I:gH u^m.zip r=gH (Fr++[(n,Y)]) ((m.zip r).drop<|j+1):=by
    rw[c];change(gW Fr (.str n) Y).bind _=_;unfold gW;rw[Q0 e];rfl
   show Az (n:=n) (y:=Y) l6 E6 Z8 b3 (U _ _ T) am Z4 (aI E6 A2) (aI E6 A2) λH7 k7 l7 h7 E7=>?_;let a3:ae (but H6 (a::p::M))^but H7 (a::p::M):=oQ Z8 k7;show vc l7 E7 (a:=a) Z8 b4 (k7 _ _ (RG as)^U _ _ a1) (a2.mono^(U.but _).trans a3) (by simp only[pairD,QP];show cH Z4) (aV^aa (aI E7 A2)^aa (aI E7 A2) ah) λv8 H8 k8 l8 h8 r8 E8=>?_;let bi:ae (but H7 (a::p::M))^but H8 (a::p::M):=oQ Z8 k8;show{Fr++[(n,Y)],_,I,x8 cC am,by rw[Q7,R6];omega,b3,b4,k8 _ _ as h7,h8,by rw[OD];show r8,oU (oU (S0.trans^L.trans U) bd k7) be k8,l8,S'.trans^((L.trans U).but _).trans^a3.trans bi,(E8.drop 5).drop 6}
  .show yW l6 E6 (KD b3 (U _ _ T) aj.1 am cC l6 (aI E6 A2)^aI E6 A2) (λe2 H7 s7 l7 E7=>?_)^λe2 H7 s7 l7 E7=>nx ?_
   .let I:gH u^m.zip r=bF:=by
     rw[c];change(gW Fr x1 Y).bind _=_;unfold gW;rw[e,QV QW,QV^by simpa using e2];rfl
    rw[I]at q;show q .aw H7 (S0.trans^L.trans^U.trans s7) .aw
   .let I:gH u^m.zip r=gH Fr ((m.zip r).drop<|j+1):=by
     rw[c];change(gW Fr x1 Y).bind _=_;unfold gW;rw[e,QV QW,Q0^by simpa using e2];rfl
    let J:=U.trans s7;show{Fr,ws,I,cC,by omega,b3,b4,J _ _ T,J _ _ a1,a2.mono^J.but _,S0.trans^L.trans J,l7,S'.trans^(L.trans J).but _,(E7.drop 5).drop 6}
 .rintro g G ⟨Fr,ws,c,cC,bh,j3,j4,hp,ha,ra,S0,l',S',E'⟩
  let nj:(m.zip r).drop (mE m r).length=[]:=UU (by simp[mE]);rw[nj]at c;rw[c]at q;show{.ref a,j4,q `n G S0 ?_};let bk:a∉M:=λz=>n3^QM _ z
  show oo bk ha^ra.mono (fe λb hb=>by
   rcases QZ.mp hb with rfl|hb
   .show QQ
   .show QM _^QM _ hb)
def JK:cb ["atom"] ["atom"]^bH Am:=`b
def J2(F:bB K "is_guard" "is_guard" Am f fd)(B:Bl mg)(g:mg "LESS"=!k/\RelV (.str "less") k)(c:mg "UNLIKE"=!l/\RelV (.str "unlike") l):bw P w K mg base bO 1 f fd ["atom"]^bI uu:=by
 show F.ok JK (eF (n:=1) λu d v=>by let{x,e,_}:=v;rw[e];rfl) λy A j s H I Q E z h=>?_;let{M,u,d,C,G,{J,rfl,m,rfl},q}:=h;let o:=d8 z;show{_,(az^bz^LK (gQ (fA^by show o) (aY (pv 0) aD)^nz A2 g.1 g.2)^lR^gQ (fA^by show o) (aY (pv 0) aD)^nz A2 c.1 c.2),?_};let E0:=iA G ["atom"];let{i,L,rfl}:=Ur m.ne;let p:=(m.sc i QQ).1;let r:=fm (a:=i) (b:=.str "less") p A2;let t:=fm (a:=i) (b:=.str "unlike") p A2;show eZ C (Nd (jO r.1 r.2 (bS (d:=i) iq (aI E0 A2) ar) aK) λ_=>jO t.1 t.2 (bS (d:=i) iq (aI E0 A2) ar) aK) q
def yC:cb ["atom","found","part"] ["atom"]^bH zf:=`b
def P0 (F:bB K "blanks_in" "blanks_in" zf f fd)(B:Bl mg)(c:bP P w K mg base 1 "is_blank" ["part"]^bI xV):bw P w K mg base bO 2 f fd ["atom"]^bI pF:=by
 show F.ok yC (eF (n:=1) λds d q0=>by let{x,e,_}:=q0;rw[e];rfl) λaf A I s H vs Q E J h=>?_;let{M,ds,d,lv,rs,{k,rfl,hA,rfl},q}:=h;let hu:=d8 J;let L:=fH J;show{_,(aC (bf 1 yC.nd oM)
   (aC (cV Rf A2 (cG^pv 0) (bC 2 yC.nd)^az^cc (cS^bL c J^ai (pv 2) aq) (az^jW L (pv 1) (pv 2) cO A2) cw)
   (az^bz^Ic B^pv 1))),?_}
 let E0:=iA rs ["atom","found","part"];show Ak (i:=1) lv E0 Z8 λp aj H1 o1 i1 n1 h1 l1 k1 E1=>?_;let N:ae H H1:=λb o e=>(k1 b o e).2;let O:H p=bF:=none_of (ae.refl H) k1;show i6 (M:=p::M) (ds:=k) (im^aI E1 A2) l1 λH2 z=>?_;show{λj g l=>g[1]?=!!.ref p/\l p=!(.dK^ff^al []^k.take j)/\ae H l/\av (p::M) l/\ae (but H2 (p::M))^but l (p::M)/\aA (but l (p::M)) g [!.tup k,bF,bF],
  {i1,z _ _ h1,N.trans z,l1.same z,ae.refl _,E1.same z},λj g l q1=>by let{_,_,_,x,y,_}:=q1;show{y,x},?_,?_}
 .rintro j d x g l T C ⟨U,t,u,l',Y,E'⟩ m rx
  let hx:=hA.sc d^QT C
  let hj:j<k.length:=(QN.mp C).1;let E3:aA (but T (p::M)) (g.set 2^!x) [!.tup k,bF,!d]:=(E'.same m).set 2 rx;let b1:(g.set 2^!x)[1]?=!!.ref p:=(QS Z1).trans U;show jG (l'.same m) E3 (cM^bR {d,A2,hx.2,A2}^aa (aI E3 A2) ah) (λe H4 r l4 G=>?_) λe H4 r l4 G=>nx ?_
  .let ab:=jD e;let v:=mv (k.take j) [];rw[SI,Rr]at v;show Ch (n:=d.name) l4 G Z8 b1 (r _ _^m _ _ t) (by have:=hA.len;omega) ((aI G A2).eq ab) (iR (b:=bU)) λH5 k5 l5 h5 E5=>?_;let S5:ae (but H4 (p::M))^but H5 (p::M):=oQ Z8 k5;show{b1,?_,oU (u.trans^m.trans r) O k5,l5,Y.trans^((m.trans r).but _).trans S5,E5.drop 2};rw[FT C,J9 e];show h5
  .show{b1,?_,u.trans^m.trans r,l4,Y.trans^(m.trans r).but _,G.drop 2}
   rw[FT C,yZ e];show r _ _^m _ _ t
 .rintro g l ⟨U,t,u,l',Y,E'⟩
  rw[Rm^QU _]at t;show{.ref p,U,p,_,A2,.inl t,λa ha=>q `n _ (u.trans^c9 ha _) ?_};let e1:(ff^al [] k).map (λkv=>kV kv.1)=(al [] k).map V.str:=by
   unfold ff;rw[Rz];rfl
  rw[e1];let ac:a∉M:=(lv.same u).fresh ha;show .lst (vs:=(al [] k).map V.str) ?_^Gb _;rw[bv ac];show aM
def sc_holds:cb ["guard","first","second"] ["guard"]^bH s_holds:=`b
def ok_holds(F:bB K "holds" "holds" s_holds f fd)(B:Bl mg)(g:mg "UNLIKE"=!G/\RelV (.str "unlike") G):bw P w K mg base bO 1 f fd ["guard"]^bI vh:=by
 show F.ok sc_holds (eF (n:=1) λds d q0=>by let{_,_,_,e,_}:=q0;rw[e];rfl) λab A l s H vs Q E hr h=>?_;let{M,ds,d,lv,rs,{r,a,b,rfl,I,J,rfl},q}:=h;let L:=d8 hr;show{_,(aC (bf 1 sc_holds.nd^aY (pv 0) aD)
   (aC (bf 2 sc_holds.nd^aY (pv 0) aD)
   (aC (cc (cA (fA^by show L) (aY (pv 0) aD)^nz A2 g.1 g.2) (az^bz^gQ (gc^by show L) (pv 1)^pv 2) cw)
   (az^bz^jI (gS B (pv 1) B.int U0)^jI (gS B (pv 2) B.int U0)^lR^gQ ny (pv 1)^pv 2)))),?_}
 let E0:=iA rs ["guard","first","second"];show D7 lv E0 (bS (d:=a) A2 (aI E0 A2) ar) λac H1 N l1 O=>?_;show D7 l1 O (bS (d:=b) A2 (aI O A2) ar) λm H2 T l2 U=>?_;let cC:=fm I J;show jG l2 U (cz^jO (d1:=.str r) (d2:=.str "unlike") A2 (Rk _) (bS (d:=.str r) A2 (aI U A2) ar) aK) (λe Y o p k=>?_) λe Y o p k=>nx ?_
 .let t:r="unlike":=by simpa using e
  show eZ p (mT cC.1 cC.2 (aI k A2)^aI k A2) λv u x y=>q v u (N.trans^T.trans^o.trans x) ?_;unfold holdsD;rw[Q0 t];show y
 .let t:¬r="unlike":=by simpa using e
  let C:ag (uz (cN (ky K)^bq (aW 1)^bq (tC^.ty "int") bM)^uz (cN (ky K)^bq (aW 2)^bq (tC^.ty "int") bM)^bT (ie λi j=>.bl<|fT<|i<j) (aW 1)^aW 2) (but Y M) m^.bl^holdsD r a b:=by
   unfold holdsD;rw[QV t];cases a with
   |int i=>
    cases b with
    |int j=>show fh (b:=bU) (c:=fT<|i<j) (qv (d:=.int i)^aI k A2) λ_=>fh (b:=bU) (qv (d:=.int j)^aI k A2) λ_=>ni (aI k A2)^aI k A2
    |str j=>show fh (b:=bU) (c:=fF) (qv (d:=.int i)^aI k A2) λ_=>fh (b:=fF) (c:=fF) (qv (d:=.str j)^aI k A2) λz=>nomatch z
    |_=>show absurd J (by simp[D.sc])
   |str i=>show(fh (b:=fF) (c:=fF) (qv (d:=.str i)^aI k A2) λz=>nomatch z)
   |_=>show absurd I (by simp[D.sc])
  show eZ p C λv u x y=>q v u (N.trans^T.trans^o.trans x) y
def Gj (p:D->Bool)(g:ZZ->Bool)(b:ZW)(h:∀a∈b,p^.tup a=g a):((b.map D.tup).filter p).map (λd=>d)=(b.filter g).map D.tup:=by
 rw[T5,SD];congr 1;show SN h
def tQ:D->Bool
 |.tup A=>aO A
 |_=>fF
def O0:cb ["body"] ["body"]^bH wc:=`b
def Ie (F:bB K "askers_in" "askers_in" wc f fd)(B:Bl mg)(b:bP P w K mg base 1 "is_guard" ["atom"]^bI uu):bw P w K mg base bO 2 f fd ["body"]^bI xw:=by
 show F.ok O0 (eF (n:=1) λk d l=>by let{x,e,_}:=l;rw[e];rfl) λm A c s H I Q E o h=>?_;let{M,k,d,t,u,{g,rfl,y,J,rfl},q}:=h;show{_,(az^bz^gt ["atom"] [] 1 (cG^pv 0) (λ_ _ _ _ _=>(bC 0^lI _)) (λ_ _ _ _ _=>(jo^d7^cS^kA b o^ai (pv 0) aq)) λ_ _ _ _ _=>(pv 0)),?_};let E0:=iA u ["body"];show eZ t (ag.eq (iC (caps:=bo [] 1) (i:=0) (p:=λd=> not^tQ d) (f:=λd=>d) (im (ds:=g.map D.tup)^aI E0 A2) (λz v d C j r=>?_) (λz v d C j _ r=>de ?_ r)^by rw[QP];show cH Z4) ?_) q
 .let{a,G,rfl}:=Q6.mp j;show dY^cM^bR (d:=.bl^tQ (.tup a)) {a,A2,y a G,A2}^aa (de (by simp[bo]) r) ah
 .simp[bo]
 .rw[Gj _ (λa=> not^aO a) g λa _=>A2]
  rfl
def M9:cb ["body"] ["body"]^bH yz:=`b
def MN (F:bB K "guards_in" "guards_in" yz f fd)(B:Bl mg)(b:bP P w K mg base 1 "is_guard" ["atom"]^bI uu):bw P w K mg base bO 2 f fd ["body"]^bI qU:=by
 show F.ok M9 (eF (n:=1) λk d l=>by let{x,e,_}:=l;rw[e];rfl) λm A c s H I Q E o h=>?_;let{M,k,d,t,u,{g,rfl,y,J,rfl},q}:=h;show{_,(az^bz^gt ["atom"] [] 1 (cG^pv 0) (λ_ _ _ _ _=>(bC 0^lI _)) (λ_ _ _ _ _=>(jo^cS^kA b o^ai (pv 0) aq)) λ_ _ _ _ _=>(pv 0)),?_};let E0:=iA u ["body"];show eZ t (ag.eq (iC (caps:=bo [] 1) (i:=0) (p:=tQ) (f:=λd=>d) (im (ds:=g.map D.tup)^aI E0 A2) (λz v d C j r=>?_) (λz v d C j _ r=>de ?_ r)^by rw[QP];show cH Z4) ?_) q
 .let{a,G,rfl}:=Q6.mp j;show cM^bR (d:=.bl^tQ (.tup a)) {a,A2,y a G,A2}^aa (de (by simp[bo]) r) ah
 .simp[bo]
 .rw[Gj _ aO g λa _=>A2]
  rfl
end
end cf
namespace FL
open PySem L2
inductive Da where
 |d (x:D)
 |k (kvs:List (aH×V))
def uy (H:Hp)(v:V):Da->Prop
 |.d x=>ap H v x
 |.k kvs=>∃a,v=.ref a/\H a=!.dK kvs
inductive mJ (H:Hp):List V->List Da->Prop
 |nil:mJ H [] []
 |cons {v:V} {x:Da} {vs:List V} {xs:List Da}:uy H v x->mJ H vs xs->mJ H (v::vs) (x::xs)
theorem mJ.length:∀{a:List V} {b:List Da},mJ H a b->a.length=b.length
 |_,_,.nil=>rfl
 |_,_,.cons _ r=>RF (· +1) r.length
def qI (t:TA)(G:Hp)(σ:St)(xs:List Da):Prop:=∀M H,ae G^but H M->av M H->∀Q:List V->Hp->Prop,(∀vs H',ae H H'->mJ (but H' M) vs xs->Q vs H')->t σ H Q
def kh (R:List Da->D->Prop):Sp:=λvs H Q _=>∃M xs d,av M H/\mJ `a vs xs/\R xs d/\∀v H',ae H H'->ap (but H' M) v d->Q v H'
section
variable {G:Hp}{σ:St}{ta:TE}{t:TA}{d:D}{xs:List Da}
def qT:qI bM G σ []:=λM H s l Q k=>k [] H `f .nil
def sQ (c:ag ta G σ d)(e:qI t G σ xs):qI (bq ta t) G σ (.d d::xs):=
 λM H s l Q k=>c M H s l _ λv f a g=>e M f (s.trans^a.but M) (l.same a) _ λj h b i=>k _ h (a.trans b)^.cons (show uy _ v^.d d from g.mono^b.but M) i
def sI{i:Nat}(e:σ[i]?=!!.ref a)(f:G a=!.dK b)(g:qI t G σ xs):qI (bq (aW i) t) G σ (.k b::xs):=
 λM H s l Q k=>{.ref a,e,g M H s l _ λm h c j=>k _ h c^.cons {a,A2,(c.but M) _ _^s _ _ f} j}
def rj{R:List Da->D->Prop}(b:R xs d)(h:qI t G σ xs):ag (ja (kh R) [] E t) G σ d:=
 λM H s l Q k=>h M H s l _ λi j a c=>{M,xs,d,l.same a,by rw[Ro];show c,b,λv e f g=>k v e (a.trans f) g}
end
def yT{R:List Da->D->Prop}(c:∀a d,R a d->a.length=n):∀b H Q E,kh R b H Q E->b.length=n:=λb H Q E f=>by let{M,a,d,l,r,e,k}:=f;rw[r.length];show c a d e
def Seen:HO->Bool
 |.lst _=>bU
 |.tup _=>bU
 |_=>fF
mutual
theorem ap.fO {H:Hp}{M:List vb}{a:vb}{o:HO}(ha:H a=!o)(hs:Seen o=fF):∀{v:V} {d:D},ap (but H M) v d->ap (but H (a::M)) v d
 |_,_,.aw=>.aw
 |_,_,.bl b=>.bl b
 |_,_,.int b=>.int b
 |_,_,.str b=>.str b
 |_,_,.tup (a:=c) h r=>by
  show .tup ?_^aF.fO ha hs r
  let{h1,h2}:=ay h
  rw[bv]
  ·show h2
  ·intro z
   rcases mem_cons.mp z with z|z
   ·rw[z,ha]at h2
    cases h2
    cases hs
   ·show h1 z
 |_,_,.lst (a:=c) h r=>by
  show .lst ?_^aF.fO ha hs r
  let{h1,h2}:=ay h
  rw[bv]
  ·show h2
  ·intro z
   rcases mem_cons.mp z with z|z
   ·rw[z,ha]at h2
    cases h2
    cases hs
   ·show h1 z
theorem aF.fO {H:Hp}{M:List vb}{a:vb}{o:HO}(ha:H a=!o)(hs:Seen o=fF):∀{vs:List V} {ds:List D},aF (but H M) vs ds->aF (but H (a::M)) vs ds
 |_,_,.nil=>.nil
 |_,_,.cons h r=>.cons (ap.fO ha hs h)^aF.fO ha hs r
end
theorem aA.fO(h:aA `a b c)(f:H a=!o)(g:Seen o=fF):aA (but H (a::M)) b c:={h.len,λi d q=>let⟨v,e,r⟩:=h.get i d q;{v,e,ap.fO f g r}}
def eQ (B:List Str):List (aH×V):=B.zipIdx.map λp=>(Sum.inr p.1,V.int (p.2:Nat))
theorem BU:∀(B:ZY) (k:Nat) (n:Str),bD ((B.zipIdx k).map λp=>((Sum.inr p.1:aH),V.int (p.2:Nat)))^Sum.inr n=if n∈B then !V.int ((k+B.idxOf n:Nat):Int)else bF
 |[],k,n=>by simp[bD]
 |b::r,k,n=>by
  rw[Wd,RB];by_cases e:b=n
  .subst e;rw[ii A2,Q0 QQ,List.idxOf_cons_self];rfl
  .let c:¬(Sum.inr b:aH)=Sum.inr n:=λz=>e^V9 z;rw[ic (by show c),BU r (k+1) n];by_cases a:n∈r
   .let d:(b::r).idxOf n=r.idxOf n+1:=by rw[List.idxOf_cons,show(b==n)=fF from by simpa using e];rfl
    rw[Q0 a,Q0^QM _ a,d];congr 3;omega
   .rw[QV a,QV (by
     intro z;rcases QZ.mp z with z|z
     .show e z.symm
     .show a z)]
def slot_get (B:ZY)(n:Str):bD (eQ B)^Sum.inr n=if n∈B then !V.int (B.idxOf n:Nat)else bF:=by
 have:=BU B 0 n;rw[Tc]at this;show this
section
variable {G:Hp}{σ:St}{ty:TE}{a:vb}{i:Nat}{B:List Str}{n:Str}
def F9 (e:σ[i]?=!!.ref a)(c:G a=!.dK^eQ B)(h:ag ty G σ^.str n):bu (tB^pr ty^aW i) G σ^fT (n∈B):=λM H s l Q k=>h M H s l _ λv f b g=>by
 let j:=b _ _ (ay^s _ _ c).2;show{.ref a,e,a,bD (eQ B)^Sum.inr n,A2,by rw[(gz (d:=.str n) A2 g).2];show dg.k j,_,A2,?_};have:(bD (eQ B)^Sum.inr n).isSome=fT (n∈B):=by rw[slot_get];by_cases z:n∈B<;>simp[z]
 rw[this];show k f b
def CD (e:σ[i]?=!!.ref a)(c:G a=!.dK^eQ B)(f:n∈B)(h:ag ty G σ^.str n):ag (yA (aW i) ty) G σ^.int (B.idxOf n:Nat):=λM H s l Q k=>{.ref a,e,h M H s l _ λv g b j=>by
 let m:=b _ _ (ay^s _ _ c).2;show{a,.int (B.idxOf n:Nat),A2,?_,k _ g b^.int _};have:(!(V.int (B.idxOf n:Nat)))=bD (eQ B)^Sum.inr n:=by rw[slot_get,Q0 f]
 rw[this,(gz (d:=.str n) A2 j).2];show dg.k m}
end
def dB (A:List D)(B:List Str):List Nat:=((al [] A).filter λb=>fT (b∈B)).map B.idxOf
def xQ:List Da->D->Prop:=λxs d=>∃A B,xs=[.d^.tup A,.k^eQ B]/\d9 A/\d=.lst^(dB A B).map λn=>D.int (n:Nat)
def cK (A:List D)(B:List Str):Bool:=fT ((dB A B).length=(al [] A).length)
def EN:List Da->D->Prop:=λxs d=>∃A B,xs=[.d^.tup A,.k^eQ B]/\d9 A/\d=.bl^cK A B
inductive nh (G:Hp):List V->Dn->Prop
 |nil:nh G [] []
 |dat {v:V} {d:D} {vs:List V} {ds:Dn}:ap G v d->nh G vs ds->nh G (v::vs) ((!d)::ds)
 |raw {v:V} {vs:List V} {ds:Dn}:nh G vs ds->nh G (v::vs) (bF::ds)
theorem nh.get:∀{a:List V} {b:Dn},nh G a b->a.length=b.length/\∀(i:Nat) (d:D),b[i]?=!!d->∃v,a[i]?=!v/\ap G v d
 |_,_,.nil=>{A2,λi d q=>by simp at q}
 |_,_,.dat h t=>{RF (· +1) t.get.1,λi d q=>match i,q with
  |0,q=>{_,A2,by have:=Q5^Q5 q;rw[<-this];show h}
  |i+1,q=>t.get.2 i d q}
 |_,_,.raw t=>{RF (· +1) t.get.1,λi d q=>match i,q with
  |0,q=>by cases q
  |i+1,q=>t.get.2 i d q}
def gO {G:Hp}{vs:List V}{ds:Dn}(h:nh G vs ds)(N:ZY):aA G (L2.start N vs) (ds++List.replicate (N.length-ds.length) bF):=by
 let{hl,hg}:=h.get;show{by simp[L2.start,hl],λi d q=>?_};unfold L2.start;by_cases hi:i<ds.length
 .rw[Rj hi]at q
  let{v,h1,h2}:=hg i d q;show{v,by rw[Rj (by simpa using(by omega:i<vs.length)),QY,h1];rfl,h2}
 .rw[Rn^RA hi]at q
  let{h1,h2}:=QN.mp q;simp at h2
end FL
namespace cf
open PySem L2 FL
section
variable {P:qj}{w:pa}{K:kc}{mg:Str->Option wj}{base:rl}{f:vb}{fd:mu}
def yS(h:mJ H a [x,y]):∃v w,a=[v,w]/\uy H v x/\uy H w y:=by
 cases h with
 |cons h t=>cases t with
  |cons b c=>cases c;show{_,_,A2,h,b}
def Ox:cb ["atom","slots"] ["atom","slots"]^bH xJ:=`b
def QA (F:bB K "slots_of" "slots_of" xJ f fd)(B:Bl mg)(G_blanks_in:bP P w K mg base 2 "blanks_in" ["atom"]^bI pF):bw P w K mg base bO 3 f fd ["atom","slots"]^kh xQ:=by
 show F.ok Ox (yT (n:=2) λds d q0=>by let{_,_,e,_}:=q0;rw[e];rfl)^λcdv A outer s H vs Q E hr h=>?_;let{M,ds,d,lv,rs,{At,Bs,rfl,hA,rfl},q}:=h;let hu1:=fH hr;let{v0,v1,rfl,r0,{a,rfl,ha}}:=yS rs;let r0:ap `a v0^.tup At:=r0;show{_,(az^bz^gt ["slots","blank"] [1] 1 (cG^bL G_blanks_in hr^ai (pv 0) aq) (λ_ _ _ _ _=>(bC 1 (show(["slots","blank"]:ZY).Nodup from by decide+kernel))) (λ_ _ _ _ _=>(jo^lC^sR (by show hu1) (pv 1)^pv 0))^λ_ _ _ _ _=>(y4 (by show hu1) (pv 0) (pv 1)^λ_ _=>A2)),?_};let E0:aA `a (L2.start ["atom","slots"] [v0,.ref a]) [!.tup At,bF]:=gO (.dat r0^.raw .nil) ["atom","slots"];let hlen:=mv At [];rw[SI]at hlen;let hAl:=hA.len;show eZ lv (ag.eq (iC (caps:=bo [1] 1) (i:=1) (p:=λd=>fT (d.name∈Bs)) (f:=λd=>.int ((Bs.idxOf d.name:Nat):Int)) (ef (ds:=(al [] At).map D.str)^bR {At,A2,hA,A2}^aa (aI E0 A2) ah) (λG' v d sG hd r=>?_) (λG' v d sG hd hp r=>?_)^by rw[QP];show cH Z4) ?_) q
 .let{b,hb,rfl}:=Q6.mp hd;show F9 (n:=b) (a:=a) (by simp[bo,L2.start]) (sG _ _ ha)^de (by simp[bo]) r
 .let{b,hb,rfl}:=Q6.mp hd;show CD (n:=b) (a:=a) (by simp[bo,L2.start]) (sG _ _ ha) (Q8 hp)^de (by simp[bo]) r
 .unfold dB;rw[SD,Rz,Rz];rfl
def L8:cb ["guard","slots"] ["guard","slots"]^bH zM:=`b
def PP (F:bB K "is_ready" "is_ready" zM f fd)(B:Bl mg)(G_blanks_in:bP P w K mg base 2 "blanks_in" ["atom"]^bI pF)(G_slots_of:bP P w K mg base 3 "slots_of" ["atom","slots"]^kh xQ):bw P w K mg base bO 4 f fd ["guard","slots"]^kh EN:=by
 show F.ok L8 (yT (n:=2) λds d q0=>by let{_,_,e,_}:=q0;rw[e];rfl)^λcdv A outer s H vs Q E hr h=>?_;let{M,ds,d,lv,rs,{At,Bs,rfl,hA,rfl},q}:=h;let hu:=d8 hr;let hu1:=fH hr;let{v0,v1,rfl,r0,{a,rfl,ha}}:=yS rs;let r0:ap `a v0^.tup At:=r0;show{_,(az^bz^gQ (fA^by show hu) (cy B^bL G_slots_of hr^ai (pv 0)^ai (pv 1) aq)^cy B^bL G_blanks_in hr^ai (pv 0) aq),?_};let E0:aA `a (L2.start ["guard","slots"] [v0,.ref a]) [!.tup At,bF]:=gO (.dat r0^.raw .nil) ["guard","slots"];show eZ lv (ag.eq (jR (dW^aa (rj {At,Bs,A2,hA,A2}^sQ (aI E0 A2)^sI (a:=a) A2 ha qT) ah)^dW^aa (bR {At,A2,hA,A2}^aa (aI E0 A2) ah) ah) ?_) q;unfold cK;rw[QP,QP];congr 1;show TF.mpr Int.ofNat_inj
end
end cf
namespace FL
open PySem L2
section
variable {G:Hp}{σ:St}{wi:TI}{tt:TT}{te:TE}{K:kc}
def By{caps:St->St}(ab:i≠j){ps:List (D×D)}{p:D×D->Bool}{f:D×D->D}(hw:Walk wi G σ^ps.map λq=>.tup [q.1,q.2])
  (ht:∀t I L q,ae G t->q∈ps->ap t I q.1->ap t L q.2->bu tt t (((caps σ).set i^!I).set j^!L)^p q)
  (he:∀t I L q,ae G t->q∈ps->p q=bU->ap t I q.1->ap t L q.2->ag te t (((caps σ).set i^!I).set j^!L)^f q) (hz:ps.length<se):
  ag (iU wi caps (pf K 2 (ki (cp i)^ki (cp j) pi)) tt te) G σ^.lst^(ps.filter p).map f:=λM H s l Q k=>hw M H s l _ λJ H1 s1 ac B D hD=>by
 let lf:D∉M:=(l.same s1).fresh hD;let af:ae G^but H1 M:=s.trans^s1.but M
 let aj:(ps.map λq=>FL.D.tup [q.1,q.2]).length=ps.length:=QP _;show{λm n τ u=>n=ps.length-m/\m<=ps.length/\(∀v w,(τ.set i^!v).set j (!w)=((caps σ).set i^!v).set j^!w)/\ae H1 u/\∃h,u D=!.lst h/\aF (but u (D::M)) h^((ps.take m).filter p).map f,
  {ps.length,by simp,Rk _,λ_ _=>A2,c9 hD _,[],aM,by simpa using aF.nil},?_}
 rintro m n τ u ⟨rfl,hj,am,N,h,y,O⟩;let hs:ae (but H1 M)^but u (D::M):=jA hD N;let hl:av (D::M) u:=((l.same s1).same N).cons y;by_cases C:m<ps.length
 .let hd:ps[m]?=some ps[m]:=QO C;let d6:(ps.map λq=>FL.D.tup [q.1,q.2])[m]?=!.tup [ps[m].1,ps[m].2]:=by rw[QY,hd];rfl
  let{go,gy}:=ac m _ (D::M) u d6 hs hl;show .inr {go,λT d=>(∀v w,(T.set i^!v).set j (!w)=((caps σ).set i^!v).set j^!w)/\ae H1 d/\∃h,d D=!.lst h/\aF (but d (D::M)) h^((ps.take<|m+1).filter p).map f,
   λT d q0=>by let{a,b,c}:=q0;show{ps.length-(m+1),by omega,A2,C,a,b,c},λx d hy=>?_}
  let{z,rx}:=gy x d hy;let hm:ps[m]∈ps:=Sr C;let sG:ae G^but d (D::M):=af.trans^hs.trans^z.but _;let U:=hl.same z;show pc rx λY E r1 r2=>?_;change tt ((τ.set i^!Y).set j^!E) d _;rw[am Y E];let tk:(ps.take<|m+1).filter p=(ps.take m).filter p++(if p ps[m]=bU then [ps[m]]else []):=by
   rw[Rs,hd,R7];congr 1;by_cases A:p ps[m]=bU
   .simp[A]
   .simp[A]
  show ht _ Y E _ sG hm r1 r2 (D::M) d `f U _ λH4 r=>?_;let g:∀v w,((((caps σ).set i^!Y).set j^!E).set i^!v).set j (!w)=((caps σ).set i^!v).set j^!w:=λv w=>by
   rw[List.set_comm (!E) (!v)^RG ab,Wk,Wk]
  by_cases A:p ps[m]=bU
  .rw[Q0 A]
   show he _ Y E _ (sG.trans^r.but _) hm A (r1.mono^r.but _) (r2.mono^r.but _) (D::M) H4 `f (U.same r) _ λv H5 s5 r5=>?_;let an:H5 D=!.lst h:=s5 _ _^r _ _^z _ _ y
   let ao:=O.length;let as:(((ps.take m).filter p).map f).length<=m:=by
    rw[QP];have:=Rv p^ps.take m
    rw[Rr]at this;omega
   show{h,an,by omega,g,?_,h++[v],aM,?_}
   .intro b o e;rw[aE^dy e hD];show s5 _ _^r _ _^z _ _^N _ _ e
   .rw[eo QQ,tk,Q0 A,Rl]
    show(O.mono^((z.trans r).trans s5).but _).snoc r5
  .rw[QV A]
   show{g,N.trans^z.trans r,h,r _ _^z _ _ y,?_};rw[tk,QV A,Ro];show O.mono^(z.trans r).but _
 .let e:m=ps.length:=by omega
  subst e;show .inl {?_,k _ u (s1.trans N)^oo lf y ?_}
  .have:=B (D::M) u hs;rw[aj]at this;show this
  .rw[Rm^QU _]at O
   show O
def Js(h:ag a G σ d):ag (bT (λx y H Q=>y=.aw/\Q (.bl^not^fT (x=.aw)) H) a^tC .aw) G σ^.bl^not^fT (d=.aw):=
 λM H s l Q k=>h M H s l _ λv b c e=>{A2,by rw[Kh e];show k _ b c^.bl _}
end
mutual
def D.gx:D->Bool
 |.lst _=>fF
 |.tup l=>D.je l
 |_=>bU
def D.je:List D->Bool
 |[]=>bU
 |d::r=>D.gx d&&D.je r
end

end FL
namespace FL
open PySem L2
def nQ (o:Nat×aT):D:=.tup [.int (o.1:Nat),.lst^pairD o.2]
def fU (of:List dP)(key:List D):List dP:=of.filter λo=>fT (o.1=key)
def ju (of:List dP)(key:List D):List D:=(fU of key).map λo=>nQ o.2
def cx (key:List D):List aH:=key.map D.key
def bV (key:List D):Prop:=∀x∈key,x.sc=bU
theorem sw:∀{a b:ZZ},bV a->bV b->cx a=cx b->a=b
 |[],[],_,_,_=>rfl
 |[],_::_,_,_,h=>by cases h
 |_::_,[],_,_,h=>by cases h
 |x::r,y::t,d,e,h=>by
  let{f,g}:=Tx h;rw[(xU (d x QQ)^e y QQ).mp f,sw (λz c=>d z^QM _ c) (λz c=>e z^QM _ c) g]
theorem oY:∀{b:List V} {a:ZZ},bV a->aF H b a->b=(cx a).map kV
 |_,[],_,.nil=>rfl
 |_,d::r,h,.cons c t=>by
  rw[(gz (h d QQ) c).2,oY (λx e=>h x^QM _ e) t];rfl
def qF (G:Hp)(p:vb)(of:List dP):Prop:=∃kvs:List (List aH×V),G p=!.dT kvs/\(kvs=[]↔of=[])/\∀key,bV key->(bD kvs^cx key=bF->fU of key=[])/\∀v,bD kvs^cx key=!v->ap G v^.lst^ju of key
theorem qF.mono(e:ae G c)(h:qF G p d):qF c p d:=by
 let{b,i,j,f}:=h;show{b,e _ _ i,j,λa g=>{(f a g).1,λv k=>((f a g).2 v k).mono e}}
def mn {H:Hp}{M M':ZX}(h:∀a,a∈M↔a∈M'):but H M=but H M':=by
 funext b;unfold FL.but;by_cases z:b∈M
 .rw[Q0 z,Q0^(h b).mp z]
 .rw[QV z,QV λq=>z^(h b).mpr q]
structure fu (H:Hp)(M:List vb)(p:vb)(ls:List vb)(of:List dP):Prop where
 kvs:∃kvs:List (List aH×V),H p=!.dT kvs/\kvs.length<=of.length/\(kvs=[]↔of=[])/\
  (∀key,bV key->(bD kvs^cx key=bF->fU of key=[])/\∀v,bD kvs^cx key=!v->∃l vs,v=.ref l/\l∈ls/\H l=!.lst vs/\aF (but H (ls++p::M)) vs^ju of key)/\
  ∀key key' l,bV key->bV key'->bD kvs^cx key=!.ref l->bD kvs^cx key'=!.ref l->key=key'
 lists:∀l∈ls,∃vs,H l=some (.lst vs)
 apart:p∉ls
def fu.KJ(h:fu H M p b d)(e:∀a,a∈b++p::M↔a∈b++p::c):fu H c p b d:=by
 let{k,l,a}:=h;rw[mn e]at k;show{k,l,a}
def fu.rep(h:fu H M p d e)(i:p∉M)(j:∀l∈d,l∉M):qF `a p e:=by
 let{c,k,_,m,f,_}:=h.kvs;show{c,by rw[bv i];show k,m,λa g=>{(f a g).1,λv n=>?_}};let{l,t,rfl,o,q,r}:=(f a g).2 v n;show .lst (by rw[bv^j l o];show q)^r.mono^fe λb s=>Q1 _^QM _ s
def Fk (b:List dP)(a:ZZ)(o:Nat×aT):fU (b++[(a,o)]) a=fU b a++[(a,o)]:=by
 unfold fU;rw[R7];simp
def vY(c:List dP)(o:Nat×aT)(h:¬b=a):fU (c++[(b,o)]) a=fU c a:=by
 unfold fU;rw[R7];simp[h]
def fu.same(h:fu H M p f g)(e:ae H d):fu d M p f g:=by
 let{b,k,m,n,i,o}:=h.kvs;show{{b,e _ _ k,m,n,λa j=>{(i a j).1,λv q=>?_},o},λl r=>let⟨c,z⟩:=h.lists l r;{c,e _ _ z},h.apart};let{l,c,s,t,u,w}:=(i a j).2 v q;show{l,c,s,t,e _ _ u,w.mono^e.but _}
section
variable {σ:St}{M:List vb}{H:Hp}{ty te:TE}{E:Ends}{K:kc}
def Qo{to:TE}(l:av (g++p::M) H)(e:∀Q:VK,Q (.ref p) H->to σ H Q)(s:fu H M p g O)(hk:bV key)(hz:O.length<1000)
  (h:ag ty (but H (g++p::M)) σ^.tup key) (h2:ag te (but H (g++p::M)) σ^nQ o)
  (k:∀B H',(∀a∈B,a∈g\/H a=bF)->(∀a∈g,a∈B)->(∀b u,b≠p->b∉g->H b=!u->H' b=!u)->av (B++p::M) H'->fu H' M p B (O++[(key,o)])->E.nx σ H'):
  kQ (lp K "list" pp (zh to ty^ma bM)^bq te bM) E σ H:=by
 let{d,g1,gn,g2,g3,g4}:=s.kvs;show e _ {p,A2,.inr {d,.inl g1},h _ H `f l _ λkv H1 x rk=>{Rk _,λf C=>?_}};let O1:=s.same x;let{b,bs,rfl,hb,a5}:=rk.fS;let ao:=(ay hb).2;let a6:=oY hk a5;rw[a6]at ao;let m:=c9 C^.lst [];let ab:=m _ _ ao;let I:(upd H1 f^.lst []) p=!.dT d:=m _ _^x _ _ g1;let n:p≠f:=λz=>by have:=x _ _ g1;rw[z,C]at this;cases this
 let as:f∉g:=λz=>by
  let{vs,q}:=s.lists f z;have:=x _ _ q;rw[C]at this;cases this
 let ac:H f=bF:=by
  cases q:H f with
  |none=>rfl
  |some u=>have:=x _ _ q;rw[C]at this;cases this
 let bd:∀v G,ap G v^nQ o->ap G v^nQ o:=λ_ _ z=>z;cases J:bD d^cx key with
 |some v=>
  let{y,vs,rfl,m1,m2,m3}:=(g3 key hk).2 v J;let a0:(upd H1 f^.lst []) y=!.lst vs:=m _ _^x _ _ m2;show{.ref y,_,.inl {by rw[<-J];show dg.t I ab,A2,_,I},(show iZ K "list" (.ref y) _ from .inl {A2,vs,aU.of a0}),?_};let S1:ae H^upd H1 f^.lst []:=x.trans m;show h2 _ _ (S1.but _) (l.same S1) _ λv T U r5=>{y,vs,v,A2,A2,U _ _ a0,?_,?_}
  .rw[m3.length]
   unfold ju;rw[QP];have:=Rv (λo=>fT<|o.1=key) O;show cH (by unfold fU;omega)
  .let S5:ae H T:=S1.trans U;let a7:y∈g++p::M:=Q2 _ m1;let eb:but (upd T y (.lst<|vs++[v])) (g++p::M)=but T (g++p::M):=eo a7;let a3:y≠p:=λz=>s.apart<|z▸m1
   show k g _ (λa r=>.inl r) (λa r=>r) (λb u hb a4 q=>?_) (l.same S5).upd {{d,?_,?_,?_,λc i=>{λL=>?_,λv' j=>?_},g4},λa r=>?_,s.apart}
   .rw[aE λz:b=y=>a4^by rw[z];show m1];show S5 _ _ q
   .rw[aE^RG a3];show S5 _ _ g1
   .rw[Q7];omega
   .constructor
    .intro z;rw[z]at J;cases J
    .intro z;show absurd z Z8
   .let ne:¬key=c:=λz=>by rw[<-z,J]at L;cases L
    rw[vY O o ne];show(g3 c i).1 L
   .let{N,Y,rfl,A,q2,q3}:=(g3 c i).2 v' j;by_cases hl:N=y
    .subst hl;have:key=c:=g4 key c N hk i J j;subst this;show{N,vs++[v],A2,A,aM,?_};rw[eb];unfold ju;rw[Fk,Rl];show(m3.mono^S5.but _).snoc r5
    .let ne:¬key=c:=λz=>by subst z;rw[J]at j;cases j;show hl A2
     show{N,Y,A2,A,by rw[aE hl];show S5 _ _ q2,?_};rw[eb];unfold ju;rw[vY O o ne];show q3.mono^S5.but _
   .let{Y,q}:=s.lists a r;by_cases hl:a=y
    .show{_,by rw[hl];show aM}
    .show{Y,by rw[aE hl];show S5 _ _ q}
 |none=>
  let af:=(g3 key hk).1 J;let aj:d.length<se:=cH Z4;show{.ref f,_,.inr {by rw[<-J];show dg.t I ab,A2,gK.t I ab aj},?_};let am:(upd (upd H1 f^.lst []) p^.dT^cr d (cx key) (.ref f)) f=!.lst []:=by rw[aE^RG n];show aM
  show{(show iZ K "list" (.ref f) _ from .inl {A2,[],aU.of am}),?_};let pM:p∈g++p::M:=Q1 _ QQ;let SB:ae (but H (g++p::M))^but (upd (upd H1 f^.lst []) p^.dT^cr d (cx key) (.ref f)) (f::(g++p::M)):=λb u q=>by
   let{A,q2}:=ay q;let an:b≠f:=λz=>by rw[z,ac]at q2;cases q2
   let a8:b≠p:=λz=>A<|z▸pM
   rw[bv (by simp only[QZ,Ws];show{an,A}),aE a8];show m _ _^x _ _ q2
  let l4:av (f::(g++p::M))^upd (upd H1 f^.lst []) p^.dT^cr d (cx key) (.ref f):=((l.same^x.trans m).upd).cons am;show h2 _ _ SB l4 _ λv T U r5=>{f,[],v,A2,A2,U _ _ am,(show 0<se by decide),?_}
  let KH:∀b u,b≠p->H b=!u->(upd T f (.lst<|[]++[v])) b=!u:=λb u hb q=>by
   let an:b≠f:=λz=>by rw[z,ac]at q;cases q
   rw[aE an];show U _ _ ?_;rw[aE hb];show m _ _^x _ _ q
  let eb:but (upd T f (.lst<|[]++[v])) (f::(g++p::M))=but T (f::(g++p::M)):=eo QQ;let a9:ae (but H (g++p::M))^but (upd T f (.lst<|[]++[v])) (f::(g++p::M)):=by rw[eb];show SB.trans^U.but _
  let eK:∀c,bV c->bD (cr d (cx key)^.ref f)^cx c=if c=key then !.ref f else bD d^cx c:=λc i=>by
   rw[zH];by_cases z:c=key
   .rw[Q0 z,Q0^by rw[z]]
   .rw[QV z,QV λw=>z^sw i hk w]
  show k (f::g) _ (λa r=>?_) (λa r=>QM _ r) (λb u hb a4 q=>KH b u hb q) (l4.same U).upd {{cr d (cx key)^.ref f,?_,?_,?_,λc i=>{λL=>?_,λv' j=>?_},λk1 k2 N a1 a2 b1 b2=>?_},λa r=>?_,?_}
  .rcases QZ.mp r with z|z
   .show .inr (by rw[z];show ac)
   .show .inl z
  .rw[aE n]
   show U _ _ ?_;show aM
  .have:=oI d (cx key)^.ref f;rw[Q7,R6];omega
  .constructor
   .intro z;have:=eK key hk;rw[z,Q0 A2]at this;cases this
   .intro z;show absurd z Z8
  .rw[eK c i]at L
   by_cases z:c=key
   .rw[Q0 z]at L;cases L
   .rw[QV z]at L
    rw[vY O o λw=>z w.symm];show(g3 c i).1 L
  .rw[eK c i]at j
   by_cases z:c=key
   .rw[Q0 z]at j
    cases j;show{f,_,A2,QQ,aM,?_};rw[U7,eb,z];unfold ju;rw[Fk,af];show .cons r5 .nil
   .rw[QV z]at j
    let{N,Y,rfl,A,q2,q3}:=(g3 c i).2 v' j;show{N,Y,A2,QM _ A,KH _ _ (λw=>s.apart<|w▸A) q2,?_};unfold ju;rw[vY O o λw=>z w.symm];show q3.mono a9
  .rw[eK k1 a1]at b1
   rw[eK k2 a2]at b2;let no:∀kk,bV kk->¬bD d^cx kk=!.ref f:=λkk bc z=>by
    let{N,Y,q0,A,_}:=(g3 kk bc).2 _ z;cases q0;show as A
   by_cases z1:k1=key
   .by_cases z2:k2=key
    .rw[z1,z2]
    .rw[Q0 z1]at b1
     rw[QV z2]at b2;cases b1;show absurd b2^no k2 a2
   .rw[QV z1]at b1
    by_cases z2:k2=key
    .rw[Q0 z2]at b2
     cases b2;show absurd b1^no k1 a1
    .rw[QV z2]at b2
     show g4 k1 k2 N a1 a2 b1 b2
  .rcases QZ.mp r with z|z
   .show{_,by rw[z];show aM}
   .let{Y,q}:=s.lists a z;show{Y,KH _ _ (λw=>s.apart<|w▸z) q}
  .intro z;rcases QZ.mp z with z|z
   .show n z
   .show s.apart z
end
end FL
namespace L2
open PySem PySem.Spec PyProof.Rows
def Oe (x d:wj):argsOk "max" {[x],[("default",d)]}:=by unfold argsOk;kernel_rfl
def sj:Option wj->Array wj
 |none=> `r
 |some v=> (List.toArray [v,v])
section
variable {prog:qj}{w:pa}{A:om}{R:Result->ot->Prop}{I:vb}{fp wr:List vb}{n:Nat}{P:Nat->wj->Prop}{St:Nat->rl->Prop}
def QC (W:Walks prog w A.in1 I fp wr n P St)(u:Nat->Nat->Bool)(J:CmpOf prog w A.in1 .Gt P u)(S:vb)(y:S∉fp)(d:wj):
  ∀(k j:Nat) (s:ot) (B:Option wj) (c:Nat),n-j=k->j<=n->St j s.heap->(B=bF->j=0)->(∀l,B=!l->0<j/\P (argBest u (j-1)) l)->
  s.heap.get? S=!{cls:=.type "list",dict:=bF,data:=.seq (sj B) c,slots:= `r}->
  (∀v C E,(n=0->v=d)->(0<n->P (argBest u (n-1)) v)->(∀b o,b∉wr->b≠S->s.heap.get? b=!o->C.get? b=!o)->R (.ok^.ret v) {s with heap:=C,toks:=E})->
  qi `i A (.builtin "max.loop" {[.ref I,.none,.ref S],[("default",d)]}) R s:=by
 let G:S∉wr:=λh=>y^W.sub _ h
 let Y:(toString "max"++toString ".loop":String)="max.loop":=by decide
 intro k;induction k with
 |zero=>
  intro j s B c hk hj p h0 h1 x H;let ab:j=n:=by omega
  subst ab;show S9 F.entry_max_loop ?_;rw[SO TH _];cases B with
  |none=>
   let z:=h0 A2;show QL^R5 (items:=sj bF) (n:=c) (o:=_) x A2 ?_
   show QL^Ul^W.done s _ _ p λC E a=>?_
   show QL^UJ^QX ?_
   show H d C E (λ_=>A2) (λq=>by omega) λb o f _ e=>a b o f e
  |some l=>
   let{z1,T}:=h1 l A2;show QL^R5 (items:=sj^!l) (n:=c) (o:=_) x A2 ?_;show QL^Ul^W.done s _ _ p λC E a=>?_;let i:=a S _ G x;show QL^U9 (hz:=show 2<=se from by decide) i A2^QL^Uk^QX ?_;show H l _ E (λq=>by omega) (λ_=>T) λb o f g e=>(Sh _ _^RG g).trans^a b o f e
 |succ k ih=>
  intro j s B c hk hj p h0 h1 x H;let r:j<n:=by omega
  show S9 F.entry_max_loop ?_;rw[SO TH _];cases B with
  |none=>
   let z:=h0 A2;subst z;show QL^R5 (items:=sj bF) (n:=c) (o:=_) x A2 ?_
   show QL^Ul^W.item 0 s _ _ r p λv C E U m a=>?_
   let i:=a S _ G x;show QL^QX^QL^U9 i A2 ?_
   rw[Y];show QX {Ub TH _,ih 1 _ (!v) _ Z4 r (W.frame _ _ _ m λb f o e=>?_) (λq=>nomatch q) (λl q=>by cases q;show{by decide,U}) (SE _ i A2) λL M t N O Q=>?_}
   .show(Sh _ _ λq:S=b=>y^by rw[q];show f).trans e
   .show H L M t N O λb o f g e=>Q b o f g^(Sh _ _^RG g).trans^a b o f e
  |some l=>
   let{z1,T}:=h1 l A2;show QL^R5 (items:=sj^!l) (n:=c) (o:=_) x A2 ?_;show QL^Ul^W.item j s _ _ r p λv C E U m a=>?_;let i:=a S _ G x;let ej:j=(j-1)+1:=by omega
   let nx:argBest u j=if u j (argBest u<|j-1)then j else argBest u (j-1):=by
    conv=>lhs;rw[ej]
    rw[argBest,<-ej]
   show QL^QX^QL^Ul^So^QL^J j (argBest u<|j-1) v l _ _ _ U T ?_
   show QL^So^Sk ?_
   show QL^Uk^QX ?_
   cases f:u j (argBest u<|j-1)with
   |true=>
    rw[f,Q0 A2]at nx;show QL^U9 (hz:=show 2<=se from by decide) i A2^QL^Uk ?_
    rw[Y];show QX {Ub TH _,ih (j+1) _ (!v) _ Z4 r (W.frame _ _ _ m λb f o e=>?_) (λq=>nomatch q) (λl q=>by cases q;show{by omega,by rw[UK,nx];show U}) (SE _ i A2) λL M t N O Q=>?_}
    .show(Sh _ _ λq:S=b=>y^by rw[q];show f).trans e
    .show H L M t N O λb o f g e=>Q b o f g^(Sh _ _^RG g).trans^a b o f e
   |false=>
    rw[f,QV QW]at nx;show QL^Uk ?_
    rw[Y];show QX {Ub TH _,ih (j+1) _ (!l) c Z4 r m (λq=>nomatch q) (λl q=>by cases q;show{by omega,by rw[UK,nx];show T}) i λL M t N O Q=>?_};show H L M t N O λb o f g e=>Q b o f g^a b o f e
end
section
variable {prog:qj}{w:pa}{A:om}{E:wj->ot->Prop}{s:ot}
def Do{Q:ZT}
  (h:gE `i A.in1 (pyIter x) (λr a=>∃I f j n P St g,r=.ref I/\Walks prog w A.in1 I f j n P St/\St 0 a.heap/\(∀b∈f,b<a.heap.objs.size)/\CmpOf prog w A.in1 .Gt P g/\
   ∀v i k,(n=0->v=d)->(0<n->P (argBest g (n-1)) v)->(∀b o,b∉j->a.heap.get? b=!o->i.get? b=!o)->Q v {a with heap:=i,toks:=k}) E s):
  gE `i A (call (.builtin "max") [x] [("default",d)]) Q E s:=by
 let t:(toString "max"++toString ".loop":String)="max.loop":=by decide
 show kmk_tree F.kind_max F.plain_max F.entry_max (Oe x d) ?_;show QL^VB (show Builtin.Builtins.bindParams "max" ["key","default"] 0 {[],[("default",d)]}=pure [bF,!d]from A2) ?_
 show QL^QX^QL^RV h (λr a u=>?_) λ_ _ e=>e
 let{I,f,j,n,P,St,g,rfl,W,l,m,c,y}:=u;show QL^RS ?_;let p:a.heap.objs.size∉f:=λz=>Sm _^m _ z;rw[t];show QX {Ub TH _,QC W g c a.heap.objs.size p d n 0 _ bF 0 (Wn n) (Rk n) (W.frame _ _ _ l λb _ o e=>QR _ e) (λ_=>A2) (λJ q=>nomatch q) (Ra _ A2) λv i k B C G=>?_};show y v i k B C λb o H e=>G b o H (Rp^Re e)^QR _ e
end
def gf (is:List Int)(n:Int):Int:=match is with
 |[]=>n
 |i::r=>r.foldl max i
theorem AM (f:Nat->Int):∀k,f^argBest (λi j=>fT (f i>f j)) k=((List.range k).map λi=>f (i+1)).foldl max^f 0
 |0=>rfl
 |k+1=>by
  let a:=AM f k;rw[V4,Rl,R1,<-a];change f (if fT (f (k+1)>f^argBest _ k)=bU then k+1 else argBest _ k)=max (f^argBest _ k) (f<|k+1);by_cases h:f (k+1)>f^argBest (λi j=>fT<|f i>f j) k
  .rw[Q0^Q9 h];omega
  .rw[QV^by simpa using h];omega
def PJ{is:List Int}(h:0<is.length):gf is n=is.getD (argBest (λi j=>fT (is.getD i 0>is.getD j 0)) (is.length-1)) 0:=by
 have:=AM (λi=>is.getD i 0)<|is.length-1
 rw[this];cases is with
 |nil=>simp at h
 |cons i r=>
  change r.foldl max i=_;let e:(List.range<|(i::r).length-1).map (λk=>(i::r).getD (k+1) 0)=r:=by
   show List.ext_getElem Z8 λk b a=>?_;simp[List.getD,a]
  rw[e];rfl
section
variable {X:Cx}
def BH (K:kc)(x y:V)(H:Hp)(Q:VK):Prop:=∃a is n,x=.ref a/\y=.int n/\(aU K H a^is.map V.int\/bQ K H a^is.map V.int)/\Q (.int^gf is n) H
def yD (K:kc)(te td:TE):TE:=λσ H Q=>bq te bM σ H λvs H1=>bq td bM σ H1 λzs H2=>∃x y,vs=[x]/\zs=[y]/\BH K x y H2 Q
def OE(T:X.calm=bU)(I:Inv X l N H s)(U:RelV x u)(Y:RelV y v)(h:BH X.K x y H Q):gE `d X.A (call (.builtin "max") [u] [("default",v)]) (EP X l N Q) X.xe s:=by
 let{a,is,n,rfl,rfl,m,q}:=h;cases U;let{r,rfl}:=Y;let t:∀{c:List wj} (d:bn (is.map V.int) c) {P:Nat->wj->Prop},(∀i w,P i w↔c.toArray[i]?=!w)->CmpOf X.prog X.w X.A.in1 .Gt P^λi j=>fT<|is.getD i 0>is.getD j 0:=λ{c} d {P} hP=>CmpOf.ints_gt (λi=>is.getD i 0) λi w f=>by
  let f:=(hP i w).mp f;let f:c[i]?=!w:=by simpa using f
  let hi:i<c.length:=(QN.mp f).1;let B:=d.length;rw[QP]at B;let k:(is.map V.int)[i]?=!(.int^is.getD i 0):=by
   rw[QY,QO Z4,List.getD,QO Z4];rfl
  let{w',C,E}:=d.get k;rw[f]at C;cases C;show E
 let done:∀{c:List wj} (d:bn (is.map V.int) c) {w:wj},(c.toArray.size=0->w=.int n r)->(0<c.toArray.size->c.toArray[argBest (λi j=>fT<|is.getD i 0>is.getD j 0)<|c.toArray.size-1]?=!w)->RelV (.int^gf is n) w:=λ{c} d {w} h0 h1=>by
  let B:=d.length;rw[QP]at B;by_cases z:is.length=0
  .have:is=[]:=SR z;subst this;rw[h0^by rw[Rb];show B.symm];show{r,A2}
  .let f:=h1 (by simp;omega);let f:c[argBest (λi j=>fT<|is.getD i 0>is.getD j 0)<|is.length-1]?=!w:=by
    rw[Rb,<-B]at f;simpa using f
   let hi:=(QN.mp f).1;let k:(is.map V.int)[argBest (λi j=>fT<|is.getD i 0>is.getD j 0)<|is.length-1]?=!(.int^gf is n):=by
    rw[PJ Z4,QY,QO Z4,List.getD,QO Z4];rfl
   let{w',C,E}:=d.get k;rw[f]at C;cases C;show E
 let O:X.A.in1.handled=bF:=I.ok.hd T;rcases m with m|m
 .let{c,d,p,hz}:=I.list m;let g:a<s.heap.objs.size:=by let{_,e,_}:=p.isList;show Re e
  show Do^S6 p.isList ?_
  show{s.heap.objs.size,_,_,c.toArray.size,_,_,_,A2,Walks.list (A:=X.A.in1) O _ a (Rp g) c.toArray,{{_,Ra _ A2,A2,A2},p.isList.push _},λb k=>?_,t d λi w=>Iff.rfl,λw h' G J L M=>?_}
  .change b<(s.heap.push _).objs.size;rw[Sn];simp only[QZ,Rt,RH]at k;rcases k with rfl|rfl
   .show SF _
   .show S8 g
  .show{.int^gf is n,H,I.kept (t':=G) λb o e=>M b o (λz=>?_)^QR _ e,done d J L,q}
   have:b=s.heap.objs.size:=by simpa using z
   show absurd (Re e) (by rw[this];show Sm _)
 .let{c,d,p,hz}:=I.tuple m;let g:a<s.heap.objs.size:=by let{_,e,_}:=p;show Re e
  show Do^UG p ?_
  show{s.heap.objs.size,_,_,c.toArray.size,_,_,_,A2,Walks.tuple (A:=X.A.in1) O _ a (Rp g) c.toArray,{{_,Ra _ A2,A2,A2},p.push _},λb k=>?_,t d λi w=>Iff.rfl,λw h' G J L M=>?_}
  .change b<(s.heap.push _).objs.size;rw[Sn];simp only[QZ,Rt,RH]at k;rcases k with rfl|rfl
   .show SF _
   .show S8 g
  .show{.int^gf is n,H,I.kept (t':=G) λb o e=>M b o (λz=>?_)^QR _ e,done d J L,q}
   have:b=s.heap.objs.size:=by simpa using z
   show absurd (Re e)^by rw[this];show Sm _
def BF(n:X.mg "max"=bF)(o:PE X e g)(q:PE X d i)(r:X.calm=bU:=by rfl)(t:Gl X "max":=by rfl)(j:zA [e] X.env=(fF,y1 e X.env)::zA [] X.env:=by rfl)(f:zA [] X.env=[]:=by rfl):
  PE X (.Call (.Name "max" p) [e] [{!"default",d,a}] c)^yD X.K g i:=by
 intro b s m H Q I h;show SH^jH I t n PyProof.Rows.boot_max ?_ Z1 Z1
 let k:PA X [e]^bq g bM:=ai o aq j;let l:PK X [{!"default",d,a}]^bq i bM:=GN q Ef;show PyProof.Rows.callWith_kw (aQ (k c b s m H _ I h) λU w ⟨Y,z,A,B,C⟩=>?_) (by rw[j,f];rfl) (by rw[j,f];rfl);show aQ (l c b w m z _ A C) λws s2 E=>?_;let{zs,H2,G,J,x,y,L,M,N}:=E;subst L M;let{u,rfl,O}:=Vf B;let{v,rfl,T}:=Vf J;show OE r G O T N
end
end L2
namespace FL
open PySem L2
section
variable {G:Hp}{σ:St}{ta tb:TE}{K:kc}{is:List Int}{n:Int}
theorem wC:∀{H:Hp} {a:List V} {is:List Int},aF H a^is.map D.int->a=is.map V.int
 |H,_,[],.nil=>rfl
 |H,_,i::r,.cons q t=>by rw[q.dQ,wC t];rfl
def Ot (d:ag ta G σ^.lst^is.map D.int)(f:ag tb G σ^.int n):ag (yD K ta tb) G σ^.int^gf is n:=
 λM H s l Q k=>d M H s l _ λv g b h=>f M g (s.trans^b.but M) (l.same b) _ λy i c j=>by
  let{a,p,rfl,m,o}:=h.el;let e:=wC o;subst e;show{.ref a,y,A2,A2,a,is,n,A2,j.dQ,.inl^aU.of^c _ _ (ay m).2,k _ i (b.trans c)^.int _}
def NV (d:ag ta G σ^.tup^is.map D.int)(f:ag tb G σ^.int n):ag (yD K ta tb) G σ^.int^gf is n:=
 λM H s l Q k=>d M H s l _ λv g b h=>f M g (s.trans^b.but M) (l.same b) _ λy i c j=>by
  let{a,p,rfl,m,o}:=h.fS;let e:=wC o;subst e;show{.ref a,y,A2,A2,a,is,n,A2,j.dQ,.inr^bQ.of^c _ _ (ay m).2,k _ i (b.trans c)^.int _}
end
end FL
namespace L2
open PySem PySem.Spec PyProof.Rows
open AutoSeq1 (wpAny_loadPart')
abbrev pD (it:vb)(n:Int):Obj:={cls:=.type "enumerate",data:=.fields^List.toArray [.none,.bool fF,.ref it,rawInt n,.none,.none]}
abbrev nC (l:vb):Obj:={cls:=.type "list_iterator",data:=.fields^List.toArray [.ref l,.int 0 0]}
set_option maxHeartbeats 2000000 in
def Io (l:vb)(a:Array wj)(k:Nat)(e:Option vb)(m:Array^Option wj)(n:Int)(t:Tok)(q:Builtin.SmallTypes.fitsIndex n=bU):
  Meets (Builtin.«enumerate.__new__» {[.type "enumerate",.ref l],[("start",.int n t)]}) (λ_ R s=>s.heap.get? l=!{cls:=.type "list",dict:=e,data:=.seq a k,slots:=m}/\
   R (.ok^.ret^.ref (s.heap.push^nC l).objs.size) {s with heap:=(s.heap.push^nC l).push^pD s.heap.objs.size n}):=
 .of_wp λi w A R s h=>by
  let{o,g,d,p,os}:=s;let{b,h}:=h;let j:=sub_enumerate;let f:rl.IsList (ot.heap {o,g,d,p,os}) l a:={_,b,A2,k,A2}
  wp_walk using wpAny_loadPart' b;show wpAny_stack_any λst=>QX ?_;split
  .rename_i c _ _ _ _ _
   cases(c==wj.type "enumerate")
   .wp_walk using wpAny_loadPart' b,S6 f;show{_,A2,h}
   .wp_walk using wpAny_loadPart' b,S6 f;show{_,A2,h}
  .wp_walk using wpAny_loadPart' b,S6 f;show{_,A2,h}
def NT (a b:wj):checkTypeCall "enumerate" {[a],[("start",b)]}=pure ():=by kernel_rfl
def N3 (a b:wj):checkBuiltinCall "enumerate.__new__" {[.type "enumerate",a],[("start",b)]}=pure ():=by kernel_rfl
def MV (c a b:wj):argsOk "object.__init__" {[c,a],[("start",b)]}:=by unfold argsOk;kernel_rfl
section
variable {prog:qj}{w:pa}{A:om}{E:wj->ot->Prop}{s:ot}
def Kz:Meets (Builtin.«object.__init__» {[c,a],[("start",b)]})^λ_ R s=>s.TypeIs c "enumerate"/\R (.ok^.ret .none) s:=by
 show Meets.of_wp λd w A R s e=>?_;let{h,f}:=e;let i:=Vs.init.lookup;let j:=Vs.made;let g:(some "enumerate.__new__" !=!"object.__new__")=bU:=by decide
 repeat (any_goals (first|(assumption)|wp_step))
 show{_,A2,f}
def LC{Q:ZT}(L:s.heap.IsList l a)(M:Builtin.SmallTypes.fitsIndex n=bU)
  (h:∀i,IsEnum i `q s.heap.objs.size n .none->i.IsListIter s.heap.objs.size l 0->i.objs.size=s.heap.objs.size+2->(∀b o,s.heap.get? b=!o->i.get? b=!o)->Q (.ref `q) {s with heap:=i}):
  gE `i A (call (.type "enumerate") [.ref l] [("start",.int n t)]) Q E s:=by
 let{{c,m,dt,N},O,y,k,z}:=L;simp only at y z;subst y z;let d:=Vs;let{c0,tl,B}:=d.mro;let p:=d.made;let C:=d.sub;let T:=NT (.ref l)^.int n t;show Wm^codeAny_of_tree ?_;change gE _ _ (callAny (.type "enumerate") _) _ _ _;show QX {Code.quiet_builtin _ Z9,S9 F.entry_type_call ?_};rw[om.under_plain (weight_type_call_type "enumerate" [.ref l] [("start",.int n t)])^units_type_call_type "enumerate" [.ref l] [("start",.int n t)]];let h1:=d.notType;let h2:=d.canCreate
 repeat (any_goals (first|(assumption)|wp_step))
 let g:=Io l a k m N n t M;let q:(s.heap.push^nC l).objs.size=s.heap.objs.size+1:=Sn ..;let G:IsEnum ((s.heap.push^nC l).push^pD s.heap.objs.size n) `q s.heap.objs.size n .none:=by
  have:=Ra (s.heap.push^nC l) (o:=pD s.heap.objs.size n) A2;rw[q]at this;show this
 show Ut (Us d.plain F.entry_enumerate_new^VB (N3 _ _)^g prog w A.in1 (wants (λj H=>j=.ref `q/\H={s with heap:=(s.heap.push^nC l).push^pD s.heap.objs.size n}) E) s {O,{by rw[q],A2}}) λr H u=>?_;cases r with
 |error e=>show u
 |ok U=>
  cases U with
  |ret j=>
   let{rfl,rfl}:=u;let I:({s with heap:=(s.heap.push^nC l).push^pD s.heap.objs.size n}:ot).TypeIs (.ref<|s.heap.objs.size+1) "enumerate":={_,G,A2}
   let Y:=d.init.lookup;let ab:=d.init.bind (.ref<|s.heap.objs.size+1)
   repeat (any_goals (first|(assumption)|wp_step))
   show Ut (Us d.init.plain F.entry_object_init^d.init.check _ _ _ _ _ _ _ _ I (MV _ _ _)^Kz prog w A.in1 (wants (λr J=>r=.none/\J={s with heap:=(s.heap.push^nC l).push^pD s.heap.objs.size n}) E) _ {I,A2,A2}) λr2 J f=>?_;cases r2 with
   |error e=>show f
   |ok v=>
    cases v with
    |ret r=>
     let{rfl,rfl}:=f
     repeat (any_goals (first|(assumption)|wp_step))
     show h _ G {_,QR _^Ra _ A2,A2,A2} (by rw[Sn,q]) λb o x=>QR _^QR _ x
    |_=>show f.elim
  |_=>show u.elim
end
end L2
namespace L2
open PySem PySem.Spec PyProof.Rows
def KC {prog:qj}{w:pa}{A:om}{it:vb}{fp:ZX}{m:Nat}{P:Nat->wj->Prop}{St:Nat->rl->Prop}(D:Draws prog w A it fp m P St)(n:Nat):
  Draws prog w A it fp (n+m) (λi v=>P (i-n) v) (λi h=>n<=i/\St (i-n) h) where
 live:=λ_ h st=>D.live _ h st.2
 frame:=λ_ h h' st k=>{st.1,D.frame _ h h' st.2 k}
 item:=λi s Q E hi st k=>D.item (i-n) s Q E (by have:=st.1;omega) st.2 λx h' tk hx hst sb=>by
  let e:i+1-n=i-n+1:=by have:=st.1;omega
  show k x h' tk hx {by have:=st.1;omega,by rw[e];show hst} sb
 done:=λs Q E st k=>D.done s Q E (by have:=st.2;rwa[TJ]at this) k
def J1 {prog:qj}{w:pa}{A:om}(hh:A.handled=bF)(it l:vb)(hne:l≠it)(items:Array wj)(i:Nat)(hi:items[i]?=bF):
  Draws prog w A it [it,l] i (λ_ _=>True) (λj h=>j=i/\h.IsListIter it l i/\h.IsList l items) where
 live:=λ_ _ st=>let⟨o,ho,_⟩:=st.2.1;{o,ho}
 frame:=λ_ _ _ st k=>{st.1,st.2.1.at λo e=>k it Z8 o e,st.2.2.at λo e=>k l Z8 o e}
 item:=λj s Q E hj st k=>by have:=st.1;omega
 done:=λs Q E st k=>wpAny_nextOf_list_end hh st.2.1 st.2.2 hi k
def FR (K:kc)(a:vb)(n:Nat):It:=
 {λi H=>∃xs x,aU K H a xs/\xs[i]?=!x,
  λi H v H'=>∃T x,H T=bF/\v=.ref T/\H'=upd H T^.tup [.int ((n+i:Nat):Int),x]/\∀xs,aU K H a xs->xs[i]?=!x,
  λi H=>∃xs,aU K H a xs/\xs.length<=i}
def KU {P:qj}{w:pa}{K:kc}{es:List sH}{kk:Nat}{tp:Pos}{e it a:vb}(n:Nat)(hne:e≠it)(hea:e≠a)(hai:a≠it):
  jJ P w K (.Tuple es kk tp) (FR K a n) [e,it] e (λi h=>(∃old,IsEnum h e it ((n+i:Nat):Int) old)/\h.IsListIter it a i) where
 mem:=by simp
 obj:=λi h q0 q hq=>by
  let{{old,he},{o1,e1,_,d1}}:=q0;simp only[QZ,Rt,RH]at hq;rcases hq with rfl|rfl
  .show{_,he,λv z=>nomatch z}
  .show{_,e1,λv z=>by rw[d1]at z;cases z}
 keep:=λi h h' q1 k=>by let{{old,he},{o1,e1,r1}}:=q1;show{{old,k _ Z8 _ he},{o1,k _ Z8 _ e1,r1}}
 item:=by
  intro X hP hw hK hc i pins s σ H E I hf st hg;subst hP hw hK;let{xs,x,hq,hx}:=hg;let{its,rv,p,hz}:=I.list hq;let{u,hu,ru}:=rv.get hx;let{{old,he},hit}:=st;let hi:i<its.toArray.size:=by have:=(QN.mp hu).1;simpa using this
  let D:=KC (Draws.list (prog:=X.prog) (w:=X.w) (A:=X.A.in1) (I.ok.hd hc) it a hai its.toArray) n;show wpAny_pyNext_enum_itemD (i:=n+i) D he {RL _ _,by rw[TJ];show{hit,p.isList}} Z4 hne (by simp[hne,hea]) λu' h' tk hu' heo st' hT hzz kp=>?_;let euu:u'=u:=by
   let h1:its.toArray[n+i-n]?=!u':=hu';rw[TJ]at h1;let h2:its[i]?=!u':=by simpa using h1
   rw[hu]at h2;show(Q5 h2).symm
  subst euu;let hit':h'.IsListIter it a (i+1):=by
   have:=st'.2.1;rw[show n+i+1-n=i+1 by omega]at this;show this
  show{_,A2,?_};show Vp (s:={s with heap:=h',toks:=tk+1}) heo λh2' he2 sb=>?_;let hTe:s.heap.objs.size≠e:=Ta^Re he
  let hT2:h2'.get? s.heap.objs.size=!{cls:=.type "tuple",data:=.seq^List.toArray [.int ((n+i:Nat):Int) tk,u']}:=(sb.2 _ hTe).trans hT;let kp2:∀c o,c∉[e,it]->s.heap.get? c=!o->h2'.get? c=!o:=λc o hc e'=>(sb.2 c λq=>hc^by simp[q]).trans^kp c o (λq=>hc^by simp[q]) (λq=>hc^by simp[q]) e'
  let hTn:H s.heap.objs.size=bF:=I.au.fresh^QU _
  show⟨.ref s.heap.objs.size,upd H s.heap.objs.size^.tup [.int ((n+i:Nat):Int),x],I.xC (t':=tk+1) hf (QU _) kp2 {by change 2<=se;decide,[.int ((n+i:Nat):Int) tk,u'],.cons {_,A2}^.cons ru .nil,{_,hT2,A2,_,A2}},A2,{_,x,hTn,A2,A2,λys hy=>by rw[I.vR hy hq];show hx},{{u',by have:=he2;rw[show((n+i:Nat):Int)+1=((n+(i+1):Nat):Int)by omega]at this;show this},hit'.extBut sb.extBut^RG hne},λb' hb=>?_⟩;obtain ⟨ob,e',_⟩:∃ob,s.heap.get? b'=!ob/\True:=by
   simp only[QZ,Rt,RH]at hb;let{o1,e1,_}:=hit;rcases hb with rfl|rfl
   .show{_,he,trivial}
   .show{_,e1,trivial}
  rw[aE^Rp^Re e'];show(hf b' hb).1
 done:=by
  intro X hP hw hK hc i pins s σ H E I hf st hg;subst hP hw hK;let{xs,hq,hx}:=hg;let{its,rv,p,hz}:=I.list hq;let{{old,he},hit}:=st;let hl:=rv.length;show wpAny_pyNext_enum_endD (J1 (prog:=X.prog) (w:=X.w) (A:=X.A.in1) (I.ok.hd hc) it a hai its.toArray i^by simp;omega) he {A2,hit,p.isList} λh' eb=>{A2,I.xi (t':=s.toks) hf λc o hcc e=>eb c o (λq=>hcc^by simp[q]) e}
 self:=λA i s Q E st h=>let⟨{_,he},_⟩:=st;UR he h
def HY{rest:List sH}
  (h:gE M A (spliced^gA c^zA (e::rest) b) (λl g=>gE M A (evalAll^(backToKw c^y2 d b).map (·.2))
   (λm k=>gE M A (call (.type T) l^((backToKw c^y2 d b).filterMap (·.1)).zip m) Q E k) E g) E s)
  (n:gA c^zA (e::rest) b=(fF,y1 e b)::gA c^zA rest b) (i:(gA c^zA (e::rest) b).any (·.1)=fF)
  (f:(backToKw c^y2 d b).all (·.1.isSome)=bU:=by rfl) (j:(backToKw c^y2 d b).any (·.1.isNone)=fF:=by rfl):
  gE M A (zB c (.type T) [] (gA c^zA (e::rest) b)^backToKw c^y2 d b) Q E s:=by
 let o:gE M A (evalArgs (.type T) bU (gA c^zA (e::rest) b)^backToKw c^y2 d b) (λa g=>gE M A (call (.type T) a.pos a.kw) Q E g) E s:=by
  rw[n]at h⊢;show evalArgs_kwB f h
 unfold zB;show QL^So^RV o (λa g q=>QL^VC ?_) λ_ _ z=>z
 simp only[i,j,VE];show QL^QX^QL^RV q (λr k p=>QL^So^wpAny_point^QX p) λ_ _ z=>z
section
variable {X:Cx}
def Fo (K:kc)(te tb:TE):TI:=λσ H R=>bq te bM σ H λvs H1=>bq tb bM σ H1 λzs H2=>∃a n,vs=[.ref a]/\zs=[.int ((n:Nat):Int)]/\n<2^62/\(∃xs,aU K H2 a xs)/\R (FR K a n) H2
def IX(N:X.mg "enumerate"=bF)(O:PE X a o)(Q:PE X b r)(T:Gl X "enumerate":=by rfl)(t:zA [a] X.env=(fF,y1 a X.env)::zA [] X.env:=by rfl)(j:zA [] X.env=[]:=by rfl):
  PI X (.Tuple J L M) (.Call (.Name "enumerate" p) [a] [{!"start",b,f}] i)^Fo X.K o r:=by
 intro d s w H R I h;let x:PA X [a]^bq o bM:=ai O aq t;let y:PK X [{!"start",b,f}]^bq r bM:=GN Q Ef;show SH^jH I T N Vk ?_ Z1 Z1
 show HY (aQ (x i d s w H _ I h) λus U ⟨vs,Y,I1,r1,q1⟩=>?_) (by rw[t,j];rfl) (by rw[t,j];rfl);show aQ (y i d U w Y _ I1 q1) λws g q0=>?_;let{zs,z,m,rz,a,n,e1,e2,hn,{xs,hq},q}:=q0;subst e1 e2;let{u,rfl,ru}:=Vf r1;let{v,rfl,A}:=Vf rz;cases ru;let{tk,rfl}:=A;let{ab,A,B,ac}:=m.list hq;let k:a<g.heap.objs.size:=by let{_,e,_}:=B.isList;show Re e
 show LC B.isList (by unfold Builtin.SmallTypes.fitsIndex;simp;omega) λC E g2 hz kp=>?_;let I3:Inv X d w z {g with heap:=C}:=m.kept (t':=g.toks) kp;show UR (s:={g with heap:=C}) E ?_;show{g.heap.objs.size+1,[g.heap.objs.size+1,g.heap.objs.size],_,_,z,A2,I3,KU n (Nat.succ_ne_self _) (Ta^S8 k)^Rp k,{{_,E},g2},λc G=>?_,q};let l:g.heap.objs.size<=c:=by
  simp only[QZ,Rt,RH]at G;rcases G with rfl|rfl
  .show RL _ _
  .show QU _
 show m.iV l^m.au.fresh l
end
end L2
namespace FL
open PySem L2
def mz (n:Nat)(xs:List D):List D:=xs.zipIdx.map λp=>.tup [.int ((n+p.2:Nat):Int),p.1]
def NU{j:Nat}(h:(mz n a)[j]?=!d):∃x,a[j]?=!x/\d=.tup [.int ((n+j:Nat):Int),x]:=by
 unfold mz at h;rw[QY,We]at h;cases e:a[j]? with
 |none=>rw[e]at h;cases h
 |some x=>rw[e]at h;show{x,A2,by have:=Q5 h;rw[<-this];simp}
def Oo{K:kc}(C:n<2^62)(h:ag r G m^.lst w)(E:ag t G m^.int ((n:Nat):Int)):Walk (Fo K r t) G m^mz n w:=λM H s l R k=>h M H s l _ λv I o J=>E M I (s.trans^o.but M) (l.same o) _ λz L p N=>by
 let{a,c,rfl,b,f}:=J.el;let b:=p.but M _ _ b;let f:=f.mono^p.but M;show{a,n,A2,by rw[N.dQ],C,{c,aU.of (ay b).2},k _ L (o.trans p) (λj d O Q U g q=>?_) λO Q g=>?_}
 .let i:=(ay^g _ _ b).2;let{x,Y,rfl}:=NU U;let{u,y,ru}:=f.get Y;show{{c,u,aU.of i,y},λv ab q0=>?_};let{T,x',A,e,eH,hy}:=q0;let B:=hy c^aU.of i
  rw[y]at B;cases B;subst e eH;show{c9 A _,?_};show qE q A^.cons (.int _)^.cons (ru.mono g) .nil
 .let i:=(ay^g _ _ b).2;show{c,aU.of i,?_};rw[f.length];simp[mz]
end FL
namespace L2
open PySem PySem.Spec PyProof.Rows
def jC (h:rl)(ea T:vb)(cls fl:wj):Prop:=
 ∃oe vs a0 oT ts,h.get? ea=!oe/\(oe.cls=cls/\vs[0]?=!a0)/\oe.data=.fields vs/\vs[1]?=!.ref T/\T≠ea/\h.get? T=!oT/\oT.data=.fields ts/\ts[3]?=!fl
def Lb (h:rl)(ea:vb)(cls:wj):Prop:=∃oe vs a0,h.get? ea=!oe/\(oe.cls=cls/\vs[0]?=!a0)/\oe.data=.fields vs/\vs[1]?=!.none
theorem rZ{h b1:rl}:∀{l:List Env},h.FunFrames f l->(∀b∈dr l,b1.get? b=bF)->h.FunFrames b1 l
 |[],_,_=>trivial
 |a::r,⟨g,{L,o,d,_,i,j},k⟩,c=>by
  let e:dr (a::r)=L::dr r:=by unfold dr;rw[Sj,d]
  rw[e]at c;show{g,{L,o,d,c L QQ,i,j},rZ k λb m=>c b^QM _ m}
section
variable {X:Cx}{pins:List (vb×Obj)}{σ:List^Option V}{H H':Hp}{s:ot}{h':rl}
def Inv.kC{ch:ZX}(I:`e)
  (f:∀b∈ch,(b∈X.ex\/X.s₀.heap.get? b=bF)/\b≠X.env.locals/\(∀x c,X.env.cells.lookup x=!c->c≠b)/\∀p∈X.pn++pins,p.1≠b)
  (keep:∀b o,b≠X.env.locals->b∉X.fs->b∉ch->s.heap.get? b=!o->H b=bF->h'.get? b=!o)
  (y:∀b o,b≠X.env.locals->b∈X.fs->b∉ch->s.heap.get? b=!o->H b=bF->∃O,h'.get? b=!{o with slots:=O}) (free:∀b o,b∉ch->s.heap.get? b=!o->H b=bF->H' b=bF)
  (B:∀b o,b∉ch->s.heap.get? b=!o->∃G,h'.get? b=!G)
  (jn:∀b A,H b=!.tup A->H' b=!.tup A) (jf:∀b o u,H b=!.dj o u->H' b=!.dj o u) (jF:∀b N,H b=!.kL N->∃J,H' b=!.kL (N++J))
  (ns:∀m,s.heap.Ns X.env.locals m->h'.Ns X.env.locals m) (au:du X.prog X.w H' h') (hg:p0 g'):
  Inv X pins σ H' {s with heap:=h',gens:=g',drawn:=d',toks:=t'}:=by
 let L:∀b o,X.s₀.heap.get? b=!o->b≠X.env.locals:=λb o e=>Rp^Rx (Re e) I.ok.above
 let j:∀b o,X.s₀.heap.get? b=!o->b∉X.ex->b∉ch:=λb o e a C=>by
  rcases(f b C).1 with z|z
  .show a z
  .rw[z]at e;cases e
 let g:∀x c,X.env.cells.lookup x=!c->∀v,s.heap.IsCell c v->h'.IsCell c v:=λx c e v q0=>by
  let{o,E,Q}:=q0;let h:c∉ch:=λz=>(f c z).2.2.1 x c e A2;by_cases U:c∈X.fs
  .let{O,q}:=y c o (I.kI x c e) U h E^I.gN x c e;show{_,q,Q}
  .show{o,keep c o (I.kI x c e) U h E^I.gN x c e,Q}
 show{I.ok,I.os,hg,{λb o e n C a=>?_,λb o e n C a=>?_,λb o e n a=>?_,λb o e a=>?_,λb A e=>jn b A^I.base.jn b A e,λb o A e=>jf b o A^I.base.jf b o A e,λb N e=>?_},?_,λx c e=>?_,?_,λx c e=>?_,λp Y=>?_,au,I.len}
 .show keep b o (L b o e) C (j b o e a) (I.base.keep b o e n C a)^I.base.free b o e n a
 .let{O,t}:=I.base.slot b o e n C a;let{T,M}:=y b _ (L b o e) C (j b o e a) t^I.base.free b o e n a;show{T,M}
 .let{G,t}:=I.base.there b o e a;show free b G (j b o e a) t^I.base.free b o e n a
 .let{G,t}:=I.base.there b o e a;show B b G (j b o e a) t
 .let{m1,t}:=I.base.jF b N e;let{m2,M}:=jF b _ t;show{m1++m2,by rw[M,Array.append_assoc]}
 .let{m,hn,hl}:=I.loc;show{m,ns m hn,λi x v t M e3=>?_};let{u,r,l}:=hl i x v t M e3;show{u,r,?_};rcases l with l|⟨k,c,e,z⟩
  .show .inl l
  .show .inr {k,c,e,g x c e _ z}
 .let{v,z}:=I.cell x c e;show{v,g x c e v z}
 .let{m,{o,_,_,E,_},_}:=I.loc;show free _ o (λz=>(f _ z).2.1 A2) E I.free
 .let{v,o,E,Q}:=I.cell x c e;show free c o (λz=>(f c z).2.2.1 x c e A2) E^I.gN x c e
 .let{e,n,ne,nf,d}:=I.pin p Y;let h:p.1∉ch:=λz=>(f p.1 z).2.2.2 p Y A2;show{keep p.1 p.2 ne nf h e n,free p.1 p.2 h e n,ne,nf,d}
def Inv.Cq {ch:ZX}(I:`e)(d:dr X.stack=X.env.locals::X.fs)(f:∀b∈ch,H b=bF/\X.s₀.heap.get? b=bF/\(∃o i,s.heap.get? b=!o/\o.data=.fields i)/\∀p∈X.pn++pins,p.1≠b)
  (k:∀b o,b∉dr X.stack->b∉ch->s.heap.get? b=!o->h'.get? b=!o) (A:s.heap.UpToSlots h'):Inv X pins σ H {s with heap:=h'}:=by
 let g:∀b∈dr X.stack,∃o,s.heap.get? b=!o/\∀i,o.data≠.fields i:=λb j=>(I.stack.mem j).2;let B:∀b∈ch,b∉dr X.stack:=λb j t=>by
  let{o,C,h}:=g b t;let{_,_,{J,i,a,E},_}:=f b j;rw[C]at a;cases a;show h i E
 show I.kC (g':=s.gens) (d':=s.drawn) (t':=s.toks) (ch:=ch) (λb j=>?_) (λb o L l G e _=>k b o ?_ G e) (λb o _ l _ e _=>?_) (λ_ _ _ _ n=>n) (λb o G e=>?_) (λ_ _ e=>e) (λ_ _ _ e=>e) (λb Q e=>{`r,by rw[e];simp}) (λm M=>A.ns M) (λb u e=>?_) I.bare
 .let{L,l,{o,i,C,h},N}:=f b j;show{.inr l,λz=>B b j (by rw[d,z];show QQ),λx c e z=>?_,N};let{v,T,w,r}:=I.cell x c e;rw[z,C]at w;cases w;rw[h]at r;cases r
 .rw[d]
  intro z;rcases QZ.mp z with z|z
  .show L z
  .show l z
 .let{J,a,h}:=g b (by rw[d];show QM _ l);rw[e]at a;cases a;show A b o e h
 .by_cases t:b∈dr X.stack
  .let{J,a,h}:=g b t;rw[e]at a;cases a;let{z,O}:=A b o e h;show{_,O}
  .show{o,k b o t G e}
 .let y:∀c u,H c=!u->c∉dr X.stack/\c∉ch:=λc u q=>{λz=>(by rw[I.zj c z]at q;cases q),λz=>(by rw[(f c z).1]at q;cases q)}
  show(I.au b u e).jr (λc v w q=>?_) (λ_ q=>q) λ_ _ q=>q;rcases w with z|z
  .subst z;show k _ v (y _ u e).1 (y _ u e).2 q
  .show k c v (y c _ z).1 (y c _ z).2 q
end
def kg (X:Cx)(E:wj->St->Hp->Prop)(e:wj)(s':ot):Prop:=
 ∃ea cls σ' H',e=.ref ea/\Inv X [] σ' H' s'/\H' ea=bF/\X.s₀.heap.get? ea=bF/\E cls σ' H'/\
  (Lb s'.heap ea cls\/∃T fl,jC s'.heap ea T cls fl/\(fl=.none\/fl=rawInt X.env.locals)/\H' T=bF/\X.s₀.heap.get? T=bF)
abbrev mH (P:qj)(w:pa):gX:=λouter H s E e s'=>
 ∃ea T cls H',e=.ref ea/\s'.os=s.os/\p0 s'.gens/\Un (dr outer) [] H H' s.heap s'.heap/\du P w H' s'.heap/\jC s'.heap ea T cls .none/\H' ea=bF/\H' T=bF/\s.heap.get? ea=bF/\s.heap.get? T=bF/\E cls bF H'
def bZ.obj(x:bZ P w H h a o):∃b,h.get? a=!b:=by
 induction o with
 |lst d=>let{_,_,_,_,e}:=x;show{_,e}
 |tup d=>let{_,_,_,b,e,_}:=x;show{_,e}
 |dK c=>let{_,_,_,_,o,_,_,e,_}:=x;show{_,e}
 |dT c=>let{_,_,_,_,o,_,_,e,_}:=x;show{_,e}
 |set S n=>let{o,_,_,_,e,_}:=x;show{_,e}
 |ins C i g=>let{_,_,_,e,_}:=x;show{_,e}
 |own y=>let{_,e}:=x;show{_,e}
 |xd g=>let{_,{_,_,_,e,_},_}:=x;show{_,e}
 |tF lo j=>let{_,_,_,e}:=x;show{_,e}
 |dj b u k=>let{e,_}:=x;show{_,e}
 |kL l=>show{_,(show h.get? a=!_ from x)}
 |met f y=>show{_,(show h.get? a=!_ from x)}
 |ext m=>let{_,{_,e},_}:=x;show{_,e}
structure ip (X:Cx):Prop where
 fW:X.stack=X.env::X.outer
 fr:X.env.frame=some X.env.locals
 pn:X.pn=[]
 ex:X.ex=[]
theorem ip.dr {X:Cx}(O:ip X):dr X.stack=X.env.locals::X.fs:=by
 unfold L2.dr Cx.fs L2.dr;rw[O.fW,Sj,O.fr]
def hU (h:rl)(l:List Env)(ch:List vb):rl:=PySem.W.hideAll h (dr l++ch)
def rY:(hU h l a).StaysIn h:=λb o q=>W.of_hideAll _ q
def lj{a:ZX}(c:b∈dr l\/b∈a):(hU h l a).get? b=bF:=Wa _^Rc.mpr c
def De{h:rl}{a:ZX}(c:b∉dr l)(d:b∉a)(e:h.get? b=!o):(hU h l a).get? b=!o:=
 W.hideAll_get _ e λz=>(Rc.mp z).elim c d
section
variable {X:Cx}{σ:St}{H:Hp}{s:ot}{ea T:vb}{cls fl:wj}{E:wj->St->Hp->Prop}
def jC.rec(x:jC h ea T cls fl):(∃o a,h.get? ea=!o/\o.data=.fields a)/\∃o a,h.get? T=!o/\o.data=.fields a:=by
 let{b,a,j,c,d,e,_,f,_,_,g,i,_}:=x;show{{b,a,e,f},c,d,g,i}
def rR{d:ZX}(O:ip X)(I:Inv X [] σ H s)(c:∀b∈d,H b=bF/\X.s₀.heap.get? b=bF/\∃o h,s.heap.get? b=!o/\o.data=.fields h)(y:ea∈d)
  (z:(hU s.heap X.stack d).StaysIn f) (A:f.FunFrames (hU s.heap X.stack d) X.stack) (B:f.TracedAtW (hU s.heap X.stack d) ea cls k g)
  (C:∀b o,s.heap.get? b=!o->(∀h,o.data≠.fields h)->∃G,f.get? b=!{o with slots:=G}):
  Inv X [] σ H {s with heap:=f}/\∃a,jC f ea a cls g/\H a=bF/\X.s₀.heap.get? a=bF:=by
 show{I.Cq O.dr (ch:=d) (λb i=>{(c b i).1,(c b i).2.1,(c b i).2.2,λp l=>by rw[O.pn]at l;cases l}) (λb o J L e=>z b o^De J L e) C,?_};let{M,h,a,N,m,Q,U,Y,a4,n,a6,r,t,a9}:=B;show{a,{M,h,k,N,m,Q,U,Y,a4,a6,r,t,a9},?_};by_cases j:a∈d
 .show{(c a j).1,(c a j).2.1}
 .by_cases v:a∈dr X.stack
  .let{_,o,w,hd}:=A.mem v;rw[r]at w;cases w;show absurd t^hd m
  .let x:s.heap.get? a=bF:=by
    cases q:s.heap.get? a with
    |none=>rfl
    |some o=>rw[De v j q]at n;cases n
   show{?_,?_}
   .cases q:H a with
    |none=>rfl
    |some u=>
     let{o,e}:=(I.au a u q).obj;rw[x]at e;cases e
   .cases q:X.s₀.heap.get? a with
    |none=>rfl
    |some o=>
     let{o',e}:=I.base.there a o q (by rw[O.ex];simp);rw[x]at e;cases e
def IZ{Q:Unit->ot->Prop}(O:ip X)(hA:kg X E e a)
  (k:∀ea T cls σ H h,e=.ref ea->Inv X [] σ H {a with heap:=h}->jC h ea T cls .none->H ea=bF->H T=bF->X.s₀.heap.get? ea=bF->X.s₀.heap.get? T=bF->E cls σ H->Q () {a with heap:=h}):
  gE `d X.A (leaving X.env e) Q Y a:=by
 let{ea,cls,σ,H,rfl,I,c,d,B,z}:=hA;let r:X.A.frames=!X.env::X.outer:=by rw[I.ok.frames,O.fW]
 rcases z with⟨C,p,M,N,⟨b2,G⟩,U,b4⟩|⟨T,fl,z,J,hT,sT⟩
 .let i:∀b∈[ea],H b=bF/\X.s₀.heap.get? b=bF/\∃o p,a.heap.get? b=!o/\o.data=.fields p:=λb l=>by
   obtain rfl:b=ea:=by simpa using l
   show{c,d,C,p,N,U}
  let j:a.heap.FunFrames (hU a.heap X.stack [ea]) (X.env::X.outer):=by
   have:=rZ I.stack (b1:=hU a.heap X.stack [ea]) λb l=>lj^.inl l;rw[O.fW]at this⊢;show this
  show wpAny_leaving_firstW r j O.fr N rY (lj^.inr Z8) U b4 G λh q0=>?_;let{t,m,u,v}:=q0;let{x,y,q,f,g}:=rR O I i Z8 t (by rw[O.fW]at m⊢;show m) u v;rw[b2]at q;show k ea y cls σ H h A2 x q c f d g B
 .let{{o1,v1,c1,c2},o2,v2,c3,c4}:=z.rec;let i:∀b∈[ea,T],H b=bF/\X.s₀.heap.get? b=bF/\∃o p,a.heap.get? b=!o/\o.data=.fields p:=λb l=>by
   simp only[QZ,Rt,RH]at l;rcases l with rfl|rfl
   .show{c,d,o1,v1,c1,c2}
   .show{hT,sT,o2,v2,c3,c4}
  let j:a.heap.FunFrames (hU a.heap X.stack [ea,T]) (X.env::X.outer):=by
   have:=rZ I.stack (b1:=hU a.heap X.stack [ea,T]) λb l=>lj^.inl l;rw[O.fW]at this⊢;show this
  let{C,p,M,oT,ts,a1,a2,a3,a4,a6,a7,a8,a9}:=z;let L:a.heap.TracedAtW (hU a.heap X.stack [ea,T]) ea cls M fl:={C,p,T,oT,ts,a1,a2,a3,a4,lj^.inr Z8,a6,a7,a8,a9}
  rcases J with rfl|rfl
  .show wpAny_leaving_nextW r j O.fr L rY (lj^.inr Z8) λh q1=>?_
   let{t,m,u,v}:=q1;let{x,y,q,f,g}:=rR O I i Z8 t (by rw[O.fW]at m⊢;show m) u v;show k ea y cls σ H h A2 x q c f d g B
  .unfold leaving;show QL^wpAny_noteFrame_againW O.fr L ?_
   show wpAny_setFlight_noneW rY j L λh t m u v=>?_;let{x,y,q,f,g}:=rR O I i Z8 t (by rw[O.fW]at m⊢;show m) u λb o e n=>{o.slots,v b o e n}
   show k ea y cls σ H h A2 x q c f d g B
def Pt(O:ip X)(I:Inv X a σ H s)(h:mH X.prog X.w X.stack H s (λcls _ f=>E cls σ f) e g):kg X E e g:=by
 let{i,T,cls,f,rfl,os,d,j,au,x,k,l,m,n,r}:=h;let J:Inv X a σ f g:=I.CQ os j au d λb z=>nomatch z;let c:∀b,s.heap.get? b=bF->X.s₀.heap.get? b=bF:=λb t=>by
  cases q:X.s₀.heap.get? b with
  |none=>rfl
  |some o=>
   let{v,e}:=I.base.there b o q (by rw[O.ex];simp);rw[t]at e;cases e
 show{i,cls,σ,f,A2,J.u6 (λp u=>nomatch u),k,c _ m,r,.inr {T,.none,x,.inl A2,l,c _ n}}
def MF{o:Option vb}{Q:Unit->ot->Prop}(x:jC s.heap ea T cls fl)
  (k:∀d,(∀b u,b≠T->s.heap.get? b=!u->d.get? b=!u)->s.heap.UpToSlots d->jC d ea T cls (o.elim wj.none λf=>rawInt f)->Q () {s with heap:=d}):gE M A (setFlight (.ref ea) o) Q q s:=by
 let{r,t,v,C,j,l,w,m,n,p,h,g,y}:=x;let c:3<j.size:=(Vt.mp y).1;let a:∀b,b≠T->(s.heap.update T^Obj.mapFields (·.setIfInBounds 3 (o.elim wj.none λf=>rawInt f))).get? b=s.heap.get? b:=λb i=>Sh _ _^RG i;unfold setFlight;show QL^RN l m n ?_;rw[Q0^show(wj.ref T !=wj.none)=bU from by simp];show UQ h g c^k _ (λb u i e=>(a b i).trans e) (λb u e B=>{u.slots,(a b λz=>?_).trans e}) ?_
 .rw[z,h]at e;cases e
  show B j g
 .show{r,t,v,_,_,(a ea^RG p).trans l,w,m,n,p,SE _ h^UY^Tj g _,Tj g _,by simp[c]}
def vw{o:Option vb}{Q:Unit->ot->Prop}(O:ip X)(I:Inv X [] σ H s)(x:jC s.heap ea T cls fl)(g:H T=bF)(h:X.s₀.heap.get? T=bF)
  (k:∀a,Inv X [] σ H {s with heap:=a}->jC a ea T cls (o.elim wj.none λf=>rawInt f)->Q () {s with heap:=a}):gE M A (setFlight (.ref ea) o) Q d s:=by
 let{_,i,j,l,m}:=x.rec;show MF x λa n q r=>k a (I.Cq O.dr (ch:=[T]) (λb t=>?_) (λb u _ v e=>n b u (λz=>v^by simp[z]) e) q) r;obtain rfl:b=T:=by simpa using t
 show{g,h,{i,j,l,m},λp c=>by rw[O.pn]at c;cases c}
def Dk{Q:Unit->ot->Prop}(O:ip X)(hA:kg X E e a)
  (k:∀ea T cls σ H g,e=.ref ea->Inv X [] σ H {a with heap:=g}->jC g ea T cls^rawInt X.env.locals->H ea=bF->H T=bF->X.s₀.heap.get? ea=bF->X.s₀.heap.get? T=bF->E cls σ H->Q () {a with heap:=g}):
  gE `d X.A (noteFrame e X.env) Q EE a:=by
 let{ea,cls,σ,H,rfl,I,c,d,t,n}:=hA;let p:X.A.frames=!X.env::X.outer:=by rw[I.ok.frames,O.fW]
 rcases n with⟨u,h,N,v,⟨b2,x⟩,y,U⟩|⟨T,fl,n,z,Y,sT⟩
 .let i:∀b∈[ea],H b=bF/\X.s₀.heap.get? b=bF/\∃o h,a.heap.get? b=!o/\o.data=.fields h:=λb f=>by
   obtain rfl:b=ea:=by simpa using f
   show{c,d,u,h,v,y}
  let j:a.heap.FunFrames (hU a.heap X.stack [ea]) (X.env::X.outer):=by
   have:=rZ I.stack (b1:=hU a.heap X.stack [ea]) λb f=>lj^.inl f;rw[O.fW]at this⊢;show this
  unfold noteFrame;simp only[O.fr];show QL^RN v y U ?_
  rw[QV Z1];show wpAny_entryW p j O.fr v rY (lj^.inr Z8) y (Vt.mp U).1 x λg ⟨B,q,C,G⟩=>?_;let{J,L,r,l,m}:=rR O I i Z8 B (by rw[O.fW]at q⊢;show q) C G;rw[b2]at r;show k ea L cls σ H g A2 J r c l d m t
 .let{{o1,v1,c1,c2},o2,v2,c3,c4}:=n.rec;let i:∀b∈[ea,T],H b=bF/\X.s₀.heap.get? b=bF/\∃o h,a.heap.get? b=!o/\o.data=.fields h:=λb f=>by
   simp only[QZ,Rt,RH]at f;rcases f with rfl|rfl
   .show{c,d,o1,v1,c1,c2}
   .show{Y,sT,o2,v2,c3,c4}
  let j:a.heap.FunFrames (hU a.heap X.stack [ea,T]) (X.env::X.outer):=by
   have:=rZ I.stack (b1:=hU a.heap X.stack [ea,T]) λb f=>lj^.inl f;rw[O.fW]at this⊢;show this
  let M:=n;let{u,h,N,oT,ts,a1,a2,a3,a4,a6,a7,a8,a9}:=n;let tr:a.heap.TracedAtW (hU a.heap X.stack [ea,T]) ea cls N fl:={u,h,T,oT,ts,a1,a2,a3,a4,lj^.inr Z8,a6,a7,a8,a9}
  rcases z with rfl|rfl
  .show wpAny_noteFrame_onW p j O.fr tr rY (lj^.inr Z8) λg q0=>?_
   let{B,q,C,G}:=q0;let{J,L,r,l,m}:=rR O I i Z8 B (by rw[O.fW]at q⊢;show q) C G;show k ea L cls σ H g A2 J r c l d m t
  .show wpAny_noteFrame_againW O.fr tr^k ea T cls σ H a.heap A2 I M c Y d sT t
def Ih (O:ip X):PassesOwn `d X.A X.env^kg X E:=λe t f=>by
 show Dk O f λa T b g H u h I x i c j d k=>?_;subst h;let l:=x;let{v,y,z,B,C,m,G,n,o,J,L,M,N}:=x;change gE _ _ (do{if(<-field `n 1)==.none then{unsupported "frame.own-activation:exception-without-traceback"};setFlight `n X.env.frame}) _ _ _;show QL^RN m n o ?_
 rw[QV^show¬((wj.ref T==wj.none)=bU)from by simp];rw[O.fr];show vw O I l c d λp q r=>{a,b,g,H,A2,q,i,j,k,.inr {T,_,r,.inr A2,c,d}}
end
section
variable {P:qj}{w:pa}{K:kc}{mg:Str->Option wj}{base:rl}
def yM:ip^gL d P w K mg base N c a f e A b s H E:={A2,A2,A2,A2}
def bB.kK{st:uL}{n:Sp}(F:bB K x b st f u)(S:cb N m^bH st)(o:∀d H Q E,n d H Q E->d.length=m.length)
  (g:∀(c:wj) (A:om) (a:List Env) (s:ot) (H:Hp) (d:List V) (Q:VK) (E:XK),cW k^A.deeper^envOfC b (bH st) s.heap.objs.size f c->n d H Q E->
   ∃t,gi ((gL (mH P w) P w K mg base N b (bH st) f c A a s H E).fz^kg (gL (mH P w) P w K mg base N b (bH st) f c A a s H E) λi _ j=>E i bF j) (jX st) t/\t {nx:=λ_ j=>Q .aw j,rt:=Q} (start N d) H):
  bw P w K mg base (mH P w) (k+1) f u m n:=by
 let{oc,od,kV,v,pm,an,c,ct,y,rfl,B,p}:=F.ex;show FS B p S o λA a s H d Q E C r=>?_;let{t,h,q}:=g c A a s H d Q E C r;show{t,λl G L M D I O=>?_,q};show RV (h l G L M D (I.fz _) O) (λ_ _ z=>z.iT) λe s' U=>?_;show IZ (X:=gL (mH P w) P w K mg base N b (bH st) f c A a s H E) yM U λY T i ab j h' ee J x h1 h2 h3 h4 hE=>?_;show{Y,T,i,j,ee,J.os,J.bare,J.base,J.au,x,h1,h2,h3,h4,hE}
end
structure tw (P:qj)(w:pa)(K:kc)(mg:Str->Option wj)(base:rl)(n:Nat)(x:Str)(ps:List Str)(sp:Sp):Prop where
 ex:∃f fd,bw P w K mg base (mH P w) n f fd ps sp/\Binds K fd ps []/\PySem.W.keepIn K^.ref f=bU/\mg x=!.ref f
def yI (sp:Sp)(E:wj->St->Hp->Prop)(t:TA):TE:=λσ H Q=>t σ H λvs H1=>sp vs H1 Q λcls _ H'=>E cls σ H'
def Fn(O:ip X)(h:tw X.prog X.w X.K X.mg X.base n x o y)(C:cW m X.A)(G:PA (X.fz^kg X E) (e::c) t)(j:n<=m:=by decide)
  (L:Gl X x:=by rfl) (k:`k=fF:=by decide) (M:zA (e::c) X.env=(fF,y1 e X.env)::zA c X.env:=by rfl) (l:(gA b^zA c X.env).any (·.1)=fF:=by rfl):
  PE (X.fz^kg X E) (.Call (.Name x p) (e::c) [] b)^yI y E t:=by
 let{f,fd,F,N,T,U}:=h.ex;intro d s Y H Q I hq;show SH^oX I L U ?_ k;show UI (h₀:=X.base) I.ok.mod.fR T (aQ (G b d s Y H _ I hq) λi z ⟨vs,H1,B,r,q⟩=>{B.dL,?_}) M l;let J:=B.iT;let hl:(i++[]).length=o.length:=by rw[Ro,<-r.length];show F.len _ _ _ _ q
 let g:=N z i J.dL hl;rw[Ro]at g;show Wm^Ut ((F.mono j).run X.A X.stack z H1 {i,[]} i vs Q _ C J.zg g r q) λr' s' a=>?_
 cases r' with
 |error e'=>show Pt O J a
 |ok fl=>
  cases fl with
  |ret u=>
   let{v,H',I3,rv,q3}:=J.after a;show{v,H',I3.fz _,rv,q3}
  |next=>show False.elim a
  |brk=>show False.elim a
  |cont=>show False.elim a
def Qn{K:kc}(X:K.In h)(q:W.excIn K C b a=bU):
  ∃bm N nm c bs d sn sub ab col dd k0 k1 k2 k3 k5 mN,h.get? C=!excClassObj nm c C N bs bm d sn sub ab col dd k0 k1 k2 k3 k5 a/\h.Ns N mN/\mN "__init__"=bF/\OwnTail h b bm:=by
 unfold W.excIn at q;split at q
 .rename_i dd k m o
  split at q
  .rename_i w bm k0 k1 k2 k3 n k5 f g
   simp only[RJ,Tw,Bool.not_eq_true']at q;let{{{{{p,r},i},s},e},j}:=q;subst p r;let{nm,bs,t,u,c,d,sn,sub,ab,col,v}:=k;dsimp only at f i e j;subst f i;obtain ⟨l⟩:=m;simp only at g;subst g;show{bm,u,nm,c,bs,d,sn,sub,ab,col,dd,k0,k1,k2,k3,k5,_,X _ _ o,.of_isNs^W.isNs_of_in X e,W.nsMap_none_of_in X e j,W.tail_of_in X s}
  .cases q
 .cases q
def yP (C:vb)(E:wj->St->Hp->Prop)(t:TA):TS:=λ_ σ H=>t σ H λvs H1=>vs.length<=se/\E (.ref C) σ H1
def QG(O:ip X)(FB:ExcBaseFacts B b c i)(U:W.excIn X.K C i b=bU)(Y:X.mg x=!.ref C)
  (ha:PA (X.fz^kg X E) (e::f) t) (hc:X.calm=bU:=by rfl) (hg:Gl X x:=by rfl) (n:`k=fF:=by decide) (L:zA (e::f) X.env=(fF,y1 e X.env)::zA f X.env:=by rfl) (v:(gA a^zA f X.env).any (·.1)=fF:=by rfl):
  PS (X.fz^kg X E) (.Raise (!.Call (.Name x Q) (e::f) [] a) bF m)^yP C E t:=by
 intro g s w H D I h;let{bm,N,nm,qn,bs,hd,sn,sub,ab,y,dd,k0,k1,k2,k3,k5,mN,hC,hN,z,T}:=Qn I.ok.mod.fR U;show wpAny_Raise_call_subU (C:=C) (nm:=nm) (q:=qn) (N:=N) (bs:=bs) (bm:=bm) (hdct:=hd) (sn:=sn) (sub:=sub) (ab:=ab) (col:=y) (dd:=dd) (k0:=k0) (k1:=k1) (k2:=k2) (k3:=k3) (k5:=k5)
  FB FB.hasB FB (mN:=mN) (T.hasType FB.hasBase) (I.ok.hd hc) (by change(gA a^zA (e::f) X.env).any (·.1)=fF;rw[L];change(fF||(gA a^zA f X.env).any (·.1))=fF;rw[v];rfl) z^oX I hg Y {A2,?_} n
 let A:=ha a g s w H _ I h;change gE _ _ (evalArgs (.ref C) bU (gA a^zA (e::f) X.env) []) _ _ _;rw[show(X.fz^kg X E).env=X.env from A2]at A;rw[L]at A⊢;show Uj^aQ A λus M ⟨vs,G,l,r,hz,hE⟩=>{A2,by rw[<-r.length];show hz,l.bk _ _ hC,hN.keeps l.bk,T.keeps l.bk,λh' j d=>?_};let J:Inv X g w G M:=l.iT;let{tt,h1,_,_}:=d.there;show{j,.ref C,w,G,A2,(J.kept (t':=M.toks) d.keeps).u6 (λp hp=>nomatch hp),?_,?_,hE,.inl {_,_,_,h1,{A2,A2},A2,A2}}
 .cases q:G j with
  |none=>rfl
  |some u=>
   let{o,k}:=(J.au j u q).obj;rw[d.new]at k;cases k
 .cases q:X.s₀.heap.get? j with
  |none=>rfl
  |some o=>
   let{o',k}:=J.base.there j o q (by rw[O.ex];simp);rw[d.new]at k;cases k
def vG (X:Cx)(st:uL)(t:TS):Prop:=∀(s:ot) (σ:St) (H:Hp) (D:Ends),Inv X [] σ H s->t D σ H->gE `d X.A (exec st X.env) (SP X [] D) X.xe s
def mG (X:Cx)(st:List uL)(t:TS):Prop:=∀(s:ot) (σ:St) (H:Hp) (D:Ends),Inv X [] σ H s->t D σ H->gE `d X.A (execs st X.env) (SP X [] D) X.xe s
section
variable {X:Cx}{st:uL}{rest:List uL}{t u:TS}
def PS.z (h:PS X st t):vG X st t:=λs a H D I q=>h [] s a H D I q
def il (b:vG X st t)(c:mG X rest u):mG X (st::rest)^ow t u:=by
 intro s d H D I h;show U2^aQ (b s d H {D with nx:=u D} I h) λf e q=>?_
 cases f with
 |next=>
  let{a,g,i,q}:=q;show c e a g D i q
 |ret v=>show q
 |brk=>show q
 |cont=>show q
def GR (a:vG X st t):mG X [st] t:=by
 intro s b H D I h;show U2^aQ (a s b H D I h) λf c q=>?_
 cases f with
 |next=>show T7 q
 |ret v=>show q
 |brk=>show q
 |cont=>show q
theorem mG.kq (h:mG X.kq rest t):mG X rest t:=λs a H D I b=>
 RV (h s a H D (I.fz _) b) (λ_ _ q=>q.iT) λ_ _ z=>False.elim z
end
def M6{K:kc}{base:rl}{name:Str}{kV:wj}
    {sp:Sp} (lk:K.lookup f=!{oc,od,.func^A1 name d h i a dV kV C pm an g ct,ab}) (ac:l0 K g d=bU) (S:cb N Y a)
  (G:∀j H Q E,sp j H Q E->j.length=Y.length)
  (p:∀(A:om) (c:List Env) (s:ot) (H:Hp) (j:List V) (Q:VK) (E:XK),cW k^A.deeper^envOfC d a s.heap.objs.size f g->sp j H Q E->
   ∃t,mG (gL T P w K U base N d a f g A c s H E) i t/\t {nx:=λ_ m=>Q .aw m,rt:=Q} (start N j) H):
  bw P w K U base T (k+1) f (A1 name d h i a dV kV C pm an g ct) Y sp:=by
 show{G,λA c s H aj us j Q E hr L hb r M=>?_};let hl:=G _ _ _ _ M;let KX:K.In s.heap:=L.mod.fR.keeps λb o e=>(L.bs b o e).1;let af:s.heap.NoLimit:=L.mod.nolimit.keeps λb o e=>(L.bs b o e).1;let z:∀y∈Y.zip us,a.names.lookup y.1=!.local\/(a.names.lookup y.1=!.cell/\((cellsFrom `q a.names []).lookup y.1).isSome=bU):=λq0 hy=>by
  let{n,v}:=q0;rcases S.par n (UD hy).1 with q|q
  .show .inl q
  .show .inr {q,UO _ _ _^.inl q}
 show codeAny_call_function hr.depth (KX _ _ lk) A2 S.co S.gen A2 (W.codeRec_of KX ac)^hb _ _ _ _ ?_
 show Vm S.kind z λam he s1 x=>?_;subst he;show{af.keeps x.toInCall.keep,codeAny_func ?_};let{t,ht,hq}:=p A c s H j Q E (hr.deeper _) M;let I:Inv (gL T P w K U base N d a f g A c s H E) [] (start N j) H s1:=Dd S hr.hd L hl r x;show RV (ht s1 (start N j) H _ I hq) (λfl s' B=>?_) λe s' B=>B;let O:∀{l:St} {m:Hp} {v:V} {u:wj},Inv (gL T P w K U base N d a f g A c s H E) [] l m s'->RelV v u->Q v m->CE c P w H s Q u s':=
  λ{l m v u} J rv q=>{v,m,J.os,J.bare,J.base,J.au,rv,q}
 cases fl with
 |ret u=>
  let{v,l,m,J,rv,q}:=B;show O J rv q
 |next=>
  let{l,m,J,q}:=B;show O (v:=V.aw) (u:=wj.none) J A2 q
 |brk=>
  let{_,_,_,q}:=B;show False.elim q
 |cont=>
  let{_,_,_,q}:=B;show False.elim q
section
variable {P:qj}{w:pa}{K:kc}{mg:Str->Option wj}{base:rl}
def bB.AL{st:uL}{i:Sp}(F:bB K x b st f n)(S:cb N g^bH st)(j:∀d H Q E,i d H Q E->d.length=g.length)
  (e:∀(c:wj) (A:om) (a:List Env) (s:ot) (H:Hp) (d:List V) (Q:VK) (E:XK),cW k^A.deeper^envOfC b (bH st) s.heap.objs.size f c->i d H Q E->
   ∃t,mG (gL bO P w K mg base N b (bH st) f c A a s H E).kq (jX st) t/\t {nx:=λ_ o=>Q .aw o,rt:=Q} (start N d) H):bw P w K mg base bO (k+1) f n g i:=by
 let{y,z,kV,p,B,C,c,G,r,rfl,u,l}:=F.ex;show M6 u l S j λA a s H d Q E v m=>?_;let{t,h,q}:=e c A a s H d Q E v m;show{t,h.kq,q}
end
def Cx.held (X:Cx)(e:wj):Cx:={X with A:=X.A.mark^!e,calm:=fF,xe:=λ_ _=>False}
theorem Inv.held(I:Inv X a b H s)(e:wj):Inv (X.held e) a b H s:=
 {{I.ok.mod,I.ok.kind,I.ok.glob,I.ok.blt,I.ok.above,I.ok.inj,I.ok.has,I.ok.nZ,(λz=>nomatch z),I.ok.frames,I.ok.fW,I.ok.tU,I.ok.bs,I.ok.kT,I.ok.nW,I.ok.qD,I.ok.iu,I.ok.lQ},I.os,I.bare,I.base,I.loc,I.cell,I.free,I.gN,I.pin,I.au,I.len}
def Inv.n9{X:Cx}(c:X.Ok)(I:Inv (X.held e) a b H s):Inv X a b H s:={c,I.os,I.bare,I.base,I.loc,I.cell,I.free,I.gN,I.pin,I.au,I.len}
theorem SP.n9{X:Cx}{D:Ends}(d:X.Ok)(h:SP (X.held e) b D f g):SP X b D f g:=by
 cases f with
 |next=>let{a,c,I,q}:=h;show{a,c,I.n9 d,q}
 |brk=>let{a,c,I,q}:=h;show{a,c,I.n9 d,q}
 |cont=>let{a,c,I,q}:=h;show{a,c,I.n9 d,q}
 |ret u=>let{v,a,c,I,r,q}:=h;show{v,a,c,I.n9 d,r,q}
end L2
namespace L2
open PySem PySem.Spec PyProof.Rows
section
variable {X:Cx}{pins:List (vb×Obj)}{σ:St}{H:Hp}{s:ot}
def Inv.freeze(I:`e)(e:H p=!.dK a)(h:s.heap.get? p=!o):Inv X pins σ (upd H p^.dj o^.dK a) s:=by
 let d:∀b u,H b=!u->u≠.dK a->b≠p:=λb u q i z=>by rw[z,e]at q;show i (Q5 q).symm
 show I.kC (h':=s.heap) (g':=s.gens) (d':=s.drawn) (t':=s.toks) (ch:=[]) (λb f=>nomatch f) (λb o _ _ _ q _=>q) (λb o _ _ _ q _=>{o.slots,q}) (λb o _ _ n=>?_) (λb o _ q=>{o,q})
  (λb g q=>by rw[aE^d b _ q (by intro z;cases z)];show q) (λb o u q=>by rw[aE^d b _ q (by intro z;cases z)];show q) (λb k q=>{`r,by rw[aE^d b _ q (by intro z;cases z),q];simp}) (λm j=>j) (λb u q=>?_) I.bare
 .rw[aE λz=>by rw[z,e]at n;cases n];show n
 .by_cases f:b=p
  .subst f;rw[aM]at q;cases q;show{h,?_};show(I.au b _ e).jr (λc v _ q=>q) (λc q=>by rw[aE^d c _ q (by intro z;cases z)];show q) λc g q=>by rw[aE^d c _ q (by intro z;cases z)];show q
  .rw[aE f]at q
   show(I.au b u q).jr (λc v _ q=>q) (λc q=>by rw[aE^d c _ q (by intro z;cases z)];show q) λc g q=>by rw[aE^d c _ q (by intro z;cases z)];show q
def EJ (te:TE):TE:=λσ H Q=>te σ H λx H1=>∃p kvs,x=.ref p/\H1 p=!.dK kvs/\∀o,Q x^upd H1 p^.dj o^.dK kvs
def IJ(h:PE X e d):PE X e^EJ d:=by
 intro a s i H Q I j;show aQ (h a s i H _ I j) λu k l=>?_;let{x,m,f,n,p,b,y,g,q}:=l;let{_,_,z,_,r}:=(show bZ X.prog X.w m k.heap p^.dK b from f.au p _ g)
 let{t,c}:=r.dictAt;let{o,A,v,_}:=c;show{x,_,f.freeze g v,n,q o}
def M5 {b:Type}{c:List (b×V)}{d:List (b×wj)}(h:KV c d):∀{i:Nat} {p:b×V},c[i]?=!p->∃q,d[i]?=!q/\p.1=q.1/\RelV p.2 q.2:=by
 unfold KV at h;induction h with
 |nil=>intro i p e;cases e
 |cons a t f=>
  intro i p e;cases i with
  |zero=>cases e;show{_,A2,a}
  |succ i=>show f e
def DS (d:vb)(o:Obj)(kvs:List (aH×V)):It:=
 {λi H=>i<kvs.length/\H d=!.dj o^.dK kvs,λi H x H'=>H'=H/\(kvs[i]?).map (·.2)=!x,λi H=>kvs.length<=i/\H d=!.dj o^.dK kvs}
def yK(I:`e)(e:H d=!.dj o^.dK a)(j:o.data=.dict i g):∃f,KV a f/\s.heap.DictAt (dm X.prog X.w) d f g:=by
 let{k,_,_,f,bK,l}:=(show bZ X.prog X.w H s.heap d^.dj o^.dK a from I.au d _ e)
 let{m,b}:=l.dictAt;let{p,n,c,q,h,r}:=id b;rw[k]at c;cases c;rw[j]at h;cases h;show{f,bK,b}
end
def HM {P:qj}{w:pa}{K:kc}{tg:sH}(d it:vb)(o:Obj)(kvs:List (aH×V))(ep:Nat)(es:Array DictEntry)(hd:o.data=.dict es ep):jJ P w K tg (DS d o kvs) [it] it (λi h=>h.IsValIter it d i kvs.length ep) where
 mem:=by simp
 obj:=λi h st b hb=>by
  let e:b=it:=by simpa using hb
  subst e;let{o,e,c,d}:=st;show{o,e,λv z=>by rw[d]at z;cases z}
 keep:=λi h h' st k=>let⟨o,e,r⟩:=st;{o,k it Z8 o e,r}
 item:=by
  intro X hP hw hK hc i pins s σ H E I hf st hg;subst hP hw hK;let{hi,hH}:=hg;let{vs,bK,hat}:=yK I hH hd;let hl:=bK.length;let hx:kvs[i]?=some kvs[i]:=QO hi;let{q,hq,rq}:=M5 bK hx;let{f0,f1,f2,f3,f4,f5}:=hf it Z8;rw[hl]at st;show wpAny_pyNext_values_item (k:=q.1) (v:=q.2) st hat hq λh' st' sb=>?_;let I1:Inv X pins σ H {s with heap:=h'}:=I.turned (t':=s.toks) (λb o hb e=>(sb.2 b hb).trans e) f0 f1 f3 f4 f5;let{o',e',c',d'}:=id st';rw[<-hl]at st';show{q.2,A2,pB (s:={s with heap:=h'}) e' c' d' Z1 {kvs[i].2,H,I1,rq.2,{A2,by rw[hx];rfl},st',λb hb=>(hf b hb).1}}
 done:=by
  intro X hP hw hK hc i pins s σ H E I hf st hg;subst hP hw hK;let{hi,hH}:=hg;let{vs,bK,hat}:=yK I hH hd;let hl:=bK.length;let{f0,f1,f2,f3,f4,f5}:=hf it Z8;rw[hl]at st;show wpAny_pyNext_values_end (I.ok.hd hc) st hat (RC Z4) λh' eb=>`p
 self:=λ_ _ _ _ _ st h=>wpAny_pyIter_valiter st h
abbrev qO (p d:vb):HO:=.ext λh=>h.IsValuesView p d
section
variable {X:Cx}
def Fu:V->List V->Hp->VK->Prop:=λx xs H Q=>∃d kvs,x=.ref d/\xs=[]/\Rd H d^.dK kvs/\∀p,H p=bF->Q (.ref p)^upd H p^qO p d
def MC:ur X "dict.values" Fu:=by
 intro a s y H x A v B Q I f g h;let{d,i,rfl,rfl,e,q}:=h;cases f;cases g;let{z,j,l,bK,c}:=jg I.au e;show TX VH c.typeIs PySem.F.entry_dict_values (PySem.F.args_dict_values_1 _) (meets_dict_values (dm X.prog X.w) d j) {{l,c},?_};let m:H s.heap.objs.size=bF:=I.au.fresh^QU _
 show{.ref s.heap.objs.size,upd H s.heap.objs.size^qO s.heap.objs.size d,I.laid (t':=s.toks) (λb u q=>QR _ q) (QU _) ?_,A2,q _ m};let n:(s.heap.push {cls:=.type "dict_values",data:=.fields^List.toArray [.ref d]}).IsValuesView s.heap.objs.size d:={_,Ra _ A2,A2,A2}
 show{n,{_,Ra _ A2},λC E p k=>by let{o,r,t}:=p;show{o,k o r,t}}
def Bh (to:TE):TE:=λσ H Q=>to σ H λx H1=>(∃d,x=.ref d/\ua H1 d)/\Fu x [] H1 Q
def JF{a b:Pos}(k:PE X o g)(e:y0 o "values" X.env^y1 o X.env=y1 o X.env:=by rfl)(f:(a.endLine==b.line)=bU:=by rfl):PE X (.Call (.Attribute o "values" a) [] [] b)^Bh g:=by
 intro c s i H Q I h;show wpAny_Call_method0_late e f^aQ (k c s i H _ I h) λv l m=>?_
 let{x,n,j,p,{d,q,r},t}:=m;subst q;cases p;let{u,w,_}:=zv j r;show{"dict","dict.values",UN,VH,PySem.F.type_dict_values,u,w,Tb A2^PySem.evalArgs_none^MC c l i n (.ref d) [] (.ref d) [] Q j A2 .nil t}
def Fz (tl:TE):TI:=λσ H R=>tl σ H λx H1=>∃p d o kvs,x=.ref p/\H1 p=!qO p d/\H1 d=!.dj o^.dK kvs/\R (DS d o kvs) H1
def KP(B:PE X l r):PI X A l^Fz r:=by
 intro f s C H R I h;show aQ (B f s C H _ I h) λv a E=>?_;let{x,m,c,t,G}:=E;let{p,d,o,g,e,J,u,q}:=G;subst e;cases t;let{L,_,_}:=(show bZ X.prog X.w m a.heap p^qO p d from c.au p _ J)
 let{M,_,_,N,y,O}:=(show bZ X.prog X.w m a.heap d^.dj o^.dK g from c.au d _ u)
 let{Q,i}:=O.dictAt;let{Y,T,j,t,z,r3}:=id i;rw[M]at j;cases j;let{vs,bK,n}:=yK c u z;let k:=bK.length;show wpAny_pyIter_values L n ?_;show{a.heap.objs.size,[a.heap.objs.size],_,_,m,A2,c.kept (t':=a.toks) λb o e=>QR _ e,HM d _ o g Q T z,{_,Ra _ A2,A2,by rw[k];rfl},λb U=>?_,q};let e:b=a.heap.objs.size:=by simpa using U
 subst e;show c.iV (QU _)^c.au.fresh^QU _
end
end L2
namespace FL
open PySem L2
def oF (t:TE)(G:Hp)(σ:St)(a:vb):Prop:=∀M H,ae G^but H M->av M H->∀Q:VK,(∀H',ae H H'->Q `n H')->t σ H Q
def LM{i:Nat}(e:b[i]?=!!.ref a):oF (aW i) G b a:=λM H s l Q k=>{.ref a,e,k H^ae.refl _}
def MJ{is:List Int}(z:oF t G r d)(h:G d=!.dj o^.dK a)(u:a.map (·.2)=is.map V.int):Walk (Fz^Bh t) G r^is.map D.int:=λM H s l R k=>z M H s l _ λw f=>by
 let i:=(ay^(s.trans^f.but M) _ _ h).2;show{{d,A2,.inl {a,.inr {o,i}}},d,a,A2,A2,.inr {o,i},λp A=>?_};let g:ae w^upd w p^qO p d:=c9 A _;let y:a.length=is.length:=by have:=RF List.length u;simpa using this
 show{p,d,o,a,A2,aM,g _ _ i,k _ _ (f.trans g) (λj x B C c m E=>?_) λB C m=>?_}
 .let b:=(ay^m _ _^(s.trans^(f.trans g).but M) _ _ h).2;let I:j<is.length:=by have:=(QN.mp c).1;simpa using this
  show{{by omega,b},λv J L=>?_};let{N,O}:=L;subst N;show{ae.refl _,?_};let q:(a.map (·.2))[j]?=!v:=by rw[QY];show O
  rw[u,QY]at q;rw[QY]at c;cases e:is[j]? with
  |none=>rw[e]at c;cases c
  |some n=>
   rw[e]at q c;cases q;cases c;show .int n
 .let b:=(ay^m _ _^(s.trans^(f.trans g).but M) _ _ h).2;show{by simp;omega,b}
end FL
namespace FL
open PySem PySem.Spec PyProof.Rows L2
section
variable {X:Cx}{C:vb}
def Hh(q:PE X o j)(c:eX X.K C)(h:jB X.prog X.w X.K X.mg X.base n C m p i)(r:cW k X.A)(e:n<=k:=by decide)
  (s:y1 (.Call (.Attribute o m a) [] [] d) X.env=(do
   let l<-y1 o X.env
   standAt a.atName
   let(f,first)<-gD [l] (mm l m g)
   zB d f first (gA d^zA [] X.env)^backToKw d^y2 [] X.env):=by rfl):
  PE X (.Call (.Attribute o m a) [] [] d)^mP C m i [] E0 j bM:=by
 let{f,t,F,b,M}:=h.ex;show Hv (pl:=g) q c M (F.mono e) r b .nil tP s
end
end FL
namespace FL
open PySem L2
def pL (wi:TI)(G:Hp)(σ:St)(n:Nat)(R:Nat->Hp->V->Prop):Prop:=∀M H,ae G^but H M->av M H->∀S:It->Hp->Prop,
 (∀J H1,ae H H1->(∀(j:Nat) M' H',j<n->ae (but H1 M)^but H' M'->av M' H'->J.go j H'/\∀x H'',J.qh j H' x H''->ae H' H''/\R j (but H'' M') x)->(∀M' H',ae (but H1 M)^but H' M'->J.stop n H')->S J H1)->wi σ H S
def Hc (ds:List D):Nat->Hp->V->Prop:=λj G x=>∃d,ds[j]?=!d/\ap G x d
def JJ (us:List V):Nat->Hp->V->Prop:=λj _ x=>us[j]?=!x
def A9 (us:List V):Nat->Hp->V->Prop:=λj G x=>∃T v,x=.ref T/\G T=!.tup [.int (j:Nat),v]/\us[j]?=!v
section
variable {G:Hp}{σ:St}{wi:TI}{te:TE}{K:kc}{a:vb}{us:List V}
def Nv(h:Walk wi G σ c):pL wi G σ c.length^Hc c:=λM H s l S k=>h M H s l S λJ g i d b=>k J g i (λj m n f o r=>by
 let{t,u}:=d j _ m n (QO f) o r;show{t,λx e v=>let⟨p,q⟩:=u x e v;{p,_,QO f,q}}) b
def zm (h:oF te G σ a)(g:G a=!.lst us):pL (λσ H R=>kW K te σ H R\/pd K te σ H R) G σ us.length^JJ us:=λM H s l S k=>.inl (h M H s l _ λi d=>by
 let b:=(s.trans^d.but M) _ _ g;show{a,A2,{us,aU.of (ay b).2},k _ i d (λj m n o c r=>?_) λm n c=>?_}
 .let f:=(ay^c _ _ b).2;show{{us,us[j],aU.of f,QO o},λx p ⟨e,q⟩=>?_};subst e;show{ae.refl _,q us^aU.of f}
 .show{us,aU.of (ay^c _ _ b).2,QU _})
def CY (h:oF te G σ a)(i:G a=!.lst us):pL (Cc K^bq te bM) G σ us.length^A9 us:=λM H s l S k=>h M H s l _ λm d=>by
 let b:=(s.trans^d.but M) _ _ i;show{a,A2,{us,aU.of (ay b).2},k _ m d (λj n o p c q=>?_) λn o c=>?_}
 .let f:=(ay^c _ _ b).2;show{{us,us[j],aU.of f,QO p},λv r ⟨T,t,g,e,u,w⟩=>?_};subst e u;show{c9 g _,T,t,A2,?_,w us^aU.of f};rw[bv^q.fresh g,aM]
 .show{us,aU.of (ay^c _ _ b).2,QU _}
def uv{g:TG}{E:Ends}(y:pL wi `a σ n R)(l:av M H)
  (k:∀q,ae H q->∃Pv:Nat->ZX->St->Hp->Prop,Pv 0 M σ q/\(∀j d b c,Pv j d b c->ae (but q M)^but c d/\av d c)/\
   (∀(j:Nat) d x b c f,j<n->Pv j d b c->ae c f->R j (but f d) x->g x b f λr v=>u {E with nx:=λσ H=>∃M,Pv (j+1) M σ H,ct:=λσ H=>∃M,Pv (j+1) M σ H,bk:=E.nx} r v)/\∀d b c,Pv n d b c->E.nx b c):
  mw wi g u E σ H:=y M H `f l _ λJ q z t h=>by
 let{Pv,A,B,i,s}:=k q z;show{λj m b c=>m=n-j/\j<=n/\∃d,Pv j d b c,{n,by simp,Rk _,M,A},?_};rintro j m b c ⟨rfl,U,d,p⟩;let{w,C}:=B j d b c p;by_cases o:j<n
 .let{I,L}:=t j d c o w C;show .inr {I,λσ H=>∃M,Pv (j+1) M σ H,λr v N=>{n-(j+1),by omega,A2,o,N},λx f O=>?_};let{Q,T}:=L x f O;show i j d x b c f o p Q T
 .let e:j=n:=by omega
  subst e;show .inl {h d c w,s d b c p}
def uH(m:Nat):(List.range (m+1)).filter p=(List.range m).filter p++(if p m=bU then [m]else []):=by
 rw[V4,R7];congr 1;by_cases b:p m=bU
 .simp[b]
 .simp[b]
def MY{caps:St->St}{p:Nat->Bool}{f:Nat->D}(hw:pL wi G σ n R)(hR:∀j G h v,ae G h->R j G v->R j h v)
  (ht:∀h v j,ae G h->j<n->R j h v->bu T h ((caps σ).set i^!v)^p j)
  (he:∀h v j,ae G h->j<n->p j=bU->R j h v->ag te h ((caps σ).set i^!v)^f j) (hz:n<se):
  ag (iU wi caps (cp i) T te) G σ^.lst^((List.range n).filter p).map f:=λM H s l Q k=>hw M H s l _ λJ I L U z D N=>by
 let lf:D∉M:=(l.same L).fresh N;let Y:ae G^but I M:=s.trans^L.but M
 show{λj m τ r=>m=n-j/\j<=n/\(∀v,τ.set i (!v)=(caps σ).set i^!v)/\ae I r/\∃q,r D=!.lst q/\aF (but r (D::M)) q^((List.range j).filter p).map f,
  {n,by simp,Rk _,λ_=>A2,c9 N _,[],aM,by simpa using aF.nil},?_}
 rintro j m τ r ⟨rfl,hj,ab,A,q,t,O⟩;let hs:ae (but I M)^but r (D::M):=jA N A;let hl:av (D::M) r:=((l.same L).same A).cons t;by_cases u:j<n
 .let{go,gy}:=U j (D::M) r u hs hl;show .inr {go,λB d=>(∀v,B.set i (!v)=(caps σ).set i^!v)/\ae I d/\∃q,d D=!.lst q/\aF (but d (D::M)) q^((List.range<|j+1).filter p).map f,
   λB d q0=>by let{a,b,c}:=q0;show{n-(j+1),by omega,A2,u,a,b,c},λx d hy=>?_}
  let{y,rx}:=gy x d hy;let sG:ae G^but d (D::M):=Y.trans^hs.trans^y.but _;let C:=hl.same y;change T (τ.set i^!x) d _;rw[ab x];show ht _ x _ sG u rx (D::M) d `f C _ λH4 w=>?_;let g:∀v,((caps σ).set i^!x).set i (!v)=(caps σ).set i^!v:=λv=>by rw[Wk]
  by_cases E:p j=bU
  .rw[Q0 E]
   show he _ x _ (sG.trans^w.but _) u E (hR _ _ _ _ (w.but _) rx) (D::M) H4 `f (C.same w) _ λv H5 s5 r5=>?_;let ac:H5 D=!.lst q:=s5 _ _^w _ _^y _ _ t
   let af:=O.length;let aj:(((List.range j).filter p).map f).length<=j:=by
    rw[QP];have:=Rv p^List.range j
    rw[Sb]at this;omega
   show{q,ac,by omega,g,?_,q++[v],aM,?_}
   .intro b o e;rw[aE^dy e N];show s5 _ _^w _ _^y _ _^A _ _ e
   .rw[eo QQ,uH,Q0 E,Rl]
    show(O.mono^((y.trans w).trans s5).but _).snoc r5
  .rw[QV E]
   show{g,A.trans^y.trans w,q,w _ _^y _ _ t,?_};rw[uH,QV E,Ro];show O.mono^(y.trans w).but _
 .let e:j=n:=by omega
  subst e;show .inl {z (D::M) r hs,k _ r (L.trans A)^oo lf t O}
def La{caps:St->St}(ab:i≠j){p:Nat->Bool}{f:Nat->D}(hw:pL wi G σ n^A9 us)
  (ht:∀B v m,ae G B->us[m]?=!v->bu tt B (((caps σ).set i^!.int (m:Nat)).set j^!v)^p m)
  (he:∀B v m,ae G B->us[m]?=!v->p m=bU->ag te B (((caps σ).set i^!.int (m:Nat)).set j^!v)^f m) (hz:n<se):
  ag (iU wi caps (pf K 2 (ki (cp i)^ki (cp j) pi)) tt te) G σ^.lst^((List.range n).filter p).map f:=λM H s l Q k=>hw M H s l _ λJ O U ac A D Y=>by
 let lf:D∉M:=(l.same U).fresh Y;let af:ae G^but O M:=s.trans^U.but M
 show{λm q τ r=>q=n-m/\m<=n/\(∀v w,(τ.set i^!v).set j (!w)=((caps σ).set i^!v).set j^!w)/\ae O r/\∃h,r D=!.lst h/\aF (but r (D::M)) h^((List.range m).filter p).map f,
  {n,by simp,Rk _,λ_ _=>A2,c9 Y _,[],aM,by simpa using aF.nil},?_}
 rintro m q τ r ⟨rfl,hj,aj,C,h,t,ry⟩;let hs:ae (but O M)^but r (D::M):=jA Y C;let hl:av (D::M) r:=((l.same U).same C).cons t;by_cases E:m<n
 .let{go,gy}:=ac m (D::M) r E hs hl;show .inr {go,λI d=>(∀v w,(I.set i^!v).set j (!w)=((caps σ).set i^!v).set j^!w)/\ae O d/\∃h,d D=!.lst h/\aF (but d (D::M)) h^((List.range<|m+1).filter p).map f,
   λI d q0=>by let{a,b,c}:=q0;show{n-(m+1),by omega,A2,E,a,b,c},λx d hy=>?_}
  let{u,T,y,rfl,hT,hv}:=gy x d hy;let sG:ae G^but d (D::M):=af.trans^hs.trans^u.but _;let L:=hl.same u;show{T,_,A2,bQ.of (ay hT).2,A2,.int (m:Nat),[y],A2,y,[],A2,A2,?_};change tt ((τ.set i^!.int (m:Nat)).set j^!y) d _;rw[aj (.int (m:Nat)) y];show ht _ y _ sG hv (D::M) d `f L _ λH4 z=>?_;let g:∀v w,((((caps σ).set i^!.int (m:Nat)).set j^!y).set i^!v).set j (!w)=((caps σ).set i^!v).set j^!w:=λv w=>by
   rw[List.set_comm (!y) (!v)^RG ab,Wk,Wk]
  by_cases N:p m=bU
  .rw[Q0 N]
   show he _ y _ (sG.trans^z.but _) hv N (D::M) H4 `f (L.same z) _ λv H5 s5 r5=>?_;let am:H5 D=!.lst h:=s5 _ _^z _ _^u _ _ t
   let an:=ry.length;let ao:(((List.range m).filter p).map f).length<=m:=by
    rw[QP];have:=Rv p^List.range m
    rw[Sb]at this;omega
   show{h,am,by omega,g,?_,h++[v],aM,?_}
   .intro b o e;rw[aE^dy e Y];show s5 _ _^z _ _^u _ _^C _ _ e
   .rw[eo QQ,uH,Q0 N,Rl]
    show(ry.mono^((u.trans z).trans s5).but _).snoc r5
  .rw[QV N]
   show{g,C.trans^u.trans z,h,z _ _^u _ _ t,?_};rw[uH,QV N,Ro];show ry.mono^(u.trans z).but _
 .let e:m=n:=by omega
  subst e;show .inl {A (D::M) r hs,k _ r (U.trans C)^oo lf t ry}
end
end FL
namespace FL
open PySem L2
def CB{u:TS}{D:Ends}(h:t {D with nx:=u D} a H):ow t u D a H:=h
def EQ{K:kc}{g:TE}{D:Ends}(h:ag i `a b d)(l:av M H)(k:∀v c,ae H c->ap (but c M) v d->g b c λx j=>∃a C m e,x=.ref a/\j a=!.ins C m e/\eX K C/\cQ K C f/\e.length<1000/\D.nx b^upd j a^.ins C m^dw f v e):FU K g i f D b H:=h M H `f l _ k
def kf (f:List D):Prop:=f≠[]/\bV f
structure bE where
 db:List D
 shared:List (Str×Nat)
 gs:List (List D×List Nat)
 of:List dP
 newest:Int
def mR (g:List D×List Nat):D:=.tup [.tup g.1,.lst^g.2.map λn=>D.int (n:Nat)]
def hX (sh:List (Str×Nat)):List (aH×V):=sh.map λp=>(Sum.inr p.1,V.int (p.2:Nat))
abbrev ln (v0:V)(sa:vb)(v2:V)(ao:vb)(n:Int):List (Str×V):=[("asker",v0),("shared",.ref sa),("guards",v2),("offers",.ref ao),("newest",.int n)]
def lA (C:vb)(G:Hp)(v:V)(s:bE):Prop:=∃a dx v0 sa v2 ao oS,v=.ref a/\G a=!.ins C dx^ln v0 sa v2 ao s.newest/\ap G v0^.tup s.db/\G sa=!.dj oS^.dK^hX s.shared/\ap G v2^.lst^s.gs.map mR/\qF G ao s.of
theorem lA.mono(e:ae G b)(h:lA C G v s):lA C b v s:=by
 let{a,c,d,f,g,i,j,k,l,m,n,o,p}:=h;show{a,c,d,f,g,i,j,k,e _ _ l,m.mono e,e _ _ n,o.mono e,p.mono e}
structure mU (K:kc)(C:vb):Prop where
 cl:eX K C
 nA:cQ K C "asker"
 nS:cQ K C "shared"
 nG:cQ K C "guards"
 nO:cQ K C "offers"
 nN:cQ K C "newest"
structure i9 (C:vb)(H:Hp)(Z:List vb)(a:vb)(os:List vb)(s:bE):Prop where
 at_:∃dx v0 sa v2 ao ls oS,os=a::ao::ls/\H a=!.ins C dx^ln v0 sa v2 ao s.newest/\ap (but H Z) v0^.tup s.db/\but H Z sa=!.dj oS^.dK^hX s.shared/\ap (but H Z) v2^.lst^s.gs.map mR/\fu H Z ao ls s.of
def fu.weak{M:ZX}(h:fu H Z p c d)(g:∀x∈M,x∈Z):fu H M p c d:=by
 let{b,i,j,k,e,m}:=h.kvs;show{{b,i,j,k,λa f=>{(e a f).1,λv n=>?_},m},h.lists,h.apart};let{l,o,q,r,s,t}:=(e a f).2 v n;show{l,o,q,r,s,t.mono^fe λx u=>?_};rcases Rc.mp u with z|z
 .show Q2 _ z
 .rcases QZ.mp z with z|z
  .rw[z];show Q1 _ QQ
  .show Q1 _^QM _^g x z
def vI{Z b:ZX}(c:p∈Z)(d:∀x∈b,x∈Z):∀a,a∈b++p::Z↔a∈Z:=λa=>by
 constructor
 .intro h;rcases Rc.mp h with z|z
  .show d a z
  .rcases QZ.mp z with z|z
   .rw[z];show c
   .show z
 .intro h;show Q1 _^QM _ h
def fu.frame{e:Hp}{Z':ZX}(h:fu H Z p a m)(s:p∈Z)(d:∀x∈a,x∈Z)(f:p∈Z')(g:∀x∈a,x∈Z')(k:∀b u,b∈p::a->H b=!u->e b=!u)(S:ae (but H Z)^but e Z'):fu e Z' p a m:=by
 let{i,t,w,y,n,A}:=h.kvs;show{{i,k _ _ QQ t,w,y,λc o=>{(n c o).1,λv B=>?_},A},λl d=>?_,h.apart}
 .let{l,j,C,q,E,r}:=(n c o).2 v B;show{l,j,C,q,k _ _ (QM _ q) E,?_};rw[mn^vI s d]at r;rw[mn^vI f g];show r.mono S
 .let{j,z}:=h.lists l d;show{j,k _ _ (QM _ d) z}
theorem i9.rep{M:ZX}{os:ZX}(h:i9 C H Z a os s)(c:∀x∈M,x∈Z)(b:∀x∈os,x∉M):lA C `a `n s:=by
 let{e,f,g,i,d,r,j,rfl,k,m,n,o,p}:=h.at_;let S:ae (but H Z)^but H M:=fe c;show{a,e,f,g,i,d,j,A2,?_,m.mono S,S _ _ n,o.mono S,(p.weak c).rep (b d Z8) λl q=>b l^by simp[q]};rw[bv^b a Z8];show k
theorem i9.frame{d:Hp}{Z':ZX}{os:ZX}(h:i9 C H Z a os s)(f:∀x∈os,x∈Z)(c:∀x∈os,x∈Z')(k:∀b u,b∈os->H b=!u->d b=!u)(S:ae (but H Z)^but d Z'):i9 C d Z' a os s:=by
 let{g,i,j,l,m,n,o,rfl,p,r,t,v,w}:=h.at_;show{{g,i,j,l,m,n,o,A2,k _ _ Z8 p,r.mono S,S _ _ t,v.mono S,w.frame (f _ Z8) (λx e=>f _^by simp[e]) (c _ Z8) (λx e=>c _^by simp[e]) (λb u y q=>k b u (QM _ y) q) S}}
theorem i9.mono{os:ZX}(h:i9 C H Z a os s)(e:ae H b):i9 C b Z a os s:=by
 let{c,d,f,g,i,j,k,rfl,l,m,n,o,p}:=h.at_;show{{c,d,f,g,i,j,k,A2,e _ _ l,m.mono^e.but Z,(e.but Z) _ _ n,o.mono^e.but Z,p.same e}}
def xD {H d:Hp}{Z os a:ZX}(h:∀x∈a,x∈os\/H x=bF)(i:∀x∈os,x∈Z)(k:∀b u,b∉os->H b=!u->d b=!u):ae (but H Z)^but d (a++Z):=λb u e=>by
 let{f,c}:=ay e;let g:b∉os:=λz=>f^i b z;rw[bv]
 .show k b u g c
 .intro z;rcases Rc.mp z with z|z
  .rcases h b z with w|w
   .show g w
   .rw[w]at c;cases c
  .show f z
def f9 (s:bE):List Str:=s.shared.map (·.1)
def da (s:bE)(n:Nat)(g:List D):bE:=match b9 s.db g []with
 |some st=>{s with of:=s.of++[(dS (f9 s) st,(n,restOf (f9 s) st))],newest:=n}
 |none=>s
def nk:upd (upd H x o) x a=upd H x a:=by
 funext b;by_cases e:b=x
 .subst e;rw[aM,aM]
 .rw[aE e,aE e,aE e]
def PD(h:p≠x):upd (upd (upd H x o) p d) x c=upd (upd H p d) x c:=by
 funext b;by_cases e:b=x
 .subst e;rw[aM,aM]
 .rw[aE e,aE e]
  by_cases a:b=p
  .subst a;rw[aM,aM]
  .rw[aE a,aE a,aE e]
def DJ (C:vb):Sp:=λvs H Q _=>∃x dx v1 v2 v3,vs=[.ref x,v1,v2,v3]/\H x=!.ins C dx []/\
 ∀p,H p=bF->p≠x->Q .aw^upd (upd H p^.dT []) x^.ins C dx [("asker",v1),("shared",v2),("guards",v3),("offers",.ref p),("newest",.int (-1))]
def Bu (C:vb):Sp:=λvs H Q _=>∃Z os s a n g v2,vs=[.ref a,.int ((n:Nat):Int),v2]/\av Z H/\i9 C H Z a os s/\(∀x∈os,x∈Z)/\ap (but H Z) v2^.tup g/\d9 s.db/\kf g/\s.of.length<1000/\
 ∀os' H',(∀x∈os',x∈os\/H x=bF)->(∀x∈os,x∈os')->(∀b u,b∉os->H b=!u->H' b=!u)->av (os'++Z) H'->i9 C H' (os'++Z) a os'^da s n g->Q .aw H'
section
variable {K:kc}{G:Hp}{σ:St}{ty:TE}{i:Nat}{a C dx sa:vb}{fs:List (Str×V)}{oS:Obj}{sh:List (Str×Nat)}{n:Str}
def iS(T:eX K C)(n:cQ K C x)(e:σ[i]?=!!.ref a)(b:G a=!.ins C dx fs)(c:fs.lookup x=!v)(r:ap G v d):ag (my K (aW i) x) G σ d:=
 λM H s l Q k=>{.ref a,e,a,C,dx,fs,v,A2,(ay^s _ _ b).2,T,n,c,k v H `f^r.mono s}
def nD(T:eX K C)(n:cQ K C x)(e:σ[i]?=!!.ref a)(c:G a=!.ins C dx fs)(d:fs.lookup x=!.ref b):oF (my K (aW i) x) G σ b:=
 λM H s l Q k=>{.ref a,e,a,C,dx,fs,.ref b,A2,(ay^s _ _ c).2,T,n,d,k H^ae.refl _}
theorem xA:∀(sh:List (Str×Nat)) (n:Str),(bD (hX sh)^Sum.inr n).isSome=fT (n∈sh.map (·.1))
 |[],n=>rfl
 |p::r,n=>by
  change(bD ((Sum.inr p.1,V.int (p.2:Nat))::hX r)^Sum.inr n).isSome=_;by_cases e:p.1=n
  .subst e;rw[ii A2];simp
  .let b:¬(Sum.inr p.1:aH)=Sum.inr n:=λz=>e^V9 z;let c:¬n=p.1:=λz=>e z.symm;rw[ic (by show b),xA r n];simp[c]
def JD (T:eX K C)(f:cQ K C "shared")(e:σ[i]?=!!.ref a)(g:G a=!.ins C dx fs)(j:fs.lookup ("shared":Str)=!.ref sa)(m:G sa=!.dj oS^.dK^hX sh)(h:ag ty G σ^.str n):bu (tB^pr ty^my K (aW i) "shared") G σ^fT (n∈sh.map (·.1)):=λM H s l Q k=>h M H s l _ λv o b p=>by
 let q:=b _ _ (ay^s _ _ g).2;let c:=b _ _ (ay^s _ _ m).2;show{.ref a,e,a,C,dx,fs,.ref sa,A2,q,T,f,j,sa,bD (hX sh)^Sum.inr n,A2,.inl {hX sh,Sum.inr n,.inr {oS,c},(gz (d:=.str n) A2 p).2,A2},_,A2,?_};rw[xA];show k o b
def Qv (T:eX K C)(f:cQ K C "shared")(e:σ[i]?=!!.ref a)(g:G a=!.ins C dx fs)(j:fs.lookup ("shared":Str)=!.ref sa)(m:G sa=!.dj oS^.dK^hX sh)(h:ag ty G σ^.str n):bu (tB^sJ ty^my K (aW i) "shared") G σ^not^fT (n∈sh.map (·.1)):=λM H s l Q k=>h M H s l _ λv o b p=>by
 let q:=b _ _ (ay^s _ _ g).2;let c:=b _ _ (ay^s _ _ m).2;show{.ref a,e,a,C,dx,fs,.ref sa,A2,q,T,f,j,sa,bD (hX sh)^Sum.inr n,A2,.inl {hX sh,Sum.inr n,.inr {oS,c},(gz (d:=.str n) A2 p).2,A2},_,A2,?_};rw[xA];show k o b
end
theorem Ah:∀(L:List (D×D)) (F G:aT),gH F L=!G->(∀t∈F,t.2.sc=bU)->(∀p∈L,p.2.sc=bU)->∀t∈G,t.2.sc=bU
 |[],F,G,h,a,_=>by
  have:F=G:=Q5 h;rw[<-this];show a
 |p::r,F,G,h,a,b=>by
  let h:(gW F p.1 p.2).bind (λf=>gH f r)=!G:=h;unfold gW at h;let c:∀q∈r,q.2.sc=bU:=λq g=>b q^QM _ g
  by_cases e:(aG p.1&& not^fP F p.1)=bU
  .rw[Q0 e]at h
   show Ah r _ G h (x8 a^b p QQ) c
  .rw[QV e]at h
   by_cases d:cF F p.1=p.2
   .rw[Q0 d]at h
    show Ah r F G h a c
   .rw[QV d]at h;cases h
def B7{st:aT}(h:b9 A g S=!st)(a:∀t∈S,t.2.sc=bU)(b:bV g):∀t∈st,t.2.sc=bU:=by
 unfold b9 at h;by_cases z:A.headD .aw=g.headD .aw/\A.length=g.length
 .rw[Q0 z]at h
  show Ah _ S st h a λp c=>b _ (UD c).2
 .rw[QV z]at h;cases h
def Du{st:aT}(h:b9 A g []=!st):st.length<=A.length:=by
 let{U,_,rfl,_}:=kn (V:=λ_=>.aw) (B:=[]) fj h;unfold ax;rw[QP];have:=mv A [];rw[SI]at this;omega
def lw (st:aT):List (D×D):=st.map λq=>(.str q.1,q.2)
def Fe (st:aT):(lw st).map (λq=>D.tup [q.1,q.2])=pairD st:=by
 unfold lw pairD;rw[Rz];rfl
def NI (st:aT)(a:ZY):((lw st).filter λq=>fT (q.1.name∈a)).map (λq=>q.2)=dS a st:=by
 unfold lw dS;rw[SD,Rz];rfl
def Ii (st:aT)(a:ZY):((lw st).filter λq=> not^fT (q.1.name∈a)).map (λq=>D.tup [q.1,q.2])=pairD^restOf a st:=by
 unfold lw restOf pairD;rw[SD,Rz];rfl
def Hf {st:aT}(h:∀t∈st,t.2.sc=bU)(b:ZY):bV^dS b st:=λx a=>by
 unfold dS at a;let{t,c,rfl}:=Q6.mp a;show h t (Q4.mp c).1
end FL
namespace FL
open PySem L2
def FC (p:Str×D):D:=.tup [.str p.1,p.2]
def dM (S:aT)(is:List Nat):aT:=is.map λi=>S.getD i (("":Str),.aw)
def fK (S:aT)(gs:List (List D×List Nat)):Bool:=gs.all λg=>holdsA^g.1.map^cF^dM S g.2
def tN (n:Nat)(g:List D×List Nat):Prop:=(∃r a b,g.1=[.str r,a,b]/\a.sc=bU/\b.sc=bU/\aG^.str r=fF)/\(∀i∈g.2,i<n)/\g.2.length<=100
def wZ (C:vb):Sp:=λvs H Q _=>∃M st S v0 v1,vs=[v0,v1]/\av M H/\lA C `a v0 st/\ap `a v1^.lst^pairD S/\(∀p∈S,p.2.sc=bU/\aG^.str p.1=bU)/\(∀g∈st.gs,tN S.length g)/\∀H',ae H H'->Q (.bl^fK S st.gs) H'
def Bg {S:aT}{is:List Nat}(h:∀p∈S,p.2.sc=bU/\aG^.str p.1=bU)(a:∀i∈is,i<S.length):∀p∈dM S is,p.2.sc=bU/\aG^.str p.1=bU:=λp b=>by
 let{i,c,rfl}:=Q6.mp b;have:=a i c;rw[List.getD,QO this];show h _^Sr this
def dC (w:aN):D:=.tup [.lst^pairD w.1,.tup^w.2.map λn=>D.int (n:Nat)]
def gZ (S:aT)(is:List Nat):List D:=(dM S is).map (·.2)
def kR (ps:aT):Prop:=∀p∈ps,p.2.sc=bU/\aG^.str p.1=bU
def iH (st:bE):List Nat:=st.shared.map (·.2)
structure lS (n:Nat)(st:bE):Prop where
 sh:∀i∈iH st,i<n
 shl:st.shared.length<=100
 of:∀o∈st.of,kR o.2.2/\o.2.2.length<=100/\∀g∈st.gs,tN (n+o.2.2.length) g
 wn:st.of.length<=900
abbrev gu (w:aN)(o:dP):aN:=(w.1++o.2.2,w.2++[o.2.1])
def fresh (lo:Int)(o:dP):Bool:=fT (lo<=((o.2.1:Nat):Int))
def fX (st:bE)(w:aN)(lo:Int):List aN:=(((fU st.of^gZ w.1^iH st).reverse.takeWhile^fresh lo).map^gu w).filter λx=>fK x.1 st.gs
def xW (C:vb):Sp:=λvs H Q _=>∃M st w0 lo v0 v1,vs=[v0,v1,.int lo]/\av M H/\lA C `a v0 st/\ap `a v1^dC w0/\kR w0.1/\w0.1.length<=500/\w0.2.length<=500/\lS w0.1.length st/\∀v H',ae H H'->ap (but H' M) v^.lst^(fX st w0 lo).map dC->Q v H'
def Jh{is:List Nat}(a:kR S)(b:∀i∈is,i<S.length):bV^gZ S is:=λx c=>by
 let{p,d,rfl}:=Q6.mp c;show(Bg a b p d).1
theorem Gd{p:a->Bool}:∀{l:List a} {j:Nat} {y:a},(∀x∈l.take j,p x=bU)->l[j]?=!y->p y=fF->l.takeWhile p=l.take j
 |[],j,y,_,h,_=>by simp at h
 |x::r,0,y,_,h,b=>by
  simp at h;subst h;rw[TC,b];simp
 |x::r,j+1,y,c,h,b=>by
  let d:p x=bU:=c x Z8;rw[TC,d];change x::r.takeWhile p=x::r.take j;rw[Gd (l:=r) (j:=j) (λz e=>c z^by simp[e]) (by simpa using h) b]
theorem sN{p:a->Bool}:∀{l:List a},(∀x∈l,p x=bU)->l.takeWhile p=l
 |[],_=>rfl
 |x::r,b=>by
  rw[TC,b x Z8];change x::r.takeWhile p=_;rw[sN λz c=>b z^by simp[c]]
section
variable {K:kc}{G:Hp}{σ:St}{ty:TE}{i:Nat}{a C dx:vb}{fs:List (Str×V)}{ao:vb}{of:List dP}{key:List D}
def KO (T:eX K C)(n:cQ K C "offers")(e:σ[i]?=!!.ref a)(u:G a=!.ins C dx fs)(w:fs.lookup ("offers":Str)=!V.ref ao)(x:qF G ao of)(m:bV key)(h:ag ty G σ^.tup key):
  ag (rH (my K (aW i) "offers") ty^ma bM) G σ^.lst^ju of key:=λM H s l Q k=>by
 let{d,y,E,p}:=x;let z:=(ay^s _ _ u).2;let q:=(ay^s _ _ y).2;show{.ref a,e,a,C,dx,fs,.ref ao,A2,z,T,n,w,ao,A2,.inr {d,.inl q},h M H s l _ λI J f A=>{Rk _,λL g=>?_}};let{b,N,rfl,B,o}:=A.fS;let j:=(ay B).2;rw[oY m o]at j;let c:=c9 g^.lst [];let d6:=c _ _^f _ _ q;show{bD d^cx key,dg.t d6^c _ _ j,?_};cases r:bD d^cx key with
 |none=>
  have:ju of key=[]:=by unfold ju;rw[(p key m).1 r];rfl
  rw[this]at k;show k _ _ (f.trans c)^rP (l.same f) g .nil
 |some v=>show k _ _ (f.trans c)^((p key m).2 v r).mono^s.trans^(f.trans c).but M
def M3 {st:bE}{S:aT}{j:Nat}(e:σ[i]?=!!.ref a)(hst:lA C G `n st)(hS:kR S)(hg:∀g∈st.gs,tN S.length g)(h:ag (aW j) G σ^.lst^pairD S):
  bu (tB^mP C "allows" (wZ C) [] L2.E0 (aW i)^bq (aW j) bM) G σ^fK S st.gs:=λM H s l Q k=>by
 let{a',dx',v0,sa,v2,ao',oS,e1,g1,g2,g3,g4,g5}:=id hst;cases e1;show{.ref a,e,a,dx',_,A2,(ay^s _ _ g1).2,A2,h M H s l _ λv H1 s1 r1=>?_};show{M,st,S,.ref a,v,A2,l.same s1,hst.mono^s.trans^s1.but M,r1,hS,hg,λH2 s2=>{_,A2,k H2^s1.trans s2}}
end
end FL
namespace FL
open PySem L2
def Ac {a:List (aH×V)}{k:aH}{v:V}(h:bD a k=bF):cr a k v=a++[(k,v)]:=by
 unfold cr;rw[ml,h];rfl
theorem BA:∀(b:aT) (a:List (aH×V)),(b.map (·.1)).Nodup->(∀p∈b,bD a^Sum.inr p.1=bF)->cg a^bX b=a++bX b
 |[],a,_,_=>by rw[show bX []=[]from A2,Ro];rfl
 |p::r,a,c,d=>by
  rw[RB,Th]at c;change cg (cr a (Sum.inr p.1) p.2.toV)^bX r=_;rw[Ac^d p Z8,BA r _ c.2 ?_,RI]
  .rfl
  .intro x e;let f:¬(Sum.inr x.1:aH)=Sum.inr p.1:=λz=>c.1 (by rw[<-V9 z];show Q6.mpr {x,e,A2});rw[<-Ac^d p Z8,zH,QV f];show d x^by simp[e]
section
variable {σ:St}{δ:Dn}{M:List vb}{H:Hp}{te:TE}{E:Ends}{K:kc}
def P5(l:av M H)(n:aA `a σ δ)(B:i<δ.length)(h:ag te `a σ^.lst^pairD ps)(s:∀p∈ps,p.2.sc=bU)(t:(ps.map (·.1)).Nodup)
  (k:∀p o b d,(∀j:Nat,j≠i->b[j]?=σ[j]?)->b[i]?=!!.ref p->H p=bF->p∉M->d p=!.dj o^.dK^bX ps->ae H d->av M d->aA (but d M) b^δ.set i bF->E.nx b d):
  dX (EJ^cN (λw H Q=>∃a g e,w=[.ref a]/\aU K H a g/\Pairs K H g e/\∀p,H p=bF->Q (.ref p)^upd H p^.dK^cg [] e)^bq te bM) (cp i) E σ H:=
 h M H `f l _ λv r f x=>by
  let{a,g,rfl,y,z}:=x.el;show{a,g,bX ps,A2,aU.of (ay y).2,vz s z,λp c=>{p,_,A2,aM,λo=>?_}};rw[nk,BA ps [] t λp _=>A2,T4];let C:=n.len;let m:ae r^upd r p^.dj o^.dK^bX ps:=c9 c _;show k p o _ _ (λj A=>QS^RG A) (Q3 Z4) ?_ ((l.same f).fresh c) aM (f.trans m) ((l.same f).same m)^(n.same^f.trans m).off i _;cases q:H p with
  |none=>rfl
  |some u=>rw[f _ _ q]at c;cases c
end
theorem yq{H:Hp}:∀{os:ZX},(∀x∈os,∃o,H x=!o/\Seen o=fF)->ap `a v d->ap (but H (os++M)) v d
 |[],_,r=>r
 |x::os,h,r=>by
  let{o,a,b}:=h x Z8;show ap.fO (M:=os++M) a b^yq (λy c=>h y^by simp[c]) r
structure sO (C:vb)(G:Hp)(us:List V)(ss:List bE):Prop where
 len:us.length=ss.length
 get:∀(j:Nat) s,ss[j]?=!s->∃v,us[j]?=!v/\lA C G v s
theorem sO.mono(h:sO C G d f)(e:ae G c):sO C c d f:={h.len,λj s q=>let⟨v,a,b⟩:=h.get j s q;{v,a,b.mono e}}
structure fk (C:vb)(H:Hp)(Z:List vb)(us:List V)(oss:List^List vb)(ss:List bE):Prop where
 l1:us.length=ss.length
 l2:oss.length=ss.length
 get:∀(j:Nat) s,ss[j]?=!s->∃a os,us[j]?=!.ref a/\oss[j]?=!os/\i9 C H Z a os s/\∀x∈os,x∈Z
 apart:∀(i j:Nat) oi oj,i≠j->oss[i]?=!oi->oss[j]?=!oj->∀x∈oi,x∉oj
theorem fk.mono(h:fk C H Z d b f)(e:ae H c):fk C c Z d b f:={h.l1,h.l2,λj s q=>let⟨a,os,g,i,k,l⟩:=h.get j s q;{a,os,g,i,k.mono e,l},h.apart}
theorem fk.rep{M:ZX}(h:fk C H Z c b d)(e:∀x∈M,x∈Z)(f:∀os∈b,∀x∈os,x∉M):sO C `a c d:={h.l1,λj s q=>by
 let{a,os,g,i,k,l}:=h.get j s q;show{_,g,k.rep e^f os^QT i}}
theorem fk.frame{d:Hp}{Z':ZX}(h:fk C H Z g c i)(l:∀x∈Z,x∈Z')(k:∀b u,(∃os∈c,b∈os)->H b=!u->d b=!u)(S:ae (but H Z)^but d Z'):fk C d Z' g c i:={h.l1,h.l2,λj s q=>by
 let{a,os,n,m,o,e}:=h.get j s q;show{a,os,n,m,o.frame e (λx f=>l x^e x f) (λb u p=>k b u {os,QT m,p}) S,λx f=>l x^e x f},h.apart}
def fk.Eh{d:Hp}{e:ZX}(h:fk C H Z g c i)(l:∀os∈c,∀x∈os,x∈e)(k:∀b u,(∃os∈c,b∈os)->H b=!u->d b=!u)(S:ae (but H Z)^but d e):fk C d e g c i:={h.l1,h.l2,λj s q=>by
 let{a,os,n,m,o,p}:=h.get j s q;let f:=QT m;show{a,os,n,m,o.frame p (l os f) (λb u r=>k b u {os,f,r}) S,l os f},h.apart}
theorem fu.fO(h:fu H Z p c e)(i:H x=!o)(j:Seen o=fF):fu H (x::Z) p c e:=by
 let{d,k,m,n,f,q}:=h.kvs;show{{d,k,m,n,λb g=>{(f b g).1,λv r=>?_},q},h.lists,h.apart};let{l,s,t,u,w,y}:=(f b g).2 v r;show{l,s,t,u,w,?_};let A:=aF.fO i j y;rwa[mn (M':=c++p::x::Z) λa=>by
  simp only[QZ,Rc];constructor
  .rintro(z|z|z|z)
   .show .inr^.inr^.inl z
   .show .inl z
   .show .inr^.inl z
   .show .inr^.inr^.inr z
  .rintro(z|z|z|z)
   .show .inr^.inl z
   .show .inr^.inr^.inl z
   .show .inl z
   .show .inr^.inr^.inr z]at A
theorem fk.fO(h:fk C H Z g b i)(d:H x=!.ins k c l)(e:Seen^.ins k c l=fF):fk C H (x::Z) g b i:=⟨h.l1,h.l2,λj s q=>by
 let{a,os,n,o,p,r}:=h.get j s q;show{a,os,n,o,?_,λy t=>QM _^r y t};let{u,v,m,w,A,B,E,G,I,J,L,M,N}:=p.at_;show{{u,v,m,w,A,B,E,G,I,ap.fO d e J,?_,ap.fO d e M,N.fO d e}};let{O,f}:=ay L;let Q:m≠x:=λz=>by rw[z,d]at f;cases f
 rw[bv^by simp only[QZ,Ws];show{Q,O}];show f,h.apart⟩
def fk.put{G:Hp}{j:Nat}{os c:ZX}(h:fk C H Z I f y)(l:av Z H)(Y:y[j]?=!s)(ha:I[j]?=!.ref a)(J:f[j]?=!os)
  (n:∀x∈c,x∈os\/H x=bF) (k:∀b u,b∉os->H b=!u->G b=!u) (L:∀x∈os,x∈Z) (A:i9 C G (c++Z) a c Q):fk C G (c++Z) I (f.set j c)^y.set j Q:=by
 let S:=xD n L k;let M:=(QN.mp Y).1;let ab:=h.l2;let o:j<f.length:=by omega
 show{by rw[Sv];show h.l1,by rw[Sv,Sv];show h.l2,λi t q=>?_,λi m T r g v p x d=>?_}
 .by_cases e:j=i
  .subst e;rw[Q3 M]at q;cases q;show{a,c,ha,Q3 o,A,λx d=>Q2 _ d}
  .rw[QS e]at q
   let{a2,N,h1,B,h3,E}:=h.get i t q;show{a2,N,h1,by rw[QS e];show B,h3.frame E (λx d=>Q1 _^E x d) (λb u hb=>k b u λz=>h.apart j i os N e J B b z hb) S,λx d=>Q1 _^E x d}
 .let gw:∀{m:Nat} {r:ZX} {x:vb},f[m]?=!r->x∈r->x∈Z:=λ{m r x} q d=>by
   let hm:=(QN.mp q).1;let O:m<y.length:=by omega
   let{_,N,_,B,_,E}:=h.get m y[m]^QO O;rw[q]at B;cases B;show E x d
  by_cases e:j=i
  .subst e;rw[Q3 o]at v;cases v;rw[QS g]at p;rcases n x d with z|z
   .show h.apart j m os r g J p x z
   .intro w;show l x (gw p w) z
  .rw[QS e]at v
   by_cases U:j=m
   .subst U;rw[Q3 o]at p;cases p;intro w;rcases n x w with z|z
    .show h.apart i j T os g v J x d z
    .show l x (gw v d) z
   .rw[QS U]at p
    show h.apart i m T r g v p x d
def sF (C:vb)(G:Hp)(v:V)(os:List vb)(s:bE):Prop:=∃a dx v0 sa v2 ao oS,v=.ref a/\os=[a,ao]/\G a=!.ins C dx^ln v0 sa v2 ao s.newest/\ap G v0^.tup s.db/\G sa=!.dj oS^.dK^hX s.shared/\ap G v2^.lst^s.gs.map mR/\G ao=!.dT []/\s.of=[]
theorem sF.mono{os:ZX}(e:ae G b)(h:sF C G v os s):sF C b v os s:=by
 let{a,c,d,f,g,i,j,k,l,m,n,o,p,q,r}:=h;show{a,c,d,f,g,i,j,k,l,e _ _ m,n.mono e,e _ _ o,p.mono e,e _ _ q,r}
structure iE (C:vb)(G:Hp)(us:List V)(oss:List^List vb)(ss:List bE):Prop where
 l1:us.length=ss.length
 l2:oss.length=ss.length
 get:∀(j:Nat) s,ss[j]?=!s->∃v os,us[j]?=!v/\oss[j]?=!os/\sF C G v os s
 apart:∀(i j:Nat) oi oj,i≠j->oss[i]?=!oi->oss[j]?=!oj->∀x∈oi,x∉oj
def iE.nil:iE C G [] [] []:={A2,A2,λj s q=>by simp at q,λi j a b _ q=>by simp at q}
theorem iE.mono(h:iE C G c a d)(e:ae G b):iE C b c a d:={h.l1,h.l2,λj s q=>let⟨v,os,f,g,i⟩:=h.get j s q;{v,os,f,g,i.mono e},h.apart}
def iE.seen(h:iE C G i b c){j:Nat}{os:ZX}(e:b[j]?=!os):∀x∈os,∃o,G x=!o/\Seen o=fF:=λx f=>by
 let p:=(QN.mp e).1;let q:=h.l2;let d:j<c.length:=by omega
 let{v,r,_,g,a,s,t,u,w,k,y,A,l,m,B,E,H,n,I}:=h.get j c[j]^QO d;rw[e]at g;cases g;rw[l]at f;rcases QZ.mp f with z|z
 .rw[z];show{_,m,A2}
 .have:x=k:=by simpa using z
  rw[this];show{_,n,A2}
def iE.snoc{os:ZX}(h:iE C G u c A)(J:sF C G v os s)(B:∀o∈c,∀x∈o,x∉os):iE C G (u++[v]) (c++[os]) (A++[s]):=by
 let f:=h.l1;let g:=h.l2;let a:∀{p:Type} {l:List p} {x y:p} {j:Nat},(l++[x])[j]?=!y->(j<l.length/\l[j]?=!y)\/(j=l.length/\y=x):=λ{p l x y j} q=>by
  by_cases r:j<l.length
  .rw[Rj r]at q;show .inl {r,q}
  .rw[Rn^RA r]at q
   have:j-l.length=0:=by
    have:=(QN.mp q).1;simp at this;show this
   rw[this]at q;show .inr {by omega,by simpa using q.symm}
 show{by simp[f],by simp[g],λj t q=>?_,λi j E H k L I x m=>?_}
 .rcases a q with⟨d,b⟩|⟨d,b⟩
  .let{w,M,N,O,Q}:=h.get j t b;show{w,M,by rw[Rj Z4];show N,by rw[Rj Z4];show O,Q}
  .subst b;show{v,os,?_,?_,J}
   .rw[d,<-f,Rn^QU _];simp
   .rw[d,<-g,Rn^QU _];simp
 .rcases a L with⟨d,b⟩|⟨d,b⟩
  .rcases a I with⟨n,e⟩|⟨n,e⟩
   .show h.apart i j E H k b e x m
   .rw[e];show B E (QT b) x m
  .rcases a I with⟨n,e⟩|⟨n,e⟩
   .rw[b]at m
    show λz=>B H (QT e) x z m
   .show absurd (d.trans n.symm) k
def iE.own(h:iE C `a y b g):fk C H (b.flatten++M) y b g:=by
 let c:∀x∈b.flatten,∃o,H x=!o/\Seen o=fF:=λx e=>by
  let{os,G,e}:=RE.mp e;let{j,I}:=RD.mp G;let{o,m,k}:=h.seen I x e;show{o,(ay m).2,k}
 show{h.l1,h.l2,λj s q=>?_,h.apart};let{v,os,m,k,a,J,L,A,N,O,Q,rfl,T,U,Y,q5,q6,q7,q8}:=h.get j s q;let n:∀x∈os,x∈b.flatten++M:=λx e=>Q2 _^RE.mpr {os,QT k,e}
 show{a,os,m,k,{{J,L,A,N,O,[],Q,T,(ay U).2,yq c Y,?_,yq c q6,?_}},n}
 .let{r1,d}:=ay q5;rw[bv]
  .show d
  .intro z;rcases Rc.mp z with z|z
   .let{ab,p,f}:=RE.mp z;let{i,B}:=RD.mp p;let r:i<g.length:=by have:=(QN.mp B).1;have:=h.l2;omega
    let{v',o2,_,E,a',ac,af,aj,am,t,an,e1,e2,e3,e4,e5,e6,e7,e8}:=h.get i g[i]^QO r;rw[B]at E;cases E;rw[e2]at f;rcases QZ.mp f with w|w
    .rw[w]at d;rw[(ay e3).2]at d;cases d
    .let w:A=t:=by simpa using w
     rw[w,(ay e7).2]at d;cases d
   .show r1 z
 .rw[q8]
  show{{[],(ay q7).2,QU _,{λ_=>A2,λ_=>A2},λas hk=>{λ_=>A2,λv u=>by simp[bD]at u},λ_ _ _ _ _ u=>by simp[bD]at u},(λl hl=>nomatch hl),(λz=>nomatch z)}
def lu (a:List D)(B:List Str):List (Str×Nat):=((al [] a).filter λb=>fT (b∈B)).map λb=>(b,B.idxOf b)
def pY (a:List D)(B:List Str)(W:`j):bE:={a,lu a B,(W.filter λg=>cK g^al B a).map λg=>(g,dB g^al B a),[],-1}
def dq:List^List D->List Str->List^List D->List bE
 |[],_,_=>[]
 |a::r,B,W=>pY a B W::dq r (al B a)^W.filter λg=> not^cK g^al B a
def MB (B:ZY)(n:Str)(h:n∉B):cr (eQ B) (Sum.inr n)^V.int (B.length:Nat)=eQ (B++[n]):=by
 let a:=slot_get B n;rw[QV h]at a;unfold cr;rw[ml,a];change eQ B++_=_;unfold eQ;rw[List.zipIdx_append,Rl,Tc];rfl
def Cr (B:ZY):(eQ B).length=B.length:=by unfold eQ;rw[QP,Vu]
def Mf{E:Ends}{i:Nat}(l:av M H)(y:aA `a f w)(s:p∈M)(e:f[i]?=!!.ref p)(t:H p=!.dK^eQ B)(z:B.length<se)(h:ag x `a f^.str n)
  (k:∀g,(∀b o,b≠p->H b=!o->g b=!o)->av M g->g p=!.dK (eQ^if n∈B then B else B++[n])->aA (but g M) f w->E.nx f g):kQ (zh (aW i) x^cN uT^bq (aW i) bM) E f H:=by
 show{.ref p,e,p,A2,.inl {_,.inl t},h M H `f l _ λv m c A=>{.ref p,e,.inl {p,eQ B,A2,.inl^c _ _ t,?_}}};let a:=c _ _ t;let u:=(gz (d:=.str n) A2 A).2;let r:=slot_get B n;by_cases j:n∈B
 .rw[Q0 j]at r
  show{_,m,.inl {by rw[u,<-r];show dg.k a,A2,_,a},k m (λb o _ q=>c _ _ q) (l.same c) (by rw[Q0 j];show a)^y.same c}
 .rw[QV j]at r
  show{_,_,.inr {by rw[u,<-r];show dg.k a,A2,by rw[u];show gK.k (k:=Sum.inr n) a^by rw[Cr];show z},?_};let C:but (upd m p^.dK^cr (eQ B) (Sum.inr n) (.int ((eQ B).length:Nat))) M=but m M:=eo s;show k _ (λb o G q=>by rw[aE G];show c _ _ q) (l.same c).upd ?_ (by rw[C];show y.same c);rw[aM,Cr,MB B n j,QV j]
section
variable {H:Hp}{M:List vb}{b p:vb}{σ:St}{δ:Dn}{kvs:List (aH×V)}
def Ag:ae (but H (b::p::M))^but H (b::M):=fe λx a=>by
 rcases QZ.mp a with z|z
 .rw[z];show QQ
 .show QM _^QM _ z
def NS:ae (but H (p::b::M))^but H (b::p::M):=fe λx a=>by
 rcases QZ.mp a with z|z
 .rw[z];show QM _ QQ
 .rcases QZ.mp z with z|z
  .rw[z];show QQ
  .show QM _^QM _ z
def Ct (h:aA (but H (b::M)) σ δ)(a:H p=!.dK kvs):aA (but H (b::p::M)) σ δ:=(h.fO a A2).mono NS
end
def G5{a L:ZY}{k:Nat}(f:L.Nodup)(h:L[k]?=!n):(if n∈a++(L.take k).filter (λx=> not^fT (x∈a))then a++(L.take k).filter (λx=> not^fT (x∈a))else a++(L.take k).filter (λx=> not^fT (x∈a))++[n])=a++(L.take (k+1)).filter^λx=> not^fT (x∈a):=by
 let d:n∉L.take k:=λz=>by
  let{i,e}:=RD.mp z;let b:i<k:=by
   have:=(QN.mp e).1;rw[Rr]at this;omega
  rw[RW b]at e;show Rp b^AW f e h
 rw[Rs,h,R7];by_cases c:n∈a
 .rw[Q0^Q2 _ c]
  simp[c]
 .rw[QV (by
   intro z;rcases Rc.mp z with z|z
   .show c z
   .show d (Q4.mp z).1),RI]
  simp[c]
def dH (g:List D):Bool:= not^((al [] g).map D.str).isEmpty
def sP (as:`j):Prop:=(∀a∈as,d9 a)/\as.length<=100
def fG (as:`j):List bE:=dq (as.filter λa=> not^aO a) []^(as.filter aO).filter dH
def Dy (C:vb):Sp:=λvs H Q _=>∃M as v0,vs=[v0]/\av M H/\ap `a v0^cB as/\sP as/\
 ∀p us oss H',ae H H'->but H' M p=!.lst us->iE C (but H' M) us oss^fG as->(∀os∈oss,∀x∈os,H x=bF)->H p=bF->Q (.ref p) H'
def vH (q:D->Bool)(r:ZZ->Bool)(F:D->D)(c:ZZ->D)(b:ZW)(h:∀a∈b,q^.tup a=r a)(d:∀a∈b,F^.tup a=c a):((b.map D.tup).filter q).map F=(b.filter r).map c:=by
 rw[SD,Rz];let e:b.filter (q∘D.tup)=b.filter r:=SN h;rw[e];show Rq λa f=>d a (Q4.mp f).1
def uQ (r:List D->Bool):D->Bool
 |.tup a=>r a
 |_=>fF
def AQ (r:List D->D):D->D
 |.tup a=>r a
 |_=>.aw
end FL
namespace FL
open PySem L2
structure cj where
 steps:List bE
 gm:Bool
 taken:Nat
 fresh:Nat
 last:Int
abbrev kj (sl:vb)(b:Bool)(t f l:Int):List (Str×V):=[("steps",.ref sl),("is_barred",.bl b),("taken_in",.int t),("fresh",.int f),("last_fresh_step",.int l)]
structure nl (K:kc)(C:vb):Prop where
 cl:eX K C
 nS:cQ K C "steps"
 nB:cQ K C "is_barred"
 nT:cQ K C "taken_in"
 nF:cQ K C "fresh"
 nL:cQ K C "last_fresh_step"
def iX (C CL:vb)(H:Hp)(Z:List vb)(a:vb)(oss:List^List vb)(lm:cj):Prop:=∃dx sl us,H a=!.ins CL dx^kj sl lm.gm lm.taken lm.fresh lm.last/\but H Z sl=!.lst us/\fk C H Z us oss lm.steps/\a∈Z/\∀os∈oss,a∉os
def jT (C CL:vb)(G:Hp)(v:V)(lm:cj):Prop:=∃a dx sl us,v=.ref a/\G a=!.ins CL dx^kj sl lm.gm lm.taken lm.fresh lm.last/\G sl=!.lst us/\sO C G us lm.steps
theorem jT.mono(h:jT C b G v d)(e:ae G c):jT C b c v d:=by
 let{a,f,g,i,j,k,l,m}:=h;show{a,f,g,i,j,e _ _ k,e _ _ l,m.mono e}
theorem iX.rep{M:ZX}(h:iX C c H Z a b d)(e:∀x∈M,x∈Z)(f:a∉M)(g:∀os∈b,∀x∈os,x∉M):jT C c `a `n d:=by
 let{i,j,k,l,m,n,o,p}:=h;show{a,i,j,k,A2,by rw[bv f];show l,(fe e) _ _ m,n.rep e g}
def mL (as:`j):Bool:= not^((as.filter aO).filter λg=> not^dH g).all holdsA
def ci (as:`j):cj:={fG as,mL as,0,0,-1}
def vA (as:`j):Prop:=∀g∈as,aO g=bU->∃r a b,g=[.str r,a,b]
def yu (C CL:vb):Sp:=λvs H Q _=>∃M as x dx v1,vs=[.ref x,v1]/\H x=!.ins CL dx []/\av M H/\ap `a v1^cB as/\sP as/\vA as/\
 ∀oss H',(∀b u,b≠x->H b=!u->H' b=!u)->(∀os∈oss,∀y∈os,H y=bF)->av (oss.flatten++x::M) H'->iX C CL H' (oss.flatten++x::M) x oss^ci as->Q .aw H'
def cE (s:bE)(n:Nat)(facts:`j):bE:=(facts.zipIdx n).foldl (λs p=>da s p.2 p.1) s
def NF {s:bE}{n j:Nat}{a:ZW}{g:ZZ}(h:a[j]?=!g):cE s n^a.take (j+1)=da (cE s n^a.take j) (n+j) g:=by
 let c:j<a.length:=(QN.mp h).1;unfold cE;rw[Rs,h,List.zipIdx_append,R1];let b:(a.take j).length=j:=by rw[Rr];omega
 rw[b];rfl
def LJ (s:bE)(n:Nat)(g:ZZ):(da s n g).of.length<=s.of.length+1:=by
 unfold da;split
 .simp
 .omega
def JY (s:bE)(n:Nat)(g:ZZ):(da s n g).db=s.db:=by
 unfold da;split<;>rfl
theorem zU (n:Nat)(s:bE):∀(l:List (ZZ×Nat)) (s:bE),((l.foldl (λs p=>da s p.2 p.1) s).of.length<=s.of.length+l.length)/\(l.foldl (λs p=>da s p.2 p.1) s).db=s.db
 |[],s=>{QU _,A2}
 |p::r,s=>by
  let{b,a}:=zU n s r^da s p.2 p.1;let c:=LJ s p.2 p.1;show{?_,?_}
  .change(r.foldl _^da s p.2 p.1).of.length<=_;rw[Rw];omega
  .change(r.foldl _^da s p.2 p.1).db=_;rw[a,JY]
def Bc (s:bE)(n:Nat)(a:ZW):(cE s n a).of.length<=s.of.length+a.length:=by
 have:=(zU n s (a.zipIdx n) s).1;rw[Vu]at this;show this
def QE (s:bE)(n:Nat)(a:ZW):(cE s n a).db=s.db:=(zU n s (a.zipIdx n) s).2
def lK (ss:List bE)(n:Nat):Int:=gf (((List.range ss.length).filter λj=>fT ((n:Int)<=(ss.getD j {[],[],[],[],-1}).newest)).map λj=>((j:Nat):Int)) (-1)
def cn (lm:cj)(facts:`j):cj:={lm.steps.map λs=>cE s lm.taken facts,lm.gm,lm.taken+facts.length,lm.taken,lK (lm.steps.map λs=>cE s lm.taken facts) lm.taken}
def DQ (C CL:vb):Sp:=λvs H Q _=>∃Z oss lm facts a v1,vs=[.ref a,v1]/\av Z H/\iX C CL H Z a oss lm/\ap (but H Z) v1^.lst^facts.map D.tup/\(∀g∈facts,kf g)/\(∀s∈lm.steps,d9 s.db/\s.of.length+facts.length<1000)/\lm.steps.length<=100/\lm.taken+facts.length<2^60/\
 ∀oss' H',(∀os∈oss',∀x∈os,(∃o∈oss,x∈o)\/H x=bF)->(∀b u,b≠a->(∀os∈oss,b∉os)->H b=!u->H' b=!u)->av (oss'.flatten++Z) H'->iX C CL H' (oss'.flatten++Z) a oss'^cn lm facts->Q .aw H'
structure jZ (C:vb)(us:List V)(H2:Hp)(Z2:List vb)(oss:List^List vb)(H':Hp)(Z':List vb)(oss':List^List vb)(ss':List bE):Prop where
 st:fk C H' Z' us oss' ss'
 own:∀os∈oss',∀x∈os,(∃o∈oss,x∈o)\/H2 x=bF
 keep:∀b u,(∀os∈oss,b∉os)->H2 b=!u->H' b=some u
 live:av Z' H'
 sub:∀x∈Z2,x∈Z'
 sup:∀x∈Z',x∈Z2\/∃os∈oss',x∈os
section
variable {C:vb}{us:List V}{H2 H' H'':Hp}{Z2 Z':List vb}{oss oss':List^List vb}{ss':List bE}
def jZ.same (h:jZ C us H2 Z2 oss H' Z' oss' ss')(j:∀os∈oss,∀x∈os,x∈Z2):ae (but H2 Z2)^but H' Z':=λb u e=>by
 let{g,a}:=ay e;let i:∀os∈oss,b∉os:=λos c z=>g^j os c b z;rw[bv]
 .show h.keep b u i a
 .intro z;rcases h.sup b z with w|⟨os,c,w⟩
  .show g w
  .rcases h.own os c b w with⟨o,d,f⟩|f
   .show i o d f
   .rw[f]at a;cases a
theorem jZ.mono (h:jZ C us H2 Z2 oss H' Z' oss' ss')(e:ae H' H''):jZ C us H2 Z2 oss H'' Z' oss' ss':={h.st.mono e,h.own,λb u a q=>e _ _^h.keep b u a q,h.live.same e,h.sub,h.sup}
theorem jZ.put{j:Nat}{os c:ZX}(h:jZ C us H2 Z2 oss H' Z' oss' ss')(G:ss'[j]?=!s)(H:us[j]?=!.ref a)(m:oss'[j]?=!os)(r:∀x∈os,x∈Z')
  (n:∀x∈c,x∈os\/H' x=bF) (t:∀x∈os,x∈c) (k:∀b u,b∉os->H' b=!u->H'' b=!u) (l:av (c++Z') H'') (A:i9 C H'' (c++Z') a c B):jZ C us H2 Z2 oss H'' (c++Z') (oss'.set j c)^ss'.set j B:=by
 let p:j<oss'.length:=(QN.mp m).1;let mem_set:∀{o:ZX},o∈oss'.set j c->o=c\/o∈oss':=λ{o} q=>by
  rcases Tn q with z|z
  .show .inr z
  .show .inl z
 let g:∀{x:vb},H' x=bF->(∃o∈oss,x∈o)\/H2 x=bF:=λ{x} e=>by
  by_cases z:∃o∈oss,x∈o
  .show .inl z
  .cases q:H2 x with
   |none=>show .inr A2
   |some u=>
    have:=h.keep x u (λo d f=>z {o,d,f}) q;rw[e]at this;cases this
 show{h.st.put h.live G H m n k r A,λo I x f=>?_,λb u E q=>?_,l,λx f=>Q1 _^h.sub x f,λx f=>?_}
 .rcases mem_set I with z|z
  .subst z;rcases n x f with w|w
   .show h.own os (QT m) x w
   .show g w
  .show h.own o z x f
 .let v:=h.keep b u E q;show k b u (λz=>?_) v;rcases h.own os (QT m) b z with⟨o,d,w⟩|w
  .show E o d w
  .rw[q]at w;cases w
 .rcases Rc.mp f with z|z
  .show .inr {c,RD.mpr {j,Q3 p},z}
  .rcases h.sup x z with w|⟨o,d,w⟩
   .show .inl w
   .let{i,y}:=RD.mp d;by_cases e:j=i
    .subst e;rw[m]at y;cases y;show .inr {c,RD.mpr {j,Q3 p},t x w}
    .show .inr {o,RD.mpr {i,by rw[QS e];show y},w}
end
end FL
namespace FL
open PySem L2
def fg (lm:cj):List aN:=if(lm.gm||(fT (lm.last<0)&&fT ((0:Int)<lm.fresh)))=bU then []else if(lm.steps.all λs=>fT ((0:Int)<=s.newest))=bU then [([],[])]else []
def iP (lm:cj)(w:aN):Int:=if(fT (((w.2.length:Nat):Int)=lm.last)&&fT (gf (w.2.map λn=>((n:Nat):Int)) (-1)<lm.fresh))=bU then lm.fresh else 0
def cI (lm:cj)(w:aN):List aN:=match lm.steps[w.2.length]? with
 |some st=>fX st w^iP lm w
 |none=>[]
def dk (lm:cj):Nat->aN->List aN
 |0,w=>[w]
 |n+1,w=>(cI lm w).reverse.flatMap^dk lm n
def eE (lm:cj):Nat->aN->Nat
 |0,_=>1
 |n+1,w=>1+((cI lm w).map^eE lm n).sum
def C4 (a:cj):∀(n:Nat) (w:aN),1<=eE a n w
 |0,_=>QU _
 |n+1,w=>RL _ _
def ck (lm:cj)(w:aN):Nat:=lm.steps.length-w.2.length
def lJ(h:x∈cI lm w):x.2.length=w.2.length+1:=by
 unfold cI at h;split at h
 .unfold fX at h;let{o,a,rfl}:=Q6.mp (Q4.mp h).1;change(w.2++[o.2.1]).length=_;rw[Q7];rfl
 .cases h
def Oy {a:cj}{w:aN}(h:w.2.length<a.steps.length):dk a (ck a w) w=(cI a w).reverse.flatMap λx=>dk a (ck a x) x:=by
 let e:ck a w=ck a w-1+1:=by unfold ck;omega
 rw[e];change(cI a w).reverse.flatMap (dk a<|ck a w-1)=_;have:∀(L:List aN),(∀x∈L,x.2.length=w.2.length+1)->L.flatMap (dk a<|ck a w-1)=L.flatMap λx=>dk a (ck a x) x:=by
  intro L;induction L with
  |nil=>show λ_=>A2
  |cons x r c=>
   intro b;let d:ck a x=ck a w-1:=by have:=b x QQ;unfold ck;omega
   rw[RT,RT,c λy f=>b y^QM _ f,d]
 show this _ λx b=>lJ^SS.mp b
def Lq {a:cj}{w:aN}(h:w.2.length<a.steps.length):eE a (ck a w) w=1+((cI a w).map λx=>eE a (ck a x) x).sum:=by
 let e:ck a w=ck a w-1+1:=by unfold ck;omega
 rw[e];change 1+((cI a w).map<|eE a<|ck a w-1).sum=_;congr 2;show Rq λx b=>by
  let c:ck a x=ck a w-1:=by have:=lJ b;unfold ck;omega
  rw[c]
theorem Ai (a:cj):∀(l:List aN),l.length<=(l.map λw=>eE a (ck a w) w).sum
 |[]=>QU _
 |w::r=>by
  rw[RB,VI,Rw];have:=Ai a r;have:=C4 a (ck a w) w;omega
structure lO (sz:Nat->Nat)(ss:List bE):Prop where
 zero:sz 0=0
 st:∀k s,ss[k]?=!s->lS (sz k) s/\∀o∈s.of,sz k+o.2.2.length=sz (k+1)
 le:∀k,sz k<=500
 len:ss.length<=100
structure GoodW (sz:Nat->Nat)(ss:List bE)(w:aN):Prop where
 one:w.1.length=sz w.2.length
 two:w.2.length<=ss.length
 ok:kR w.1
def GoodW.nil(h:lO a b):GoodW a b ([],[]):={h.zero.symm,Rk _,λp c=>nomatch c}
def FV{e:cj}(h:lO d e.steps)(g:GoodW d e.steps w):∀x∈cI e w,GoodW d e.steps x:=λx a=>by
 let b:=lJ a;unfold cI at a;split at a
 .rename_i s i
  unfold fX at a;let{o,j,rfl}:=Q6.mp (Q4.mp a).1;let f:o∈(fU s.of^gZ w.1^iH s).reverse:=(T6 _).subset j;let c:o∈s.of:=(Q4.mp^SS.mp f).1;let{k,l}:=h.st _ s i;let m:=(QN.mp i).1;show{?_,?_,λp n=>?_}
  .change(w.1++o.2.2).length=d (w.2++[o.2.1]).length;let b:(w.2++[o.2.1]).length=w.2.length+1:=b;rw[Q7,g.one,l o c,b]
  .let b:(gu w o).2.length=w.2.length+1:=b;rw[b];omega
  .rcases Rc.mp n with z|z
   .show g.ok p z
   .show(k.of o c).1 p z
 .cases a
def F5 (C CL:vb):Sp:=λvs H Q _=>∃M lm v0,vs=[v0]/\av M H/\jT C CL `a v0 lm/\lm.steps.length<=100/\∀p us H',ae H H'->H p=bF->H' p=!.lst us->aF (but H' (p::M)) us^(fg lm).map dC->Q (.ref p) H'
def ya (C CL:vb):Sp:=λvs H Q _=>∃M lm w0 v0 v1,vs=[v0,v1]/\av M H/\jT C CL `a v0 lm/\ap `a v1^dC w0/\∀H',ae H H'->Q (.bl^fT (w0.2.length=lm.steps.length)) H'
def An (C CL:vb):Sp:=λvs H Q _=>∃M lm w0 v0 v1 sz,vs=[v0,v1]/\av M H/\jT C CL `a v0 lm/\ap `a v1^dC w0/\lO sz lm.steps/\GoodW sz lm.steps w0/\w0.2.length<lm.steps.length/\∀v H',ae H H'->ap (but H' M) v^.lst^(cI lm w0).map dC->Q v H'
def ib (as facts:`j):List aN:=(fg^cn (ci as) facts).flatMap λw=>dk (cn (ci as) facts) (ck (cn (ci as) facts) w) w
section
variable {K:kc}{G:Hp}{σ:St}{te:TE}{a:vb}{us:List V}
def Py (h:oF te G σ a)(d:G a=!.lst us):ag (cN (λe H Q=>∃p b,e=[.ref p]/\(aU K H p b\/bQ K H p b)/\Q (.int b.length) H)^bq te bM) G σ^.int (us.length:Nat):=
 λM H s l Q k=>h M H s l _ λf c=>{a,us,A2,.inl^aU.of^c _ _ (ay^s _ _ d).2,k _ f c^.int _}
def AX{st:bE}{d:aN}{lo:Int}(h:oF te G σ a)(A:G a=!.lst us)(B:ag (aW i) G σ^.int (m:Nat))(E:us[m]?=!v)(j:lA C G v st)(I:kR d.1)(o:d.1.length<=500)(p:d.2.length<=500)(J:lS d.1.length st)(L:ag (aW n) G σ^dC d)(r:ag (aW q) G σ^.int lo):
  ag (mP C "carry_on" (xW C) [] L2.E0 (bT (eP K) te^aW i)^bq (aW n)^bq (aW q) bM) G σ^.lst^(fX st d lo).map dC:=λM H s l Q k=>by
 show h M H s l _ λN f=>B M N (s.trans^f.but M) (l.same f) _ λy O w T=>.inl {a,us,_,v,A2,T.dQ,aU.of^w _ _^f _ _ (ay^s _ _ A).2,vm E,?_};let b:=f.trans w;let c:=j.mono^s.trans^b.but M
 let{x,t,w1,sa,w3,U,oS,rfl,Y,g2,g3,g4,g5}:=id c;show{x,t,_,A2,(ay Y).2,A2,L M O (s.trans^b.but M) (l.same b) _ λu H2 e ru=>r M H2 (s.trans^(b.trans e).but M) (l.same^b.trans e) _ λz H3 g rz=>?_};let ez:=rz.dQ;subst ez;show{M,st,d,lo,.ref x,u,A2,l.same^b.trans^e.trans g,c.mono^(e.trans g).but M,ru.mono^g.but M,I,o,p,J,λv' H4 s4 r4=>k v' H4 (b.trans^e.trans^g.trans s4) r4}
def ND {C CL:vb}{i j:Nat}{lm:cj}{w0:aN}(e:σ[i]?=!!.ref a)(hL:jT C CL G `n lm)(h:ag (aW j) G σ^dC w0):bu (tB^mP CL "is_whole" (ya C CL) [] L2.E0 (aW i)^bq (aW j) bM) G σ^fT (w0.2.length=lm.steps.length):=λM H s l Q k=>by
 let{a',dx',sl,us,e1,g1,g2,g3}:=id hL;cases e1;show{.ref a,e,a,dx',_,A2,(ay^s _ _ g1).2,A2,h M H s l _ λv H1 s1 r1=>?_};show{M,lm,w0,.ref a,v,A2,l.same s1,hL.mono^s.trans^s1.but M,r1,λH2 s2=>{_,A2,k H2^s1.trans s2}}
def Lc {C CL:vb}{i j:Nat}{lm:cj}{w0:aN}{sz:Nat->Nat}(e:σ[i]?=!!.ref a)(hL:jT C CL G `n lm)(hR:lO sz lm.steps)(hW:GoodW sz lm.steps w0)(hlt:w0.2.length<lm.steps.length)(h:ag (aW j) G σ^dC w0):ag (mP CL "carried_on" (An C CL) [] L2.E0 (aW i)^bq (aW j) bM) G σ^.lst^(cI lm w0).map dC:=λM H s l Q k=>by
 let{a',dx',sl,us,e1,g1,g2,g3}:=id hL;cases e1;show{.ref a,e,a,dx',_,A2,(ay^s _ _ g1).2,A2,h M H s l _ λv H1 s1 r1=>?_};show{M,lm,w0,.ref a,v,sz,A2,l.same s1,hL.mono^s.trans^s1.but M,r1,hR,hW,hlt,λv2 H2 s2 r2=>k v2 H2 (s1.trans s2) r2}
def iW(s:ae H b)(h:b p=bF):H p=bF:=by
 cases q:H p with
 |none=>rfl
 |some u=>rw[s _ _ q]at h;cases h
def yf{E:Ends}(l:av M H)(h:dF t `a σ ds)(g:ds.length<=se)(k:∀p b c,ae H c->H p=bF->c p=!.lst b->aF (but c (p::M)) b ds->E.rt (.ref p) c):ph (ma t) E σ H:=
 h M H `f l _ λb i e f=>{by rw[f.length];show g,λp d=>k p b _ (e.trans^c9 d _) (by
  cases q:H p with
  |none=>rfl
  |some u=>rw[e _ _ q]at d;cases d) aM^ui d f}
end
theorem wE:∀(b:ZW) (B:ZY) (W:ZW) (s:bE),s∈dq b B W->s.db∈b/\s.of=[]/\s.newest=-1
 |[],_,_,s,h=>by cases h
 |a::r,B,W,s,h=>by
  rcases QZ.mp h with z|z
  .subst z;show{QQ,A2,A2}
  .let{c,d,e}:=wE r _ _ s z;show{QM _ c,d,e}
theorem ou:∀(b:ZW) (B:ZY) (W:ZW),(dq b B W).length=b.length
 |[],_,_=>rfl
 |a::r,B,W=>RF (· +1)^ou r _ _
end FL
namespace O5
open PySem L2 FL
structure kM where
 shared:List Nat
 of:List dP
 gs:List (List D×List Nat)
structure lS (n:Nat)(st:kM):Prop where
 sh:∀i∈st.shared,i<n
 shl:st.shared.length<=100
 of:∀o∈st.of,kR o.2.2/\o.2.2.length<=100/\∀g∈st.gs,tN (n+o.2.2.length) g
 wn:st.of.length<=200
def jv (st:kM)(w:aN):List aN:=(pZ st.of (gZ w.1 st.shared) w).filter λx=>fK x.1 st.gs
def dq (facts:`j):List^List D->List Str->List^List D->List kM
 |[],_,_=>[]
 |a::r,B,W=>{dB a B,fi a facts B,(W.filter λg=>cK g^al B a).map λg=>(g,dB g^al B a)}::dq facts r (al B a)^W.filter λg=> not^cK g^al B a
def fG (facts as:`j):List kM:=dq facts (as.filter λa=> not^aO a) []^(as.filter aO).filter dH
def fZ:List kM->aN->List aN
 |[],w=>[w]
 |s::r,w=>(jv s w).flatMap^fZ r
def nodes:List kM->aN->Nat
 |[],_=>1
 |s::r,w=>1+((jv s w).map^nodes r).sum
def wa (facts as:`j):List aN:=if(((as.filter aO).filter λg=> not^dH g).all holdsA&&(fG facts as).all λs=> not s.of.isEmpty)=bU then fZ (fG facts as) ([],[])else []
structure lO (sz:Nat->Nat)(ss:List kM):Prop where
 zero:sz 0=0
 st:∀k s,ss[k]?=!s->lS (sz k) s/\∀o∈s.of,sz k+o.2.2.length=sz (k+1)
 le:∀k,sz k<=500
 len:ss.length<=100
def LL (A:ZZ)(a:ZW)(b:ZY):(fi A a b).length<=a.length:=by
 unfold fi;have:=List.length_filterMap_le (λp:ZZ×Nat=>(b9 A p.1 []).map λst=>(dS b st,(p.2,restOf b st))) a.zipIdx;rw[Vu]at this;show this
def Is{V:Str->D}{B:ZY}(h:b∈B)(d:Str×D):(ax V B).getD (B.idxOf b) d=(b,V b):=by
 let a:=Te h;unfold ax;rw[List.getD,QY,QO a];change(B[B.idxOf b],V B[B.idxOf b])=(b,V b)
 rw[UL a]
def D0 (V:Str->D)(B:ZY)(g:ZZ):dM (ax V B)^dB g B=ax V^(al [] g).filter λb=>fT (b∈B):=by
 unfold dM dB;rw[Rz];unfold ax;show Rq λb a=>?_;have:=Q8 (Q4.mp a).2;show Is this _
def AO (V:Str->D)(B:ZY)(a:ZZ):gZ (ax V B)^dB a B=((al [] a).filter λb=>fT (b∈B)).map V:=by
 unfold gZ;rw[D0];unfold ax;rw[Rz];rfl
def GC(h:cK g B=bU):(al [] g).filter (λb=>fT (b∈B))=al [] g:=by
 have:=Q8 h;unfold dB at this;rw[QP]at this;show RM.mpr^List.length_filter_eq_length_iff.mp this
def z0{V:Str->D}(a:cL B)(h:∀b∈al [] g,b∈B):g.map^cF^ax V B=g.map^aX V:=
 Rq λx c=>md a λe=>h _^pe c e
def ji (W:`j)(B:List Str)(S:aT):Bool:=(W.filter λg=>cK g B).all λg=>holdsA^g.map^cF S
def Jn{V:Str->D}(W:ZW)(f:cL B):fK (ax V B) ((W.filter λg=>cK g B).map λg=>(g,dB g B))=ji W B^ax V B:=by
 unfold fK ji;rw[US];let e:∀L:ZW,(∀g∈L,cK g B=bU)->L.all ((λg=>holdsA^g.1.map^cF^dM (ax V B) g.2)∘λg=>(g,dB g B))=L.all λg=>holdsA^g.map^cF^ax V B:=by
  intro L;induction L with
  |nil=>show λ_=>A2
  |cons g r i=>
   intro h;rw[Uq,Uq,i λx j=>h x^QM _ j];congr 1;let c:=GC^h g QQ
   change holdsA^g.map^cF^dM (ax V B)^dB g B=holdsA^g.map^cF^ax V B;let a:∀b∈al [] g,b∈B:=λb d=>by
    rw[<-c]at d;show Q8 (Q4.mp d).2
   rw[D0,c,z0 (j6 fj) λb d=>d,z0 f a]
 show e _ λg c=>(Q4.mp c).2
def jl:List^List D->List Str->List^List D->List kU
 |[],_,_=>[]
 |a::r,B,W=>{a,ji W^al B a}::jl r (al B a)^W.filter λg=> not^cK g^al B a
def zd{V:Str->D}(e:cL B)(f:x∈ext b a (ax V B,d)):∃c,x.1=ax c^al B a:=by
 let{S,h}:=x;let{i,g,_,j,_}:=qw.mp f;let{c,_,k,_}:=kn e j;show{c,k}
theorem GI (b:ZW):∀(d:ZW) (B:ZY) (W:ZW) (V:Str->D) (f:List Nat),cL B->(∀a∈d,kN a)->fZ (dq b d B W) (ax V B,f)=ge b (jl d B W) [(ax V B,f)]
 |[],B,W,V,f,_,_=>rfl
 |a::r,B,W,V,f,k,p=>by
  let i:=j6 (l:=a) k;let q:jv ⟨dB a B,fi a b B,(W.filter λg=>cK g^al B a).map λg=>(g,dB g^al B a)⟩ (ax V B,f)=qf b ⟨a,ji W^al B a⟩ (ax V B,f):=by
   unfold jv qf;change(pZ (fi a b B) (gZ (ax V B)^dB a B) (ax V B,f)).filter _=(ext b a (ax V B,f)).filter _;rw[AO,zc k^p a QQ];show SN λx m=>?_;let{j,e}:=zd k m;rw[e];show Jn W i
  change(jv {dB a B,fi a b B,_} (ax V B,f)).flatMap^fZ^dq b r (al B a) _=ge b (jl r (al B a) _)^[(ax V B,f)].flatMap^qf b {a,ji W^al B a};rw[q,Sw,CS];let n:∀L:List aN,(∀x∈L,∃j,x.1=ax j^al B a)->L.flatMap (fZ^dq b r (al B a)^W.filter λg=> not^cK g^al B a)=L.flatMap λw=>ge b (jl r (al B a)^W.filter λg=> not^cK g^al B a) [w]:=by
   intro L;induction L with
   |nil=>show λ_=>A2
   |cons x t s=>
    intro h;let{j,e}:=h x QQ;let{S,o}:=x;let e:S=ax j^al B a:=e;subst e;rw[RT,RT,s λy u=>h y^QM _ u,GI b r (al B a) _ j o i λc v=>p c^QM _ v]
  show n _ λx m=>zd k (Q4.mp m).1
def iB (gs:`j)(S:aT):Bool:=gs.all λg=>holdsA^g.map^cF S
def w6:cK g B=bU↔∀b∈al [] g,b∈B:=by
 constructor
 .intro h b a;rw[<-GC h]at a;show Q8 (Q4.mp a).2
 .intro h;unfold cK dB;rw[QP,RM.mpr λb a=>Q9^h b a];show Q9 A2
theorem yh(p f:a->Bool):∀l:List a,l.all f=((l.filter p).all f&&(l.filter λx=> not^p x).all f)
 |[]=>rfl
 |x::r=>by
  rw[Uq,yh p f r,Tg,Tg];by_cases h:p x=bU
  .rw[Q0 h,QV (by simp[h]),Uq,Bool.and_assoc]
  .let b:p x=fF:=by simpa using h
   rw[QV h,Q0 (by simp[b]),Uq];cases f x<;>simp
theorem BB (S:aT):∀(c:ZW) (B:ZY) (W:ZW),(∀g∈W,cK g B=fF)->(∀g∈W,∀b∈al [] g,b∈ba B c)->((jl c B W).all λs=>s.ok S)=iB W S
 |[],B,W,f,d=>by
  have:W=[]:=by
   cases W with
   |nil=>rfl
   |cons g r=>
    let a:=f g QQ;let b:=w6.mpr^d g QQ
    rw[show cK g B=bU from b]at a;cases a
  rw[this];rfl
 |a::r,B,W,f,d=>by
  change(ji W (al B a) S&&(jl r (al B a) _).all λs=>s.ok S)=_;rw[BB S r (al B a) _ (λg e=>by simpa using(Q4.mp e).2) λg e=>d g (Q4.mp e).1];unfold iB ji;show(yh (λg=>cK g^al B a) _ W).symm
theorem wB:∀(b:ZW) (B:ZY) (W:ZW),(jl b B W).map (·.atom)=b
 |[],_,_=>rfl
 |a::r,B,W=>by
  change a::(jl r _ _).map (·.atom)=a::r;rw[wB r]
theorem DF:∀(b:ZW) (B:ZY) (W:ZW) (i:Nat) (s:kU),(jl b B W)[i]?=!s->∃c,s.ok=ji c^ba B^b.take (i+1)
 |[],_,_,i,s,h=>by simp[jl]at h
 |a::r,B,W,0,s,h=>by
  let h:kU.mk a^ji W^al B a=s:=Q5 h;show{W,?_};rw[<-h];rfl
 |a::r,B,W,i+1,s,h=>by
  let h:(jl r (al B a)^W.filter λg=> not^cK g^al B a)[i]?=!s:=h;let{c,e}:=DF r _ _ i s h;show{c,by rw[e];rfl}
def MD(V a:Str->D)(C:ZY)(i:cL (B++C))(h:∀b∈B,a b=V b):ji W B^ax a (B++C)=ji W B^ax V B:=by
 unfold ji;let c:∀L:ZW,(∀g∈L,cK g B=bU)->L.all (λg=>holdsA<|g.map<|cF<|ax a<|B++C)=L.all λg=>holdsA^g.map^cF^ax V B:=by
  intro L;induction L with
  |nil=>show λ_=>A2
  |cons g r l=>
   intro j;rw[Uq,Uq,l λx d=>j x^QM _ d];congr 2;let m:=w6.mp^j g QQ
   show Rq λx d=>?_;by_cases e:aG x=bU
   .let f:=m _^pe d e;let n:=pW (V:=a) (B:=B++C)^Q2 _ f
    let o:=pW (V:=V) f;rw[jD e,n,o,h _ f]
   .let k:aG x=fF:=by simpa using e
    rw[lG^qy i k,lG^qy (λb p=>i b^Q2 _ p) k]
 show c _ λg q=>(Q4.mp q).2
def P1{c:ZW}{W:ZW}(j:∀a∈c,kN a)(k:∀g∈W,cK g []=fF)(l:∀g∈W,∀b∈al [] g,b∈ba [] c):fZ (dq facts c [] W) ([],[])=(gF facts c [([],[])]).filter λw=>iB W w.1:=by
 let m:=GI facts c [] W (λ_=>.aw) [] fj j;let d:=AG facts (jl c [] W) [] [([],[])] fj (λw n=>{λ_=>.aw,by rw[Rg.mp n];rfl}) (λi s o V p C f h=>by
  let{q,e}:=DF c [] W i s o;rw[VJ,wB]at f h⊢;rw[e];show MD V p C f h)
 rw[wB]at d;show(show fZ (dq facts c [] W) ([],[])=_ from m).trans^d.trans ?_
 show SN λw _=>?_;show BB w.1 c [] W k l
theorem BY (b:ZW):∀(d:ZW) (B:ZY) (W:ZW) (i:List aN),cL B->(∀a∈d,kN a)->(∀w∈i,∃V,w.1=ax V B)->((dq b d B W).all λs=> not s.of.isEmpty)=fF->gF b d i=[]
 |[],_,_,_,_,_,_,h=>by cases h
 |a::r,B,W,i,j,m,n,h=>by
  change gF b r^i.flatMap^ext b a=[]
  by_cases o:fi a b B=[]
  .have:i.flatMap^ext b a=[]:=by
    rw[List.flatMap_eq_nil_iff];intro w f;let{V,e}:=n w f;let{S,p}:=w;let e:S=ax V B:=e;subst e;rw[<-zc j^m a QQ,o];rfl
   rw[this,CF]
  .show BY b r (al B a) (W.filter λg=> not^cK g^al B a) _ (j6 j) (λc q=>m c^QM _ q) (λx k=>?_) ?_
   .let{w,f,k}:=RY.mp k;let{V,e}:=n w f;let{S,p}:=w;let e:S=ax V B:=e;subst e;show zd j k
   .let h:((not^(fi a b B).isEmpty)&&(dq b r (al B a)^W.filter λg=> not^cK g^al B a).all λs=> not s.of.isEmpty)=fF:=h;let l:(not^(fi a b B).isEmpty)=bU:=by
     cases t:fi a b B with
     |nil=>show absurd t o
     |cons _ _=>rfl
    rw[l,Uc]at h;show h
def Qx{S:aT}(b:∀p∈S,aG^.str p.1=bU)(h:dH g=fF):g.map^cF S=g:=by
 let c:al [] g=[]:=by
  unfold dH at h;cases e:al [] g with
  |nil=>rfl
  |cons x r=>rw[e]at h;cases h
 have:∀x∈g,cF S x=x:=λx d=>by
  let a:aG x=fF:=by
   cases e:aG x with
   |false=>rfl
   |true=>
    have:=pe (B:=[]) d e;rw[c]at this;cases this
  show lG ?_;cases q:fP S x with
  |false=>rfl
  |true=>
   let{p,f,e}:=Um.mp q;let e:D.str p.1=x:=Q8 e;have:=b p f;rw[e,a]at this;cases this
 show(Rq this).trans^T5 g
def GW{as:ZW}(z:∀a∈as,aO a=fF->kN a)(A:∀g∈as,aO g=bU->∀b∈al [] g,b∈ba []^as.filter λa=> not^aO a):wa facts as=(gF facts (as.filter λa=> not^aO a) [([],[])]).filter λw=>iB (as.filter aO) w.1:=by
 let d:∀a∈as.filter λa=> not^aO a,kN a:=λa v=>z a (Q4.mp v).1 (by simpa using(Q4.mp v).2);let l:∀g∈(as.filter aO).filter dH,cK g []=fF:=λg f=>by
  let m:=(Q4.mp f).2;cases e:cK g []with
  |false=>rfl
  |true=>
   have:=w6.mp e;let n:al [] g=[]:=by
    cases q:al [] g with
    |nil=>rfl
    |cons x r=>have:=this x (by rw[q];show QQ);cases this
   unfold dH at m;rw[n]at m;cases m
 let o:∀g∈(as.filter aO).filter dH,∀b∈al [] g,b∈ba []^as.filter λa=> not^aO a:=λg f=>by
  have:=(Q4.mp f).1;show A g (Q4.mp this).1 (Q4.mp this).2
 let B:=P1 (facts:=facts) d l o;let t:∀w∈gF facts (as.filter λa=> not^aO a) [([],[])],∀p∈w.1,aG^.str p.1=bU:=λw i p C=>by
  let{S,H}:=w;let{V,rfl,_}:=(sf d).mp i;let{b,n,rfl}:=Q6.mp C;show jh fj b n
 let c:∀w∈gF facts (as.filter λa=> not^aO a) [([],[])],iB (as.filter aO) w.1=(iB ((as.filter aO).filter dH) w.1&&((as.filter aO).filter λg=> not^dH g).all holdsA):=λw i=>by
  unfold iB;rw[yh dH];congr 1;have:∀L:ZW,(∀g∈L,dH g=fF)->(L.all λg=>holdsA^g.map^cF w.1)=L.all holdsA:=by
   intro L;induction L with
   |nil=>show λ_=>A2
   |cons g r E=>
    intro h;rw[Uq,Uq,E λx G=>h x^QM _ G,Qx (t w i)^h g QQ]
  show this _ λg f=>by simpa using(Q4.mp f).2
 rw[SN c];unfold wa;by_cases u:((as.filter aO).filter λg=> not^dH g).all holdsA=bU
 .by_cases y:((fG facts as).all λs=> not s.of.isEmpty)=bU
  .rw[Q0^by rw[u,y];rfl]
   unfold fG;rw[B];show SN λw _=>?_;rw[u,Uz]
  .let j:((fG facts as).all λs=> not s.of.isEmpty)=fF:=by simpa using y
   rw[QV (by rw[j];simp),BY facts _ [] _ _ fj d (λw i=>{λ_=>.aw,by rw[Rg.mp i];rfl}) j];rfl
 .let k:((as.filter aO).filter λg=> not^dH g).all holdsA=fF:=by simpa using u
  rw[QV (by rw[k];simp),Td.mpr λw _=>by rw[k,Wb];show QW]
def uO (g:List D):Prop:=d9 g/\∃r x y,g=[.str r,x,y]/\aG^.str r=fF
def BJ:∀i∈dB g B,i<B.length:=λi a=>by
 let{b,c,rfl}:=Q6.mp a;show Te^Q8 (Q4.mp c).2
def FX (g:ZZ)(B:ZY):(dB g B).length<=g.length:=by
 unfold dB;rw[QP];let c:=Rv (λb=>fT<|b∈B)^al [] g
 let a:=mv g [];rw[SI]at a;omega
def NG{c:ZW}{B:ZY}{W:ZW}(v:∀g∈c,kf g)(w:c.length<=200)(s:d9 a)(z:∀g∈W,uO g):
  lS B.length {dB a B,fi a c B,(W.filter λg=>cK g^al B a).map λg=>(g,dB g^al B a)}/\∀o∈fi a c B,B.length+o.2.2.length=(al B a).length:=by
 let k:∀o∈fi a c B,kR o.2.2/\o.2.2.length<=100/\B.length+o.2.2.length=(al B a).length:=λo j=>by
  unfold fi at j;let{{g,i},m,e}:=UH.mp j;let n:g∈c:=QT^T9.mp m
  cases l:b9 a g []with
  |none=>
   let e:(b9 a g []).map (λst=>(dS B st,(i,restOf B st)))=!o:=e;rw[l]at e;cases e
  |some st=>
   let e:(b9 a g []).map (λst=>(dS B st,(i,restOf B st)))=!o:=e;rw[l]at e;let e:=Q5 e;rw[<-e];let cC:=B7 l (λt A=>nomatch A) (v g n).2;let C:=Du l;let E:=s.len;let{U,_,d,_}:=kn (V:=λ_=>.aw) (B:=[]) fj l;let d:st=ax U^al [] a:=d;show{λp G=>?_,?_,?_}
   .let f:=(Q4.mp^show p∈restOf B st from G).1;show{cC p f,?_};rw[d]at f;let{b,H,rfl}:=Q6.mp f;show j6 fj b H
   .have:=Rv (λp:Str×D=> not^fT (p.1∈B)) st;change(restOf B st).length<=100;unfold restOf;omega
   .change B.length+(restOf B st).length=_;let I:(restOf B st).length=((al [] a).filter λb=> not^fT (b∈B)).length:=by
     unfold restOf;rw[d,xN U _ λb=> not^fT (b∈B)];unfold ax;rw[QP]
    rw[I,nM a B,Q7]
 show{{BJ,Rh (FX a B) s.len,λo j=>?_,Rh (LL a c B) w},λo j=>(k o j).2.2};let{J,L,M}:=k o j;show{J,L,λg m=>?_};let{u,q,rfl}:=Q6.mp m;let{h,r,x,y,e,N}:=z u (Q4.mp q).1;show{{r,x,y,e,(h.sc x^by rw[e];simp).1,(h.sc y^by rw[e];simp).1,N},?_,Rh (FX u _) h.len};rw[M];show BJ
theorem Gh {b:ZW}(i:∀g∈b,kf g)(j:b.length<=200):∀(d:ZW) (B:ZY) (W:ZW),(∀a∈d,d9 a)->(∀g∈W,uO g)->∀(k:Nat) (s:kM),(dq b d B W)[k]?=!s->
  lS (ba B^d.take k).length s/\∀o∈s.of,(ba B^d.take k).length+o.2.2.length=(ba B^d.take (k+1)).length
 |[],_,_,_,_,k,s,h=>by simp[dq]at h
 |a::r,B,W,e,f,0,s,h=>by
  let h:=Q5 h;rw[<-h];show NG i j (e a QQ) f
 |a::r,B,W,e,f,k+1,s,h=>by
  let h:(dq b r (al B a)^W.filter λg=> not^cK g^al B a)[k]?=!s:=h;show Gh i j r (al B a) _ (λc l=>e c^QM _ l) (λg m=>f g (Q4.mp m).1) k s h
theorem ou (b:ZW):∀(c:ZW) (B:ZY) (W:ZW),(dq b c B W).length=c.length
 |[],_,_=>rfl
 |a::r,B,W=>RF (· +1)^ou b r _ _
def wk {b c:ZW}(e:∀g∈b,kf g)(f:b.length<=200)(i:∀a∈c,d9 a)(j:c.length<=100)(l:∀g∈c,aO g=bU->uO g)(m:∀k,(ba []^(c.filter λa=> not^aO a).take k).length<=500):
  lO (λk=>(ba []^(c.filter λa=> not^aO a).take k).length)^fG b c:=by
 show{A2,λk s h=>?_,m,?_}
 .show Gh e f _ [] _ (λa n=>i a (Q4.mp n).1) (λg d=>l g (Q4.mp (Q4.mp d).1).1 (Q4.mp (Q4.mp d).1).2) k s h
 .unfold fG;rw[ou];show Rh (Rv _ _) j
def pw (F:Nat):Nat->Nat
 |0=>1
 |n+1=>1+F*pw F n
theorem DY(f:a->Nat)(c:Nat):∀l:List a,(∀x∈l,f x<=c)->(l.map f).sum<=l.length*c
 |[],_=>Rk _
 |x::r,h=>by
  rw[RB,VI,Rw,VZ];let d:=DY f c r λy b=>h y^QM _ b
  let e:=h x QQ;omega
end O5
namespace FL
open PySem L2
def rO (a:List D)(B:List Str)(l:List (List D×Nat)):List dP:=l.filterMap λp=>(b9 a p.1 []).map λst=>(dS B st,(p.2,restOf B st))
theorem CN:∀(l:List (ZZ×Nat)) (s:bE),letI t:=l.foldl (λs p=>da s p.2 p.1) s
  t.db=s.db/\t.shared=s.shared/\t.gs=s.gs/\t.of=s.of++rO s.db (f9 s) l
 |[],s=>{A2,A2,A2,(Ro _).symm}
 |p::r,s=>by
  let{a,b,c,d}:=CN r^da s p.2 p.1;let e:(da s p.2 p.1).db=s.db/\(da s p.2 p.1).shared=s.shared/\(da s p.2 p.1).gs=s.gs/\(da s p.2 p.1).of=s.of++(match b9 s.db p.1 []with|some st=>[(dS (f9 s) st,(p.2,restOf (f9 s) st))]|none=>[]):=by
   unfold da;cases f:b9 s.db p.1 []with
   |none=>show{A2,A2,A2,(Ro _).symm}
   |some st=>show{A2,A2,A2,A2}
  let g:f9^da s p.2 p.1=f9 s:=by unfold f9;rw[e.2.1]
  show{a.trans e.1,b.trans e.2.1,c.trans e.2.2.1,d.trans ?_};rw[e.2.2.2,e.1,g,RI];congr 1;unfold rO;rw[Sj];cases f:b9 s.db p.1 []with
  |none=>rfl
  |some st=>rfl
def qQ (s:bE):Prop:=fT ((0:Int)<=s.newest)= not s.of.isEmpty
theorem Cg:∀(l:List (ZZ×Nat)) (s:bE),qQ s->qQ^l.foldl (λs p=>da s p.2 p.1) s
 |[],s,h=>h
 |p::r,s,h=>by
  show Cg r (da s p.2 p.1) ?_;unfold da;cases a:b9 s.db p.1 []with
  |none=>show h
  |some st=>
   change fT ((0:Int)<=((p.2:Nat):Int))= not^(s.of++[_]).isEmpty;simp
def HK{st:aT}(h:b9 a g []=!st):∀p∈st,p.1∈al [] a:=λp c=>by
 let{U,_,rfl,_}:=kn (V:=λ_=>.aw) (B:=[]) fj h;let{b,d,rfl}:=Q6.mp c;show d
def KI (a:ZZ)(B:ZY):(lu a B).map (·.1)=(al [] a).filter λb=>fT (b∈B):=by
 unfold lu;rw[Rz];show T5 _
def OQ (a:ZZ)(B:ZY):(lu a B).map (·.2)=dB a B:=by
 unfold lu dB;rw[Rz];rfl
def BL{B:ZY}(h:b∈al [] a):fT (b∈(al [] a).filter λb=>fT (b∈B))=fT (b∈B):=
 TF.mpr {λw=>Q8 (Q4.mp w).2,λz=>Q4.mpr {h,Q9 z}}
def HR (a:ZZ)(B:ZY)(c:ZW):rO a ((al [] a).filter λb=>fT (b∈B))^c.zipIdx 0=fi a c B:=by
 unfold rO fi;have:∀l:List (ZZ×Nat),l.filterMap (λp=>(b9 a p.1 []).map λst=>(dS ((al [] a).filter λb=>fT<|b∈B) st,(p.2,restOf ((al [] a).filter λb=>fT<|b∈B) st)))=l.filterMap λp=>(b9 a p.1 []).map λst=>(dS B st,(p.2,restOf B st)):=by
  intro l;induction l with
  |nil=>rfl
  |cons p r f=>
   rw[Sj,Sj,f];cases g:b9 a p.1 []with
   |none=>rfl
   |some st=>
    let e:=HK g;let h:dS ((al [] a).filter λb=>fT<|b∈B) st=dS B st:=by
     unfold dS;rw[SN λq d=>BL^e q d]
    let i:restOf ((al [] a).filter λb=>fT<|b∈B) st=restOf B st:=by
     unfold restOf;show SN λq d=>?_;rw[BL^e q d]
    change(_,_)::_=(_,_)::_;rw[h,i]
 show this _
def eI (s:bE):O5.kM:={iH s,s.of,s.gs}
def HZ (a:ZZ)(B:ZY)(W facts:ZW):eI^cE (pY a B W) 0 facts={dB a B,fi a facts B,(W.filter λg=>cK g^al B a).map λg=>(g,dB g^al B a)}/\qQ^cE (pY a B W) 0 facts:=by
 let{h1,h2,h3,h4}:=CN (facts.zipIdx 0)^pY a B W;show{?_,Cg _ _^show fT ((0:Int)<= -1)= not^([]:List dP).isEmpty from A2};let e:(cE (pY a B W) 0 facts).of=fi a facts B:=by
  unfold cE;rw[h4];change []++rO a ((lu a B).map (·.1)) _=_;rw[T4,KI,HR]
 unfold eI iH;rw[e];unfold cE;rw[h2,h3];change O5.kM.mk ((lu a B).map (·.2)) _ _=_;rw[OQ];rfl
theorem uk (facts:ZW):∀(asks:ZW) (B:ZY) (W:ZW),((dq asks B W).map λs=>cE s 0 facts).map eI=O5.dq facts asks B W/\∀s∈(dq asks B W).map λs=>cE s 0 facts,qQ s
 |[],_,_=>{A2,λs h=>nomatch h}
 |a::r,B,W=>by
  let{h1,h2}:=uk facts r (al B a)^W.filter λg=> not^cK g^al B a;let{h3,h4}:=HZ a B W facts;show{?_,λs hs=>?_}
  .change eI _::List.map eI^List.map _^dq r _ _=_::O5.dq facts r _ _;rw[h1,h3]
  .rcases QZ.mp hs with z|z
   .rw[z];show h4
   .show h2 s z
def DV (s:bE)(w:aN):fX s w 0=(O5.jv (eI s) w).reverse:=by
 unfold fX O5.jv pZ;rw[sN λo _=>(by unfold FL.fresh;show Q9 Z4),VQ,List.filter_reverse];rfl
def tJ {a:cj}(h:a.fresh=0)(w:aN):iP a w=0:=by
 unfold iP;rw[h];split<;>rfl
theorem yj {lm:cj}(h:lm.fresh=0):∀(n:Nat) (w:aN),w.2.length+n=lm.steps.length->dk lm n w=O5.fZ ((lm.steps.map eI).drop w.2.length) w/\eE lm n w=O5.nodes ((lm.steps.map eI).drop w.2.length) w
 |0,w,hn=>by
  rw[UU^by rw[QP];omega];show{A2,A2}
 |n+1,w,hn=>by
  let hlt:w.2.length<lm.steps.length:=by omega
  let hs:=QO hlt;let hc:cI lm w=(O5.jv (eI lm.steps[w.2.length]) w).reverse:=by
   unfold cI;rw[hs,tJ h];show DV _ w
  let hl:∀x∈O5.jv (eI lm.steps[w.2.length]) w,x.2.length=w.2.length+1:=λx hx=>lJ (lm:=lm) (by rw[hc];show SS.mpr hx);let ed:(lm.steps.map eI).drop w.2.length=eI lm.steps[w.2.length]::(lm.steps.map eI).drop (w.2.length+1):=by
   rw[Tl (by rw[QP];show hlt),TK]
  rw[ed];constructor
  .change(cI lm w).reverse.flatMap^dk lm n=(O5.jv _ w).flatMap^O5.fZ _;rw[hc,List.reverse_reverse];have:∀L:List aN,(∀x∈L,x.2.length=w.2.length+1)->L.flatMap^dk lm n=L.flatMap^O5.fZ^(lm.steps.map eI).drop (w.2.length+1):=by
    intro L;induction L with
    |nil=>show λ_=>A2
    |cons x r ih=>
     intro hx;let e:=hx x QQ;rw[RT,RT,ih λy hy=>hx y^QM _ hy,(yj h n x Z4).1,e]
   show this _ hl
  .change 1+((cI lm w).map^eE lm n).sum=1+((O5.jv _ w).map^O5.nodes _).sum;rw[hc,VQ,List.sum_reverse];congr 2;show Rq λx hx=>?_;rw[(yj h n x^by have:=hl x hx;omega).2,hl x hx]
def Mp {ss:List bE}(h:∀s∈ss,qQ s):(ss.all λs=>fT ((0:Int)<=s.newest))=(ss.map eI).all λs=> not s.of.isEmpty:=by
 induction ss with
 |nil=>rfl
 |cons s r a=>
  rw[Uq,RB,Uq,a λx b=>h x^QM _ b];congr 1;show h s QQ
def N9 (as facts:ZW):ib as facts=O5.wa facts as:=by
 let{h1,h2}:=uk facts (as.filter λa=> not^aO a) []^(as.filter aO).filter dH;let e1:(cn (ci as) facts).steps.map eI=O5.fG facts as:=h1;let e2:=Mp (ss:=(cn (ci as) facts).steps) h2;rw[e1]at e2;let hb:(cn (ci as) facts).gm=mL as:=A2;let hf:(cn (ci as) facts).fresh=0:=A2;unfold ib fg O5.wa;generalize cn (ci as) facts=lm at e1 e2 hb hf;rw[hb,hf,e2];unfold mL;generalize ((as.filter aO).filter λg=> not^dH g).all holdsA=c1;cases c1 with
 |false=>simp
 |true=>
  let e0:((not bU)||(fT (lm.last<0)&&fT ((0:Int)<((0:Nat):Int))))=fF:=by simp
  rw[QV (by rw[e0];show QW),Uc];split
  .rw[Sw]
   have:=(yj hf (ck lm ([],[])) ([],[])^by unfold ck;simp).1;rw[this];change O5.fZ ((lm.steps.map eI).drop 0) _=_;rw[List.drop_zero,e1]
  .rfl
def Jt {facts as:ZW}(hF:∀g∈facts,kf g)(hz:facts.length<=200)(hA:∀a∈as,d9 a)(hl:as.length<=100)(hg:∀g∈as,aO g=bU->O5.uO g)(hb:∀k,(ba []^(as.filter λa=> not^aO a).take k).length<=500):
  lO (λk=>(ba []^(as.filter λa=> not^aO a).take k).length) (cn (ci as) facts).steps:=by
 let{h1,_}:=uk facts (as.filter λa=> not^aO a) []^(as.filter aO).filter dH;let e1:(cn (ci as) facts).steps.map eI=O5.fG facts as:=h1;let R:=O5.wk hF hz hA hl hg hb;show{R.zero,λk s hs=>?_,R.le,?_}
 .let ho:(O5.fG facts as)[k]?=!eI s:=by rw[<-e1,QY,hs];rfl
  let{q1,q2}:=R.st k _ ho;show{{q1.sh,?_,q1.of,Rh q1.wn Z1},q2};have:=q1.shl;unfold eI iH at this;rw[QP]at this;show this
 .have:=R.len;rw[<-e1,QP]at this;show this
end FL
namespace L2
open PySem PySem.Spec PyProof.Rows
section
variable {X:Cx}
def Bz:List V->Hp->VK->Prop:=λxs H Q=>∃a kvs,xs=[.ref a]/\Rd H a^.dK kvs/\∀p,H p=bF->Q (.ref p)^upd H p^.dK kvs
def Ju:iG X (.type "dict") Bz:=by
 intro f s l H m n Q I r h;let{a,c,rfl,e,q}:=h;let{u,rfl,g}:=Vf r;cases g;let{z,i,p,bK,j}:=jg I.au e;let t:=bK.length;show kt_call_dict i j Z4 λv d k=>?_;show{.ref s.heap.objs.size,_,I.laid (a:=s.heap.objs.size) (o:=.dK c) (t':=s.toks) (λb o e=>?_) (QU _)^qW z (R8.mpr^RG^Rp I.rB) bK d,A2,q _^I.au.fresh^QU _};show(k.2 b^Rp^Re e).trans^QR _ e
end
end L2
namespace FL
open PySem L2
section
variable {X:Cx}{e:sH}{te:TE}{p pos:Pos}
def G8 (B:Bl X.mg)(h:PE X e te)(b:Gl X "dict":=by rfl)(a:zA [e] X.env=(fF,y1 e X.env)::zA [] X.env:=by rfl):PE X (.Call (.Name "dict" p) [e] [] pos)^cN Bz^bq te bM:=
 pC Ju b B.dict VY (ai h aq a) (he:=a)
end
def dv:List D:=[.str "X",.str "Xy",.str "Z"]
structure DZ (as:`j):Prop where
 ne:∀a∈as,a≠[]/\aG^a.headD .aw=fF
 sc:∀a∈as,∀x∈a,x.sc=bU
 bl:∀a∈as,∀x∈a.tail,aG x=fT (x∈dv)
 dz:as.length<=100/\∀a∈as,a.length<=10
def Pu (B:ZY)(x:D)(c:x.sc=bU):cJ B x=if(aG x&& not^fT (x∈B.map D.str))=bU then B++[x.name]else B:=by
 unfold cJ;have:fT (x∈B.map D.str)=fT (x.name∈B)\/aG x=fF:=by
  by_cases e:aG x=bU
  .left;rw[jD e];show TF.mpr {λh=>?_,λh=>Q6.mpr {_,h,A2}};let{y,a,b}:=Q6.mp h;have:y=x.name:=by injection b
   rw[<-this];show a
  .right;simpa using e
 rcases this with e|e
 .rw[e]
 .simp[e]
def IU(b:ZW)(j:Nat)(h:b[j]?=!a):ba []^b.take (j+1)=al (ba []^b.take j) a:=by
 unfold ba;rw[Rs,h,R1];rfl
def Nw(h:a≠[])(b:aG^a.headD .aw=fF):al B a=al B a.tail:=by
 cases a with
 |nil=>show absurd A2 h
 |cons x r=>
  change al (cJ B x) r=al B r;rw[yZ^show aG x=fF from b]
def Me {B:ZY}{l:ZZ}{j:Nat}{x:D}(h:l[j]?=!x):al B^l.take (j+1)=cJ (al B^l.take j) x:=by
 unfold al;rw[Rs,h,R1];rfl
def nE {a b:ZZ}(j:∀x∈a,x.sc=bU)(d:∀x∈b,x.sc=bU):cD (.tup a)^.tup b=bU/\(D.tup a).cT<=40:=by
 let h:∀a b:ZZ,(∀x∈a,x.sc=bU)->(∀x∈b,x.sc=bU)->ia a b=bU/\D.f8 a<=0:=by
  intro a;induction a with
  |nil=>
   intro b _ _;cases b<;>show{A2,QU _}
  |cons x r k=>
   intro b f d;let g:=k b.tail (λy e=>f y^QM _ e) λy e=>d y^Wf e
   let c:=f x QQ;let l:x.cT=0:=by
    cases x with
    |int _=>rfl
    |str _=>rfl
    |_=>simp[D.sc]at c
   let i:D.f8 (x::r)<=0:=by
    change Nat.max x.cT^D.f8 r<=0;rw[l];show Nat.max_le.mpr {QU _,g.2}
   cases b with
   |nil=>show{A2,i}
   |cons y t=>
    show{?_,i};change(cD x y&&ia r t)=bU;rw[(fm c^d y QQ).1];show g.1
 let{m,n}:=h a b j d;show{m,Rh (show(D.tup a).cT<=D.f8 a+1 from QU _) Z4}
def on (pl:List Nat):D:=.tup^pl.map λn=>D.int (n:Nat)
def cP (S:aT)(a:List D):List D:=a.headD .aw::a.tail.map^cF S
def tL:List Da->D->Prop:=λxs d=>∃a S,xs=[.d^.tup a,.k^cg []^bX S]/\a≠[]/\(∀x∈a,x.sc=bU)/\(∀p∈S,p.2.sc=bU)/\a.length<=10/\d=.tup^cP S a
def eB (fs:`j)(a:List D):Bool:=if a.headD .aw=.str "unlike" then(match a with|[_,x,y]=> not^fT (x=y)|_=>fF)else if a.headD .aw=.str "less" then(match a with|[_,.int i,.int j]=>fT (i<j)|_=>fF)else fT (a∈fs)
def DB (a:List D):Prop:=a≠[]/\(∀x∈a,x.sc=bU)/\(aO a=bU->∃r x y,a=[.str r,x,y])
structure iO (G:Hp)(us:List V)(cs:List aT):Prop where
 len:us.length=cs.length
 get:∀(j:Nat) c,cs[j]?=!c->∃a,us[j]?=!.ref a/\G a=!.dK^cg []^bX c
def iO.mono(h:iO G d f)(e:ae G b):iO b d f:={h.len,λj c q=>let⟨a,g,i⟩:=h.get j c q;{a,g,e _ _ i}}
def iO.nil:iO G [] []:={A2,λj c q=>by simp at q}
def iO.snoc(h:iO G g f)(k:G a=!.dK^cg []^bX c):iO G (g++[.ref a]) (f++[c]):=by
 let l:=h.len;show{by simp[l],λj d q=>?_};by_cases i:j<f.length
 .rw[Rj i]at q
  let{b,m,n}:=h.get j d q;show{b,by rw[Rj Z4];show m,n}
 .rw[Rn^RA i]at q
  let o:j-f.length=0:=by
   have:=(QN.mp q).1;simp at this;show this
  rw[o]at q;let e:c=d:=by simpa using q
  subst e;show{a,by rw[Rn Z4,show j-g.length=0 by omega];rfl,k}
theorem Fv (a:ZZ)(b:Str):∀(l:ZY) (d:List aT),df a (l++[b]) d=(df a l d).flatMap λc=>a.map λt=>c++[(b,t)]
 |[],d=>rfl
 |x::r,d=>Fv a b r _
theorem DI (a:ZZ):∀(l:ZY) (b:List aT),(df a l b).length=b.length*(HPow.hPow a.length l.length)
 |[],b=>by simp[df]
 |x::r,b=>by
  change(df a r _).length=_;rw[DI a r,List.length_flatMap];have:(b.map λc=>(a.map λt=>c++[(x,t)]).length).sum=b.length*a.length:=by
   let e:(λc:aT=>(a.map λt=>c++[(x,t)]).length)=λ_=>a.length:=by funext c;show QP _
   rw[e];induction b with
   |nil=>simp
   |cons m t d=>rw[RB,VI,d,Rw,VZ,Wp]
  rw[this,Rw,Nat.pow_succ,Nat.mul_assoc,Nat.mul_comm a.length]
theorem vK (a:ZZ):∀(l:ZY) (b:List aT) (c:aT),(∀x∈a,x.sc=bU)->(∀m∈b,(∀p∈m,p.2.sc=bU))->c∈df a l b->∀p∈c,p.2.sc=bU
 |[],b,c,_,d,h=>d c h
 |x::r,b,c,f,d,h=>by
  show vK a r _ c f (λm e=>?_) h;let{g,i,j}:=RY.mp e;let{t,k,rfl}:=Q6.mp j;show x8 (d g i)^f t k
theorem FH (a:ZZ):∀(l:ZY) (b:List aT) (k:Nat),(∀m∈b,m.length=k)->∀c∈df a l b,c.length=k+l.length
 |[],b,k,d,c,h=>d c h
 |x::r,b,k,d,c,h=>by
  have:=FH a r _ (k+1) (λm e=>by
   let{f,g,i}:=RY.mp e;let{t,j,rfl}:=Q6.mp i;rw[Q7,d f g];rfl) c h
  rw[this,Rw];omega
def uN:Sp:=λvs H Q _=>∃M Bs pool v0 v1,vs=[v0,v1]/\av M H/\ap `a v0^gU Bs/\ap `a v1^.lst pool/\(∀x∈pool,x.sc=bU)/\Bs.length<=3/\pool.length<=10/\
 ∀p us H',ae H H'->but H' M p=!.lst us->iO (but H' M) us^df pool Bs [[]]->Q (.ref p) H'
end FL
namespace FL
open PySem L2
def iN (pre:List D->Prop)(post:List D->D->Prop):Sp:=λvs H Q _=>∃M ds,av M H/\aF `a vs ds/\pre ds/\∀d v H',post ds d->ae H H'->ap (but H' M) v d->Q v H'
def rK{a:ZZ->Prop}(f:∀c,a c->c.length=n):∀d H Q E,iN a b d H Q E->d.length=n:=λd H Q E g=>by let{M,c,l,r,e,k}:=g;rw[r.length];show f c e
section
variable {σ:St}{δ:Dn}{M:List vb}{H:Hp}{t:TA}{E:Ends}{ds:List D}
end
def GP (x:D):Prop:=x.sc=bU/\ox x/\aG x=fT (x∈dv)
structure mW (a:List D):Prop where
 ne:a≠[]
 hd:aG^a.headD .aw=fF
 ok:∀x∈a,x.sc=bU/\ox x
 bl:∀x∈a.tail,aG x=fT (x∈dv)
 len:a.length<=10
def Ly{a:ZZ}(d:ox^.str r)(e:aG^.str r=fF)(b:∀x∈a,GP x)(f:a.length<=9):mW (.str r::a):=
 {(λz=>nomatch z),e,(λx c=>by
  rcases QZ.mp c with z|z
  .rw[z];show{A2,d}
  .show{(b x z).1,(b x z).2.1}),(λx c=>(b x c).2.2),(by rw[Rw];omega)}
def mW.kK(h:mW a):d9 a:={h.ok,h.ne,by have:=h.len;omega}
def Hl {c:ZW}(h:∀a∈c,mW a)(d:c.length<=100):DZ c:={λa b=>{(h a b).ne,(h a b).hd},λa b x e=>((h a b).ok x e).1,λa b=>(h a b).bl,d,λa b=>(h a b).len}
def vM:GP^.str "X":={A2,{by decide,_,_,A2},Z9}
def tf:GP^.str "Xy":={A2,{by decide,_,_,A2},Z9}
def vX:GP^.str "Z":={A2,{by decide,_,_,A2},Z9}
def qr:∀x∈dv,GP x:=λx a=>by
 simp only[dv,QZ,Rt,RH]at a;rcases a with rfl|rfl|rfl
 .show vM
 .show tf
 .show vX
def ue (i:Int):GP^.int i:={A2,trivial,by simp[dv,aG]}
structure u3 (pool:List D):Prop where
 len:pool.length=3
 nodup:pool.Nodup
 gp:∀x∈pool,GP x
 nb:∀x∈pool,aG x=fF
structure BI (base bs:`j):Prop where
 ask:bs.filter (fun a=> not^aO a)=base
 at_:∀a∈bs,mW a
 gd:∀g∈bs,aO g=bU->(∃r x y,g=[.str r,x,y])/\∀b∈al [] g,b∈ba [] base
 pO:base.length<=3
def MP{B:ZY}(g:aG^.str r=fF)(i:aG x=bU->x.name∈B)(j:aG y=bU->y.name∈B):∀b∈al [] [.str r,x,y],b∈B:=λb d=>by
 let e:al [] [.str r,x,y]=cJ (cJ (cJ []^.str r) x) y:=A2;rw[e,yZ (B:=[]) g]at d;let a:∀{C:ZY} {z:D},b∈cJ C z->b∈C\/(aG z=bU/\b=z.name):=λ{C z} h=>by
  unfold cJ at h;split at h
  .rename_i f
   rcases Rc.mp h with w|w
   .show .inl w
   .show .inr {by simp at f;show f.1,by simpa using w}
  .show .inl h
 rcases a d with w|⟨w,c⟩
 .rcases a w with w|⟨k,c⟩
  .cases w
  .rw[c];show i k
 .rw[c];show j w
def Iq{d:ZW}(h:∀a∈d,mW a)(g:b∈ba [] d):D.str b∈dv/\aG^.str b=bU:=by
 rcases uC g with z|⟨a,i,x,f,c,rfl⟩
 .cases z
 .let A:=h a i;let e:=jD c;cases a with
  |nil=>cases f
  |cons y r=>
   rcases QZ.mp f with z|z
   .subst z;have:=A.hd;rw[show aG x=fF from this]at c;cases c
   .have:=A.bl x z;rw[c]at this;rw[<-e];show{Q8 this.symm,c}
end FL
namespace FL
open PySem L2
theorem ym:∀{l:ZZ},(∀x∈l,x.gx=bU)->D.je l=bU
 |[],_=>by simp[D.je]
 |x::r,h=>by
  rw[D.je,h x QQ,ym λy a=>h y^QM _ a];rfl
def ql {d:D}(h:d.sc=bU):d.gx=bU:=by
 cases d<;>first|rfl|(simp[D.sc]at h)
def uP {l:ZZ}(h:∀x∈l,x.gx=bU):(D.tup l).gx=bU:=by rw[D.gx];show ym h
def iM {l:ZZ}(h:∀x∈l,x.sc=bU):(D.tup l).gx=bU:=uP λx a=>ql^h x a
def pX:HO->Bool
 |.lst _=>bU|.dK _=>bU|.dT _=>bU|_=>fF
mutual
theorem ap.narrow {H:Hp}{M own:List vb}(hk:∀a∈own,∃o,H a=!o/\pX o=bU):∀{v:V} {d:D},d.gx=bU->ap (but H M) v d->ap (but H (own++M)) v d
 |_,_,_,.aw=>.aw
 |_,_,_,.bl b=>.bl b
 |_,_,_,.int b=>.int b
 |_,_,_,.str b=>.str b
 |_,_,hd,.tup (a:=c) h r=>by
  show .tup ?_^aF.narrow hk (by rw[D.gx]at hd;show hd) r
  let{h1,h2}:=ay h
  rw[bv]
  ·show h2
  ·intro z
   rcases mem_append.mp z with z|z
   ·let{o,e,ko}:=hk c z
    rw[e]at h2;cases h2;cases ko
   ·show h1 z
 |_,_,hd,.lst _ _=>by cases hd
theorem aF.narrow {H:Hp}{M own:List vb}(hk:∀a∈own,∃o,H a=!o/\pX o=bU):∀{vs:List V} {ds:List D},D.je ds=bU->aF (but H M) vs ds->aF (but H (own++M)) vs ds
 |_,_,_,.nil=>.nil
 |_,_,hd,.cons h r=>by
  rw[D.je,Bool.and_eq_true]at hd
  show .cons (ap.narrow hk hd.1 h)^aF.narrow hk hd.2 r
end
inductive dZ (G:Hp):List (List aH×V)->List (List D×D)->Prop
 |nil:dZ G [] []
 |cons {v:V} {ks:List (List aH×V)} {ps:List (List D×D)} {key:List D} {d:D}:bV key->ap G v d->dZ G ks ps->dZ G ((cx key,v)::ks) ((key,d)::ps)
theorem dZ.mono(e:ae G a):∀{b:List (List aH×V)} {c:List (ZZ×D)},dZ G b c->dZ a b c
 |_,_,.nil=>.nil
 |_,_,.cons h r t=>.cons h (r.mono e)^t.mono e
theorem dZ.length:∀{a:List (List aH×V)} {b:List (ZZ×D)},dZ G a b->a.length=b.length
 |_,_,.nil=>rfl
 |_,_,.cons _ _ t=>RF (· +1) t.length
def gT (ps:List (List D×D))(key:List D):Option D:=(ps.find? λp=>fT (p.1=key)).map (·.2)
def qu (ps:List (List D×D))(key:List D)(d:D):List (List D×D):=
 if(ps.any λp=>fT (p.1=key))=bU then ps.map (λp=>if p.1=key then(p.1,d)else p)else ps++[(key,d)]
theorem dZ.val(f:bV a):∀{c:List (List aH×V)} {b:List (ZZ×D)},dZ G c b->(bD c^cx a=bF/\gT b a=bF)\/∃v d,bD c^cx a=!v/\gT b a=!d/\ap G v d
 |_,_,.nil=>.inl {A2,A2}
 |_,_,.cons (v:=v) (ks:=c) (ps:=b) (key:=k) (d:=d) h r t=>by
  by_cases e:k=a
  .subst e;show .inr {v,d,ii A2,by simp[gT],r}
  .let g:¬cx k=cx a:=λz=>e^sw h f z;let i:gT ((k,d)::b) a=gT b a:=by simp[gT,RQ,e]
   rw[ic (p:=(cx k,v)) g,i];show t.val f
theorem dZ.app:∀{a b:List (List aH×V)} {c d:List (ZZ×D)},dZ G a c->dZ G b d->dZ G (a++b) (c++d)
 |_,_,_,_,.nil,s=>s
 |_,_,_,_,.cons h r t,s=>.cons h r^t.app s
theorem dZ.oW(b:bV a)(r:ap G v d):∀{f:List (List aH×V)} {g:List (ZZ×D)},dZ G f g->dZ G (f.map λc=>if c.1=cx a then(c.1,v)else c) (g.map λp=>if p.1=a then(p.1,d)else p)
 |_,_,.nil=>.nil
 |_,_,.cons (v:=j) (key:=k) (d:=l) h i t=>by
  rw[RB,RB];by_cases e:k=a
  .rw[Q0 (by rw[e]),Q0 e];show .cons h r^t.oW b r
  .rw[QV λz=>e^sw h b z,QV e];show .cons h i^t.oW b r
theorem xE (a:ZZ):∀b:List (ZZ×D),(b.any λp=>fT (p.1=a))=(gT b a).isSome
 |[]=>rfl
 |p::r=>by
  rw[U5,xE a r];by_cases e:p.1=a
  .simp[gT,RQ,e]
  .simp[gT,RQ,e]
def dZ.put(b:bV a)(r:ap G v d)(t:dZ G c f):dZ G (cr c (cx a) v)^qu f a d:=by
 unfold cr qu;let e:(c.any λi=>fT<|i.1=cx a)=(f.any λp=>fT<|p.1=a):=by
  rw[ml,xE];rcases t.val b with⟨g,h⟩|⟨v,d,g,h,_⟩<;>rw[g,h]<;>rfl
 rw[e];split
 .show t.oW b r
 .show t.app^.cons b r .nil
def Ph(h:gT b a=bF):qu b a d=b++[(a,d)]:=by
 unfold qu;rw[xE,h];rfl
theorem ug (a:ZZ):∀b:List (ZZ×D),(gT b a).isSome=fT (a∈b.map (·.1))
 |[]=>rfl
 |p::r=>by
  by_cases e:p.1=a
  .simp[gT,RQ,e]
  .let c:gT (p::r) a=gT r a:=by simp[gT,RQ,e]
   let d:¬a=p.1:=λz=>e z.symm;rw[c,ug a r];simp[d]
inductive Sl where
 |no
 |d (x:D)
 |l (xs:List D)
 |k (S:aT)
 |t (ps:List (List D×D))
 |kd (S:aT)
 |td (ps:List (List D×D))
 |j (kvs:List (aH×V))
def Sl.own:Sl->Bool
 |.l _=>bU|.k _=>bU|.t _=>bU|.j _=>bU|_=>fF
def Sl.jw:Sl->Option D
 |.d x=>!x|.l xs=>!.lst xs|_=>bF
def Sl.dat:Sl->Option D
 |.d x=>!x|_=>bF
def oC (G H:Hp)(own:List vb)(o:Option^Option V):Sl->Prop
 |.no=>True
 |.d x=>∃v,o=!!v/\ap G v x
 |.l xs=>∃a us,o=!!.ref a/\a∈own/\H a=!.lst us/\aF G us xs
 |.k S=>∃a,o=!!.ref a/\a∈own/\H a=!.dK^cg []^bX S/\∀p∈S,p.2.sc=bU
 |.t ps=>∃a kvs,o=!!.ref a/\a∈own/\H a=!.dT kvs/\dZ G kvs ps
 |.kd S=>∃a,o=!!.ref a/\G a=!.dK^cg []^bX S/\∀p∈S,p.2.sc=bU
 |.td ps=>∃a kvs,o=!!.ref a/\G a=!.dT kvs/\dZ G kvs ps
 |.j kvs=>∃a,o=!!.ref a/\a∈own/\H a=!.dK kvs
def lU (G:Hp)(o:Option^Option V):Sl->Prop
 |.no=>True
 |.d x=>∃v,o=!!v/\ap G v x
 |.l xs=>∃v,o=!!v/\ap G v^.lst xs
 |.k S=>∃a,o=!!.ref a/\G a=!.dK^cg []^bX S/\∀p∈S,p.2.sc=bU
 |.t ps=>∃a kvs,o=!!.ref a/\G a=!.dT kvs/\dZ G kvs ps
 |.kd S=>∃a,o=!!.ref a/\G a=!.dK^cg []^bX S/\∀p∈S,p.2.sc=bU
 |.td ps=>∃a kvs,o=!!.ref a/\G a=!.dT kvs/\dZ G kvs ps
 |.j kvs=>∃a,o=!!.ref a/\G a=!.dK kvs
theorem lU.mono(e:ae G c):∀{s:Sl},lU G o s->lU c o s
 |.no,_=>trivial
 |.d _,⟨v,h,r⟩=>{v,h,r.mono e}
 |.l _,⟨v,h,r⟩=>{v,h,r.mono e}
 |.k _,⟨a,h,r,z⟩=>{a,h,e _ _ r,z}
 |.t _,⟨a,b,h,r,z⟩=>{a,b,h,e _ _ r,z.mono e}
 |.kd _,⟨a,h,r,z⟩=>{a,h,e _ _ r,z}
 |.td _,⟨a,b,h,r,z⟩=>{a,b,h,e _ _ r,z.mono e}
 |.j _,⟨a,h,r⟩=>{a,h,e _ _ r}
structure bN (G:Hp)(σ:St)(δ:List Sl):Prop where
 len:σ.length=δ.length
 get:∀(i:Nat) (s:Sl),δ[i]?=!s->lU G σ[i]? s
theorem bN.mono(h:bN G b c)(e:ae G a):bN a b c:={h.len,λi s q=>(h.get i s q).mono e}
def bN.env(h:bN G b a):aA G b^a.map Sl.jw:=by
 show{by rw[QP];show h.len,λi d q=>?_};rw[QY]at q;cases e:a[i]? with
 |none=>rw[e]at q;cases q
 |some s=>
  rw[e]at q;let q:s.jw=!d:=Q5 q;let w:=h.get i s e;cases s with
  |no=>cases q
  |d x=>cases q;show w
  |l x=>cases q;show w
  |k x=>cases q
  |t x=>cases q
  |kd x=>cases q
  |td x=>cases q
  |j x=>cases q
def bN.v{i:Nat}(h:bN G b a)(e:(a[i]?).bind Sl.jw=!d):ag (aW i) G b d:=by
 show aI h.env (d:=d) ?_;rw[QY];cases q:a[i]? with
 |none=>rw[q]at e;cases e
 |some s=>rw[q]at e;show RF some e
def aA.vd{a:List Sl}{i:Nat}(h:aA G b^a.map Sl.dat)(e:(a[i]?).bind Sl.dat=!d):ag (aW i) G b d:=by
 show aI h (d:=d) ?_;rw[QY];cases q:a[i]? with
 |none=>rw[q]at e;cases e
 |some s=>rw[q]at e;show RF some e
structure Bx (B:Hp)(M0 own:List vb)(σ:St)(H:Hp)(δ:List Sl):Prop where
 len:σ.length=δ.length
 same:ae B H
 iQ:av M0 B
 kind:∀a∈own,B a=bF/\∃o,H a=!o/\pX o=bU
 slot:∀(i:Nat) (s:Sl),δ[i]?=!s->oC (but H (own++M0)) H own σ[i]? s
 apart:∀(i j:Nat) (s t:Sl) (a:vb),i≠j->δ[i]?=!s->δ[j]?=!t->s.own=bU->t.own=bU->σ[i]?=!!.ref a->σ[j]?=!!.ref a->False
section
variable {B:Hp}{M0 own:List vb}{σ:St}{H H':Hp}{δ:List Sl}
theorem oC.mono(e:ae G c)(k:∀a∈own,∀u,H a=!u->H' a=!u):∀{s:Sl},oC G H own o s->oC c H' own o s
 |.no,_=>trivial
 |.d _,⟨v,h,r⟩=>{v,h,r.mono e}
 |.l _,⟨a,f,h,m,q,r⟩=>{a,f,h,m,k a m _ q,r.mono e}
 |.k _,⟨a,h,m,q,z⟩=>{a,h,m,k a m _ q,z}
 |.t _,⟨a,b,h,m,q,z⟩=>{a,b,h,m,k a m _ q,z.mono e}
 |.kd _,⟨a,h,r,z⟩=>{a,h,e _ _ r,z}
 |.td _,⟨a,b,h,r,z⟩=>{a,b,h,e _ _ r,z.mono e}
 |.j _,⟨a,h,m,q⟩=>{a,h,m,k a m _ q}
def Bx.live (b:Bx B M0 own σ H δ):av M0 H:=b.iQ.same b.same
def Bx.out(b:Bx B M0 own σ H δ)(h:a∈own):a∉M0:=λz=>b.iQ a z (b.kind a h).1
def Bx.kd (b:Bx B M0 own σ H δ):∀a∈own,∃o,H a=!o/\pX o=bU:=λa h=>(b.kind a h).2
def Bx.fJ (b:Bx B M0 own σ H δ):av (own++M0) H:=λa c=>by
 rcases Rc.mp c with z|z
 .let{o,e,_}:=b.kd a z;rw[e];show λz=>nomatch z
 .show b.live a z
def Bx.seen (b:Bx B M0 own σ H δ):ae (but H (own++M0))^but H M0:=fe λa h=>Q1 _ h
def Bx.wide (b:Bx B M0 own σ H δ):bN (but H M0) σ δ:=⟨b.len,λi s q=>by
 let w:=b.slot i s q;cases s with
 |no=>trivial
 |d x=>let{v,h,r}:=w;show{v,h,r.mono b.seen}
 |l x=>let{a,f,h,m,e,r}:=w;show{.ref a,h,.lst (by rw[bv^b.out m];show e)^r.mono b.seen}
 |k x=>let{a,h,m,e,r}:=w;show{a,h,by rw[bv^b.out m];show e,r}
 |t x=>let{a,c,h,m,e,r}:=w;show{a,c,h,by rw[bv^b.out m];show e,r.mono b.seen}
 |kd x=>show lU.mono (s:=.kd x) b.seen w
 |td x=>show lU.mono (s:=.td x) b.seen w
 |j x=>let{a,h,m,e}:=w;show{a,h,by rw[bv^b.out m];show e}⟩
def Bx.jE (b:Bx B M0 own σ H δ):aA (but H (own++M0)) σ^δ.map Sl.dat:=by
 show{by rw[QP];show b.len,λi d q=>?_};rw[QY]at q;cases e:δ[i]? with
 |none=>rw[e]at q;cases q
 |some s=>
  rw[e]at q;let q:s.dat=!d:=Q5 q;let w:=b.slot i s e;cases s with
  |no=>cases q
  |d x=>cases q;show w
  |l x=>cases q
  |k x=>cases q
  |t x=>cases q
  |kd x=>cases q
  |td x=>cases q
  |j x=>cases q
def Bx.grow (b:Bx B M0 own σ H δ)(s:ae H H'):Bx B M0 own σ H' δ:=
 {b.len,b.same.trans s,b.iQ,λa h=>{(b.kind a h).1,let⟨o,e,k⟩:=b.kd a h;{o,s _ _ e,k}},λi t q=>(b.slot i t q).mono (s.but _) λa _ u e=>s _ _ e,b.apart}
def Tv{l:List b}{j:Nat}(h:(l.set i x)[j]?=!s):(i=j/\s=x/\i<l.length)\/(i≠j/\l[j]?=!s):=by
 by_cases e:i=j
 .subst e;by_cases a:i<l.length
  .rw[Q3 a]at h
   show .inl {A2,(Q5 h).symm,a}
  .rw[RC^by simpa using RA a]at h;cases h
 .rw[QS e]at h
  show .inr {e,h}
theorem Bx.set(b:Bx B M0 own σ H δ)(i:Nat)(r:ap (but H (own++M0)) v x):Bx B M0 own (σ.set i^!v) H^δ.set i^.d x:=by
 show{by simp[b.len],b.same,b.iQ,b.kind,λj s q=>?_,λj k s t a m c e f g h l=>?_}
 .rcases Tv q with⟨rfl,rfl,n⟩|⟨o,q⟩
  .show{v,Q3 (by rw[b.len];show n),r}
  .rw[QS o];show b.slot j s q
 .rcases Tv c with⟨rfl,rfl,_⟩|⟨p,c⟩
  .cases f
  .rcases Tv e with⟨rfl,rfl,_⟩|⟨u,e⟩
   .cases g
   .rw[QS p]at h
    rw[QS u]at l;show b.apart j k s t a m c e f g h l
def Ls {H:Hp}{M:ZX}{p:vb}{o:HO}(h:H p=bF):but (upd H p o) (p::M)=but H M:=by
 funext c;unfold FL.but;by_cases e:c=p
 .subst e;rw[Q0 QQ];split
  .rfl
  .show h.symm
 .by_cases z:c∈M
  .rw[Q0^QM _ z,Q0 z]
  .rw[QV (λw=>by rcases QZ.mp w with w|w;show e w;show z w),QV z,aE e]
def Bx.new(b:Bx B M0 own σ H δ)(i:Nat)(v:H p=bF)(ho:pX o=bU)(hs:oC (but H (own++M0)) (upd H p o) (p::own) (!!.ref p) s):Bx B M0 (p::own) (σ.set i^!.ref p) (upd H p o)^δ.set i s:=by
 let eb:but (upd H p o) (p::own++M0)=but H (own++M0):=Ls v;let c:∀{a:vb},a∈own->a≠p:=λ{a} I=>by
  let{u,e,_}:=b.kd a I;show dy e v
 let hB:B p=bF:=by
  cases q:B p with
  |none=>rfl
  |some u=>rw[b.same _ _ q]at v;cases v
 show{by simp[b.len],b.same.trans^c9 v o,b.iQ,λa I=>?_,λj t q=>?_,λj k s' t' a N h1 O Q T y n=>?_}
 .rcases QZ.mp I with z|z
  .show{by rw[z];show hB,o,by rw[z];show aM,ho}
  .let{u,e,ku}:=b.kd a z;show{(b.kind a z).1,u,by rw[aE^c z];show e,ku}
 .rw[eb]
  rcases Tv q with⟨rfl,rfl,A⟩|⟨ne,q⟩
  .rw[Q3^by rw[b.len];show A];show hs
  .rw[QS ne]
   let w:=b.slot j t q;let keep:∀{a:vb} {u:HO},a∈own->H a=!u->upd H p o a=!u:=λ{a u} m e=>by rw[aE^c m];show e
   cases t with
   |no=>trivial
   |d x=>show w
   |l x=>let{a,U,h,m,e,r}:=w;show{a,U,h,QM _ m,keep m e,r}
   |k x=>let{a,h,m,e,r}:=w;show{a,h,QM _ m,keep m e,r}
   |t x=>let{a,C,h,m,e,r}:=w;show{a,C,h,QM _ m,keep m e,r}
   |kd x=>show w
   |td x=>show w
   |j x=>let{a,h,m,e}:=w;show{a,h,QM _ m,keep m e}
 .let f:∀{m:Nat} {s:Sl},δ[m]?=!s->s.own=bU->∀{a:vb},σ[m]?=!!.ref a->a∈own:=λ{m s} h E {a} G=>by
   let w:=b.slot m s h;cases s with
   |no=>cases E
   |d x=>cases E
   |l x=>let{J,U,h,g,_}:=w;rw[G]at h;cases h;show g
   |k x=>let{J,h,g,_}:=w;rw[G]at h;cases h;show g
   |t x=>let{J,C,h,g,_}:=w;rw[G]at h;cases h;show g
   |kd x=>cases E
   |td x=>cases E
   |j x=>let{J,h,g,_}:=w;rw[G]at h;cases h;show g
  rcases Tv h1 with⟨rfl,_,A⟩|⟨n1,Y⟩
  .rw[Q3^by rw[b.len];show A]at y
   cases y;rcases Tv O with⟨rfl,_,_⟩|⟨L,M⟩
   .show N A2
   .rw[QS L]at n
    show c (f M T n) A2
  .rw[QS n1]at y
   rcases Tv O with⟨rfl,_,A⟩|⟨L,M⟩
   .rw[Q3^by rw[b.len];show A]at n
    cases n;show c (f Y Q y) A2
   .rw[QS L]at n
    show b.apart j k s' t' a N Y M Q T y n
def Bx.put(b:Bx B M0 own σ H δ){i:Nat}(v:δ[i]?=!s)(y:s.own=bU)(A:a∈own)(e:σ[i]?=!!.ref a)(G:pX o=bU)(h:oC (but H (own++M0)) (upd H a o) own (!!.ref a) g)(I:g.own=bU):Bx B M0 own σ (upd H a o)^δ.set i g:=by
 let J:but (upd H a o) (own++M0)=but H (own++M0):=eo^Q2 _ A
 show{by simp[b.len],λc u q=>?_,b.iQ,λc C=>?_,λj t q=>?_,λj k s1 t1 c L M N O Q T U=>?_}
 .rw[aE λz:c=a=>by rw[z,(b.kind a A).1]at q;cases q];show b.same _ _ q
 .show{(b.kind c C).1,?_}
  by_cases z:c=a
  .show{o,by rw[z];show aM,G}
  .rw[aE z];show b.kd c C
 .rw[J]
  rcases Tv q with⟨rfl,rfl,_⟩|⟨Y,q⟩
  .rw[e];show h
  .let w:=b.slot j t q;let keep:∀{c:vb} {u:HO},t.own=bU->σ[j]?=!!.ref c->H c=!u->upd H a o c=!u:=λ{c u} kt ec hu=>by
    rw[aE λz:c=a=>by subst z;show b.apart i j s t c Y v q y kt e ec];show hu
   cases t with
   |no=>trivial
   |d x=>show w
   |l x=>let{c,us,h,m,e,r}:=w;show{c,us,h,m,keep A2 h e,r}
   |k x=>let{c,h,m,e,r}:=w;show{c,h,m,keep A2 h e,r}
   |t x=>let{c,n,h,m,e,r}:=w;show{c,n,h,m,keep A2 h e,r}
   |kd x=>show w
   |td x=>show w
   |j x=>let{c,h,m,e}:=w;show{c,h,m,keep A2 h e}
 .let f:∀{m:Nat} {u:Sl},(δ.set i g)[m]?=!u->u.own=bU->∃E,δ[m]?=!E/\E.own=bU:=λ{m u} p ku=>by
   rcases Tv p with⟨rfl,rfl,_⟩|⟨_,p⟩
   .show{s,v,y}
   .show{u,p,ku}
  let{u1,g1,m1}:=f M O;let{u2,g2,m2}:=f N Q;show b.apart j k u1 u2 c L g1 g2 m1 m2 T U
def Bx.base (b:Bx B M0 own σ H δ):Bx (but H own) M0 own σ H δ:=by
 show{b.len,qS H own,λa ha=>?_,λa ha=>{by unfold FL.but;rw[Q0 ha],b.kd a ha},b.slot,b.apart};rw[bv^λz=>b.out z ha];show b.live a ha
def Bx.back(b:Bx c M0 own σ H δ)(s:ae B c)(l:av M0 B):Bx B M0 own σ H δ:=
 {b.len,s.trans b.same,l,λa d=>{(by
  cases q:B a with
  |none=>rfl
  |some u=>show absurd (b.kind a d).1 (by rw[s _ _ q];show λz=>nomatch z)),b.kd a d},b.slot,b.apart}
def Bx.sub (b:Bx B M0 own σ H δ):ae B^but H own:=λc u q=>by
 rw[bv λz=>by rw[(b.kind c z).1]at q;cases q];show b.same _ _ q
end
def aP (B:Hp)(M0:List vb)(δ:List Sl)(P:St->Hp->Prop):Prop:=∀own σ H,Bx B M0 own σ H δ->P σ H
def aP.run(b:Bx B d a c H e)(h:aP B d e P):P c H:=h a c H b
theorem aP.back(h:aP B a e P)(s:ae B d)(l:av a B):aP d a e P:=λc f H b=>h c f H^b.back s l
theorem gg {M:List vb}{H:Hp}{vs:List V}{ds:List D}(l:av M H)(r:aF `a vs ds)(N:List Str):Bx H M [] (L2.start N vs) H (ds.map Sl.d++List.replicate (N.length-ds.length) .no):=by
 let E:=iA r N;show{?_,ae.refl _,l,(fun a ha=>nomatch ha),fun i s q=>?_,fun i j s t a _ hs _ ks _ _ _=>?_}
 ·rw[E.len];simp
 ·by_cases hi:i<ds.length
  ·rw[getElem?_append_left (by simpa using hi),getElem?_map,getElem?_eq_getElem hi]at q;let q:=Option.some.inj q;subst q;show E.get i ds[i] ?_;rw[getElem?_append_left (by simpa using hi),getElem?_map,getElem?_eq_getElem hi];rfl
  ·rw[getElem?_append_right^by simpa using Nat.le_of_not_lt hi]at q;let{h1,h2}:=List.getElem?_eq_some_iff.mp q;simp at h2;subst h2;trivial
 ·by_cases hi:i<ds.length
  ·rw[getElem?_append_left (by simpa using hi),getElem?_map,getElem?_eq_getElem hi]at hs;let q:=Option.some.inj hs;subst q;cases ks
  ·rw[getElem?_append_right^by simpa using Nat.le_of_not_lt hi]at hs;let{h1,h2}:=List.getElem?_eq_some_iff.mp hs;simp at h2;subst h2;cases ks
section
variable {B:Hp}{M0:List vb}{δ:List Sl}{E:Ends}{te ty tv:TE}{t:TA}{tt:TT}{d:D}{ds xs:List D}{K:kc}
def dJ(h:∀G a,bN G a δ->ag te G a d)(e:d.gx=bU)(k:aP B M0 (δ.set i^.d d) E.nx):aP B M0 δ^dX te (cp i) E:=λc a H b=>
 (h _ a b.wide).at b.live λv f s r=>k c _ f^(b.grow s).set i^ap.narrow (b.grow s).kd e r
def ig(h:∀G a,aA G a^δ.map Sl.dat->ag te G a d)(k:aP B M0 (δ.set i^.d d) E.nx):aP B M0 δ^dX te (cp i) E:=λc a H b=>
 (h _ a b.jE).at b.fJ λv e s r=>k c _ e^(b.grow s).set i r
def fc (h:∀G c,bN G c δ->ag te G c d)(k:∀v a,ae B a->ap (but a M0) v d->E.rt v a):aP B M0 δ^ph te E:=λe c H b=>
 (h _ c b.wide).at b.live λv a s r=>k v a (b.same.trans s) r
def eA{i j:TS}(h:∀G a,bN G a δ->bu tt G a b)(k:b=bU->aP B M0 δ^i E)(l:b=fF->aP B M0 δ^j E):aP B M0 δ^nK tt i j E:=λc a H f=>
 Er f.live (h _ a f.wide) (λe g s=>k e c a g^f.grow s)^λe g s=>l e c a g^f.grow s
def Eo{c e:TS}(P:List Sl->Prop)(h:∀G f,bN G f δ->bu tt G f b)(i:(∀a,P a->aP B M0 a E.nx)->b=bU->aP B M0 δ^c E)(j:(∀a,P a->aP B M0 a E.nx)->b=fF->aP B M0 δ^e E)(g:∀a,P a->aP B M0 a E.nx):aP B M0 δ^nK tt c e E:=
 eA h (i g)^j g
def fq (h:aP B M0 δ E.nx):aP B M0 δ^vv E:=h
def IM(h:∀G a,aA G a^δ.map Sl.dat->dF t G a ds)(f:ds.length<=se)(k:aP B M0 (δ.set i^.l ds) E.nx):aP B M0 δ^dX (ma t) (cp i) E:=λc a H b=>
 h _ a b.jE _ H `f b.fJ _ λg n j e=>{by rw[e.length];show f,λp m=>k (p::c) _ _^(b.grow j).new i m A2 {p,g,A2,QQ,aM,e}}
def sv(k:aP B M0 (δ.set i^.l []) E.nx):aP B M0 δ^dX (ma bM) (cp i) E:=IM (λ_ _ _=>ah) (Rk _) k
def t9 {j:Nat}(g:δ[j]?=!.l xs)(h:∀G c,bN G c δ->ag te G c d)(p:d.gx=bU)(q:xs.length<se)(k:aP B M0 (δ.set j^.l (xs++[d])) E.nx):aP B M0 δ^kQ (lp K "list" pp (aW j)^bq te bM) E:=λf c H b=>by
 let{a,i,e,m,n,r}:=b.slot j _ g;show{.ref a,e,(show iZ K "list" `n H from .inl {A2,i,aU.of n}),(h _ c b.wide).at b.live λv w s u=>?_};let o:=b.grow s;show{a,i,v,A2,A2,s _ _ n,by rw[r.length];show q,k f c _^o.put g A2 m e A2 {a,_,A2,m,aM,?_} A2};show(r.mono^s.but _).snoc^ap.narrow o.kd p u
def HP{j:Nat}(i:δ[j]?=!.l xs)(h:∀G f,aA G f^δ.map Sl.dat->ag te G f^.lst ys)(q:xs.length+ys.length<=se)(k:aP B M0 (δ.set j^.l (xs++ys)) E.nx):aP B M0 δ^kQ (lp K "list" EM (aW j)^bq te bM) E:=λg f H b=>by
 let{a,n,e,m,o,r}:=b.slot j _ i;show{.ref a,e,(show iZ K "list" `n H from .inl {A2,n,aU.of o}),(h _ f b.jE).at b.fJ λv z s u=>?_};let w:=b.grow s;let{c,x,rfl,y,p}:=u.el;show{a,c,n,x,A2,A2,s _ _ o,(ay y).2,by rw[r.length,p.length];show q,k g f _^w.put i A2 m e A2 {a,_,A2,m,aM,?_} A2};show(r.mono^s.but _).append p
def JW(k:aP B M0 (δ.set i^.k []) E.nx):aP B M0 δ^dX vx (cp i) E:=λa e H b=>λp c=>
 k (p::a) _ _^b.new i c A2 {p,A2,QQ,aM,λ_ h=>nomatch h}
def Qt(k:aP B M0 (δ.set i^.t []) E.nx):aP B M0 δ^dX yR (cp i) E:=λa e H b=>λp c=>
 k (p::a) _ _^b.new i c A2 {p,[],A2,QQ,aM,.nil}
theorem EI:∀(b a:List (aH×V)),(cg a b).length<=a.length+b.length
 |[],a=>QU _
 |p::r,a=>by
  let c:=EI r^cr a p.1 p.2
  let e:=oI a p.1 p.2;change(cg (cr a p.1 p.2) r).length<=_;rw[Rw];omega
def MT (S:aT)(n:Str)(x:D):cg []^bX (S++[(n,x)])=cr (cg []^bX S) (Sum.inr n) x.toV:=by
 unfold cg bX;rw[Rl,R1];rfl
def Iy{j:Nat}(h:δ[j]?=!.k S)(o:∀G c,bN G c δ->ag tv G c d)(q:∀G c,bN G c δ->ag ty G c^.str n)(i:d.sc=bU)(M:S.length<1000)(k:aP B M0 (δ.set j^.k (S++[(n,d)])) E.nx):aP B M0 δ^p9 (aW j) ty tv E:=λg c H b=>by
 show(o _ c b.wide).at b.live λv N r s=>?_;let f:=b.grow r;let{a,e,m,u,w}:=f.slot j _ h;show{.ref a,e,(q _ c f.wide).at f.live λy O l x=>?_};let A:=f.grow l;let C:=x.qR;subst C;let I:=EI (bX S) [];let J:(bX S).length=S.length:=by unfold bX;rw[QP]
 show{a,_,A2,gK.k (k:=Sum.inr n) (l _ _ u)^cH (by rw[SI]at I;omega),k g c _^A.put h A2 m e A2 {a,A2,m,?_,λp L=>?_} A2}
 .rw[MT,(gz i s).1];show aM
 .rcases Rc.mp L with z|z
  .show w p z
  .rw[Rg.mp z];show i
def Ln{j:Nat}(o:δ[j]?=!.t l)(p:bV key)(r:∀G f,aA G f^δ.map Sl.dat->ag tv G f d)(s:∀G f,bN G f δ->ag ty G f^.tup key)(u:l.length<1000)(k:aP B M0 (δ.set j^.t^qu l key d) E.nx):aP B M0 δ^p9 (aW j) ty tv E:=λn f H b=>by
 show(r _ f b.jE).at b.fJ λv M w x=>?_;let h:=b.grow w;let{a,z,e,m,A,q}:=h.slot j _ o;show{.ref a,e,(s _ f h.wide).at h.live λy N i C=>?_};let I:=h.grow i;let{c,O,rfl,J,L}:=C.fS;let g:=(ay J).2;rw[oY p L]at g;show{a,_,A2,gK.t (k:=cx key) (i _ _ A) g^cH (by rw[q.length];show Sf u),k n f _^I.put o A2 m e A2 {a,_,A2,m,aM,(q.mono^i.but _).put p^x.mono^i.but _} A2}
end
section
variable {G:Hp}{σ:St}{δ:List Sl}{ty:TE}{d:D}{j:Nat}
def dg.Et{H:Hp}{ps:List (ZZ×D)}(g:H a=!.dT e)(h:bV b)(r:ap `a v^.tup b):dg H a v^bD e^cx b:=by
 let{c,l,rfl,i,k}:=r.fS;let f:=(ay i).2;rw[oY h k]at f;show dg.t g f
def bN.Jg(e:bN G σ δ)(o:δ[j]?=!.t c)(g:bV b)(h:ag ty G σ^.tup b):ag (pr ty^aW j) G σ^.bl^fT (b∈c.map (·.1)):=λM H s l Q k=>h M H s l _ λv p i q=>by
 let{a,f,r,u,w}:=(e.mono s).get j _ o;let x:=i _ _ (ay u).2;show{.ref a,r,a,_,A2,dg.Et (ps:=c) x g q,?_};let y:(bD f^cx b).isSome=fT (b∈c.map (·.1)):=by
  rw[<-ug];rcases w.val g with⟨m,n⟩|⟨v,d,m,n,_⟩<;>rw[m,n]<;>rfl
 rw[y];show k _ p i^.bl _
def bN.OP(e:bN G σ δ)(o:δ[j]?=!.t c)(g:bV b)(h:ag ty G σ^.tup b):ag (sJ ty^aW j) G σ^.bl^not^fT (b∈c.map (·.1)):=λM H s l Q k=>h M H s l _ λv p i q=>by
 let{a,f,r,u,w}:=(e.mono s).get j _ o;let x:=i _ _ (ay u).2;show{.ref a,r,a,_,A2,dg.Et (ps:=c) x g q,?_};let y:(bD f^cx b).isSome=fT (b∈c.map (·.1)):=by
  rw[<-ug];rcases w.val g with⟨m,n⟩|⟨v,d,m,n,_⟩<;>rw[m,n]<;>rfl
 rw[y];show k _ p i^.bl _
end
def c8 (B:Hp)(M0:List vb)(δ:List Sl)(wi:TI)(ds:List D):Prop:=∀own σ H,Bx B M0 own σ H δ->∀R:It->Hp->Prop,
 (∀J H1,ae H H1->(∀(j:Nat) d M' H',ds[j]?=!d->ae (but H1 (own++M0))^but H' M'->av M' H'->J.go j H'/\∀x H'',J.qh j H' x H''->ae H' H''/\ap (but H'' M') x d)->(∀M' H',ae (but H1 (own++M0))^but H' M'->J.stop ds.length H')->R J H1)->wi σ H R
section
variable {B:Hp}{M0:List vb}{δ:List Sl}{E:Ends}{wi:TI}{g:TG}{tb:TS}{t:TA}{ds:List D}
def c8.of (h:∀G a,aA G a^δ.map Sl.dat->Walk wi G a ds):c8 B M0 δ wi ds:=λc a H b R k=>h _ a b.jE _ H `f b.fJ R k
def c8.sq {n:Nat}(hn:n<2^62)(h:∀G σ,bN G σ δ->dF t G σ [.int n]):c8 B M0 δ (zZ t)^(List.range n).map λ(k:Nat)=>D.int (0+k):=λown σ H b R k=>h _ σ b.wide _ H `f b.live _ λvs H1 s1 rs=>by
 let{x,rfl,rx}:=jM rs;show{(n:Int),by rw[rx.dQ],by omega,by omega,?_};show k _ H1 s1 (λj d M' H' hj hs hl=>?_)^λM' H' hs=>?_
 .let{h1,rfl}:=mo 0 n j d hj;show{by change j<((n:Int)).toNat;omega,λx H'' q0=>?_};let{e,hy}:=q0;subst e;subst hy;show{ae.refl _,.int _}
 .change((n:Int)).toNat<=_;simp
def c8.Jz(f:-(2^62)<=a/\a<2^62)(i:-(2^62)<=b/\b<2^62)(h:∀G c,bN G c δ->dF t G c [.int a,.int b]):c8 B M0 δ (Ab t)^(List.range (b-a).toNat).map λ(k:Nat)=>D.int (a+k):=λm c H l R k=>h _ c l.wide _ H `f l.live _ λJ n o p=>by
 let{x,y,rfl,q,r}:=pT p;show{a,b,by rw[q.dQ,r.dQ],{f.1,f.2,i.1,i.2},?_};show k _ n o (λj d s u v w L=>?_) λs u w=>?_
 .let{z,rfl}:=mo a _ j d v;show{z,λx A C=>?_};let{e,I}:=C;subst e;subst I;show{ae.refl _,.int _}
 .change(b-a).toNat<=_;simp
abbrev p6 (E:Ends)(B:Hp)(M0:List vb)(P:List Sl->Prop):Ends:={E with nx:=λσ H=>∃own δ,Bx B M0 own σ H δ/\P δ,ct:=λσ H=>∃own δ,Bx B M0 own σ H δ/\P δ,bk:=E.nx}
def dO {P:List Sl->Prop}(h:P δ):aP B M0 δ (p6 E B M0 P).nx:=λa c H b=>{a,δ,b,h}
def DM (T:c8 B M0 δ wi ds)(Pv:Nat->List Sl->Prop)(U:Pv 0 δ)
  (k:∀A,ae B A->(∀a,aP B M0 a E.nx->aP A M0 a E.nx)->∀(j:Nat) x a,ds[j]?=!x->Pv j a->∀f C H v,Bx A M0 f C H a->ap (but H (f++M0)) v x->g v C H^tb^p6 E A M0^Pv (j+1))
  (o:∀a,Pv ds.length a->aP B M0 a E.nx):aP B M0 δ^mw wi g tb E:=λf C H b=>T f C H b _ λJ r Y G l=>by
 let M:=b.grow Y;let I:ae B^but r f:=M.sub;show{λj m i n=>m=ds.length-j/\j<=ds.length/\∃d a,Bx (but r f) M0 d i n a/\Pv j a,{ds.length,by simp,Rk _,f,δ,M.base,U},?_};rintro j m i n ⟨rfl,hj,d,a,s,p⟩;let N:ae (but r<|f++M0) (but n<|d++M0):=λc u q=>by
  let{O,q2}:=ay q;let L:but r f c=!u:=by rw[bv λz=>O^Q2 _ z];show q2
  rw[bv]
  .show s.same _ _ L
  .intro z;rcases Rc.mp z with z|z
   .rw[(s.kind c z).1]at L;cases L
   .show O^Q1 _ z
 by_cases w:j<ds.length
 .let Q:ds[j]?=some ds[j]:=QO w;let{go,gy}:=G j _ (d++M0) n Q N s.fJ;show .inr {go,_,λab H2 p2=>{ds.length-(j+1),by omega,A2,w,p2},λx y hy=>?_};let{s3,rx}:=gy x y hy;show k (but r f) I (λa h=>h.back I b.iQ) j _ a Q p d i y x (s.grow s3) rx
 .let e:j=ds.length:=by omega
  subst e;show .inl {l (d++M0) n N,o a p d i n^s.back I b.iQ}
def fI(l:c8 B M0 δ wi ds)(Pv:Nat->List Sl->Prop)(m:Pv 0 δ)
  (c:∀e,ae B e->(∀a,aP B M0 a E.nx->aP e M0 a E.nx)->∀(j:Nat) x a,ds[j]?=!x->Pv j a->aP e M0 (a.set i^.d x)^tb^p6 E e M0^Pv (j+1))
  (f:∀a,Pv ds.length a->aP B M0 a E.nx):aP B M0 δ^mw wi (cp i) tb E:=
 DM l Pv m (λe s k j x a n p h o H v b r=>c e s k j x a n p h _ H^b.set i r) f
def Li{K:kc}(o:c8 B M0 δ wi ds)(Pv:Nat->List Sl->Prop)(q:Pv 0 δ)
  (c:∀e,ae B e->(∀a,aP B M0 a E.nx->aP e M0 a E.nx)->∀(j:Nat) x a,ds[j]?=!x->Pv j a->∃l m,x=.tup [l,m]/\aP e M0 ((a.set i^.d l).set i'^.d m)^tb^p6 E e M0^Pv (j+1))
  (f:∀a,Pv ds.length a->aP B M0 a E.nx):aP B M0 δ^mw wi (pf K 2 (ki (cp i)^ki (cp i') pi)) tb E:=
 DM o Pv q (λe s k j x a u p n z H v b r=>by
  let{l,m,rfl,h}:=c e s k j x a u p;show pc r λA C w y=>h n _ H^(b.set i w).set i' y) f
def Mq(Pv:Nat->List Sl->Prop)(v:Nat)(z:Pv v δ)
  (i:∀j,ae B j->(∀a,aP B M0 a E.nx->aP j M0 a E.nx)->∀m a,Pv m a->∃c:Bool,(∀G q,bN G q a->bu u G q c)/\(c=bU->aP j M0 a^tb^p6 E j M0 λk=>∃n,n<m/\Pv n k)/\(c=fF->aP j M0 a E.nx)):
  aP B M0 δ^Co u tb E:=λf q H b=>by
 let w:ae B^but H f:=b.sub;show{λm e r=>∃d a,Bx (but H f) M0 d e r a/\Pv m a,{v,f,δ,b.base,z},?_};rintro m e r ⟨d,a,o,p⟩;let{c,A,C,I}:=i (but H f) w (λa h=>h.back w b.iQ) m a p;show A _ e o.wide _ r `f o.live _ λx y=>?_;cases c with
 |true=>
  rw[Q0 A2];show{_,λJ Q L=>?_,C A2 d e x^o.grow y};let{l,s,M,n,N,O}:=L;show{n,N,l,s,M,O}
 |false=>
  rw[QV QW];show I A2 d e x^o.grow y
end
def bN.caps {G n:Hp}{f:St}{g:List Sl}(e:bN G f g)(s:ae G n)(b:List Nat)(k i:Nat){v:V}{x:D}(r:ap n v x):bN n ((bo b k f).set i^!v)^(b.map (λj=>g.getD j Sl.no)++List.replicate k Sl.no).set i^.d x:=by
 let y:=e.mono s;let o:(bo b k f).length=(b.map (λj=>g.getD j Sl.no)++List.replicate k Sl.no).length:=by simp[bo]
 show{by rw[Sv,Sv];show o,λq t h=>?_};rcases Tv h with⟨rfl,rfl,A⟩|⟨B,h⟩
 .show{v,Q3 (by rw[o];show A),r}
 .rw[QS B]
  by_cases m:q<b.length
  .rw[Rj (by simpa using m),QY,QO m]at h
   let h:g.getD b[q] Sl.no=t:=Q5 h;let C:(bo b k f)[q]?=!(f[b[q]]?).join:=by
    unfold bo;rw[Rj (by simpa using m),QY,QO m];rfl
   rw[C];cases z:g[b[q]]? with
   |none=>
    have:t=.no:=by rw[<-h];simp[List.getD,z]
    rw[this];trivial
   |some u=>
    have:t=u:=by rw[<-h];simp[List.getD,z]
    subst this;let w:=y.get _ _ z;cases t with
    |no=>trivial
    |d x=>let{v,h,r}:=w;show{v,by rw[h];rfl,r}
    |l x=>let{v,h,r}:=w;show{v,by rw[h];rfl,r}
    |k x=>let{a,h,r}:=w;show{a,by rw[h];rfl,r}
    |t x=>let{a,c,h,r}:=w;show{a,c,by rw[h];rfl,r}
    |kd x=>let{a,h,r}:=w;show{a,by rw[h];rfl,r}
    |td x=>let{a,c,h,r}:=w;show{a,c,by rw[h];rfl,r}
    |j x=>let{a,h,r}:=w;show{a,by rw[h];rfl,r}
  .rw[Rn^by simpa using RA m]at h
   let{E,p}:=QN.mp h;simp at p;subst p;trivial
def bN.comp{a:List Nat}(e:bN G h l)(p:D->Bool)(f:D->D)(t:Walk n G h g)
  (u:∀c b d,d∈g->bN c b^(a.map (λj=>l.getD j Sl.no)++List.replicate k Sl.no).set i^.d d->bu o c b^p d)
  (w:∀c b d,d∈g->p d=bU->bN c b^(a.map (λj=>l.getD j Sl.no)++List.replicate k Sl.no).set i^.d d->ag q c b^f d) (x:g.length<se):
  ag (iU n (bo a k) (cp i) o q) G h^.lst^(g.filter p).map f:=
 iC t (λc v d s m r=>u c _ d m^e.caps s a k i r) (λc v d s m y r=>w c _ d m y^e.caps s a k i r) x
def aA.D8{a:List Sl}(h:aA G c^a.map Sl.dat):bN G c (a.map λs=>match s.dat with|some x=>.d x|none=>.no):=by
 show{by rw[h.len];simp,λi s q=>?_};rw[QY]at q;cases e:a[i]? with
 |none=>rw[e]at q;cases q
 |some t=>
  rw[e]at q;let q:(match t.dat with|some x=>Sl.d x|none=>Sl.no)=s:=Q5 q;cases b:t.dat with
  |none=>rw[b]at q;subst q;trivial
  |some x=>
   rw[b]at q;subst q;show h.get i x ?_;rw[QY,e];show RF some b
end FL
namespace FL
open PySem L2
def nP{V:Str->D}(c:cL B)(b:a≠[])(d:aG^a.headD .aw=fF)(h:∀x∈a,aG x=bU->x.name∈B):cP (ax V B) a=a.map^aX V:=by
 cases a with
 |nil=>show absurd A2 b
 |cons x r=>
  let e:aG x=fF:=d;change x::r.map^cF^ax V B=aX V x::r.map^aX V;let f:aX V x=x:=by unfold aX;rw[QV^by rw[e];show QW]
  rw[f];congr 1;show Rq λy g=>md c^h y^QM _ g
def J7(V:Str->D)(c:a≠[])(f:aG^a.headD .aw=fF)(b:aO a=fF):eB d^a.map^aX V=fT (a.map^aX V∈d):=by
 let e:=Dm (V:=V) c f;unfold aO at b;rw[Uo]at b;unfold eB;rw[<-e,QV^RK b.2,QV^RK b.1]
def Cw(d:aO [.str r,x,y]=bU)(h:aG^.str r=fF)(V:Str->D):eB c^[.str r,x,y].map^aX V=holdsA^[.str r,x,y].map^aX V:=by
 let e:aX V^.str r=.str r:=by unfold aX;rw[QV^by rw[h];show QW]
 change eB c [aX V^.str r,aX V x,aX V y]=holdsA [aX V^.str r,aX V x,aX V y];rw[e];generalize aX V x=a;generalize aX V y=b;change eB c [.str r,a,b]=holdsD r a b;let f:r="less"\/r="unlike":=by
  unfold aO at d;rw[Bool.or_eq_true]at d;rcases d with z|z
  .have:D.str r=D.str "less":=Q8 z;injection this with q
   show .inl q
  .have:D.str r=D.str "unlike":=Q8 z;injection this with q
   show .inr q
 rcases f with rfl|rfl
 .unfold eB holdsD;let i:¬(([D.str "less",a,b]:ZZ).headD .aw=.str "unlike"):=λz=>by
   let z:D.str "less"=D.str "unlike":=z;injection z with z
   show absurd z Z1
  let g:(([D.str "less",a,b]:ZZ).headD .aw=.str "less"):=A2;rw[QV i,Q0 g,QV Z1];cases a<;>cases b<;>rfl
 .unfold eB holdsD;let g:(([D.str "unlike",a,b]:ZZ).headD .aw=.str "unlike"):=A2;rw[Q0 g,Q0 A2]
def gM (fs body:`j)(S:aT):Bool:=body.all λa=>eB fs^cP S a
def F3 {base body fs:ZW}(h:BI base body){V:Str->D}{B:ZY}(hB:cL B)(hc:∀a∈body,∀x∈a,aG x=bU->x.name∈B):gM fs body^ax V B=bU↔(∀a∈base,a.map^aX V∈fs)/\O5.iB (body.filter aO)^ax V^ba [] base=bU:=by
 let hBb:cL^ba [] base:=jh fj;let key:∀a∈body,eB fs^cP (ax V B) a=if aO a=bU then holdsA^a.map^cF^ax V^ba [] base else fT (a.map^aX V∈fs):=λa ha=>by
  let A:=h.at_ a ha;rw[nP hB A.ne A.hd^hc a ha];by_cases g:aO a=bU
  .rw[Q0 g]
   let{{r,x,y,rfl},hb}:=h.gd a ha g;rw[Cw g A.hd V,O5.z0 hBb hb]
  .rw[QV g]
   show J7 V A.ne A.hd (by simpa using g)
 let hbase:∀a,a∈base↔a∈body/\aO a=fF:=λa=>by
  rw[<-h.ask,Q4];simp
 unfold gM O5.iB;rw[Tt,Tt];constructor
 .intro z;show{λa ha=>?_,λg hg=>?_}
  .let{h1,h2}:=(hbase a).mp ha;have:=z a h1;rw[key a h1,QV^by rw[h2];show QW]at this;show Q8 this
  .let{h1,h2}:=Q4.mp hg;have:=z g h1;rw[key g h1,Q0 h2]at this;show this
 .rintro⟨z1,z2⟩ a ha
  rw[key a ha];by_cases g:aO a=bU
  .rw[Q0 g];show z2 a^Q4.mpr {ha,g}
  .rw[QV g];show Q9^z1 a^(hbase a).mpr {ha,by simpa using g}
def BI.good{base:ZW}(h:BI base b):∀a∈base,kN a:=λa c=>by
 rw[<-h.ask]at c;let A:=h.at_ a (Q4.mp c).1;show{A.ne,A.hd}
def BI.qJ {base body:ZW}(h:BI base body)(facts:ZW):ib body facts=(gF facts base [([],[])]).filter λw=>O5.iB (body.filter aO) w.1:=by
 have:=O5.GW (facts:=facts) (as:=body) (λa ha _=>{(h.at_ a ha).ne,(h.at_ a ha).hd}) (λg hg e=>by rw[h.ask];show(h.gd g hg e).2);rw[N9,this,h.ask]
def xG{V:Str->D}(h:eM a V b c):c.length=b.length:=by
 have:=RF List.length h;simpa using this
def Es{V:Str->D}(h:eM b V d c){k:Nat}(f:d[k]?=!a):∃i,c[k]?=!i/\b[i]?=!a.map^aX V:=by
 let e:=RF (λl=>l[k]?) h;simp only[QY,f]at e;cases q:c[k]? with
 |none=>rw[q]at e;cases e
 |some i=>rw[q]at e;show{i,A2,Q5 e}
def K5{V:Str->D}(h:eM a V c d):∀i∈d,i<a.length:=λi g=>by
 let{k,e}:=RD.mp g;let b:k<c.length:=by rw[<-xG h];show(QN.mp e).1
 let{l,f,j}:=Es h^QO b;rw[e]at f;cases f;show(QN.mp j).1
def bN.wanted{K:kc}{body:ZW}(e:bN G f n)(o:∀a∈body,a≠[]/\∀x∈a,x.sc=bU)(p:body.length<=1000)(q:Walk i G f^body.map D.tup):
  ag (iU i (bo [] 1) (cp 0) (uR (p7^bT (λx y H Q=>mO x y H Q\/mD x y H Q) (bT (eP K) (aW 0)^tC^.int 0)^tC^.str "less")^p7^bT (λx y H Q=>mO x y H Q\/mD x y H Q) (bT (eP K) (aW 0)^tC^.int 0)^tC^.str "unlike")^aW 0) G f^cR^body.filter λa=> not^aO a:=by
 show(e.comp (λd=>match d with|.tup a=> not^aO a|_=>fF) (λd=>d) q (λs g d j c=>?_) (λs g d j _ c=>c.v A2)^by rw[QP];show cH p).eq ?_
 .let{a,t,rfl}:=Q6.mp j;let{h,cC}:=o a t;cases a with
  |nil=>show absurd A2 h
  |cons x r=>
   let k:=cC x QQ;let l:=fm (b:=.str "less") k A2;let m:=fm (b:=.str "unlike") k A2;show bu.eq (mi (cz^mT l.1 l.2 (bS (ds:=x::r) (d:=x) iq (c.v A2) ar) aK) λ_=>cz^mT m.1 m.2 (bS (ds:=x::r) (d:=x) iq (c.v A2) ar) aK) ?_;change _= not^aO (x::r);unfold aO;rw[Bool.not_or];rfl
 .unfold cR;rw[T5,SD];rfl
def bN.NE{j:Nat}(e:bN G c b)(d:b[j]?=!.k S\/b[j]?=!.kd S):∃a,c[j]?=!!.ref a/\G a=!.dK^cg []^bX S/\∀p∈S,p.2.sc=bU:=by
 rcases d with h|h
 .show e.get j _ h
 .show e.get j _ h
def bN.rM{j:Nat}(e:bN G b c)(f:c[j]?=!.k S\/c[j]?=!.kd S)(g:a≠[])(i:∀x∈a,x.sc=bU)(l:a.length<=10)(h:ag d G b^.tup a):ag (ja (kh tL) [] E^bq d^bq (aW j) bM) G b^.tup^cP S a:=by
 let{p,m,n,o}:=e.NE f;show rj {a,S,A2,g,i,o,l,A2}^sQ h^sI m n qT
def wX{S:aT}(b:a≠[])(c:∀x∈a,x.sc=bU)(d:∀p∈S,p.2.sc=bU):∀x∈cP S a,x.sc=bU:=λx e=>by
 cases a with
 |nil=>show absurd A2 b
 |cons y r=>
  rcases QZ.mp e with z|z
  .rw[z];show c y QQ
  .let{u,f,rfl}:=Q6.mp z;show(mY (c u^QM _ f) d).2
def LB(h:a≠[]):aO^cP S a=aO a:=by
 cases a with
 |nil=>show absurd A2 h
 |cons x r=>rfl
def FE{S:aT}(b:a≠[])(c:∀x∈a,x.sc=bU)(d:∀p∈S,p.2.sc=bU)(e:aO a=bU->∃r x y,a=[.str r,x,y]):DB^cP S a:=by
 show{(λz=>by cases z),wX b c d,λg=>?_};rw[LB b]at g;let{r,x,y,rfl}:=e g;show{r,_,_,A2}
section
variable {B:Hp}{M0 own:List vb}{σ:St}{H:Hp}{δ:List Sl}{E:Ends}{t:TA}{ds:List D}
def Bx.Ql(b:Bx B M0 own σ H δ)(i:Nat){s:Sl}(g:s.own=fF)(r:oC (but H (own++M0)) H own (!!v) s):Bx B M0 own (σ.set i^!v) H^δ.set i s:=by
 show{by simp[b.len],b.same,b.iQ,b.kind,λj t q=>?_,λj k m t a n c d e f h l=>?_}
 .rcases Tv q with⟨rfl,rfl,o⟩|⟨p,q⟩
  .rw[Q3^by rw[b.len];show o];show r
  .rw[QS p];show b.slot j t q
 .rcases Tv c with⟨rfl,rfl,_⟩|⟨u,c⟩
  .rw[g]at e;cases e
  .rcases Tv d with⟨rfl,rfl,_⟩|⟨w,d⟩
   .rw[g]at f;cases f
   .rw[QS u]at h
    rw[QS w]at l;show b.apart j k m t a n c d e f h l
def Bx.MI{δ:List Sl}(l:av M H)(c:∀s∈δ,s=.no\/∃x,s=.d x)(e:aA `a σ^δ.map Sl.dat):Bx H M [] σ H δ:=by
 let b:∀{j:Nat} {s:Sl},δ[j]?=!s->s.own=bU->False:=λ{j s} h k=>by
  rcases c s (QT h)with rfl|⟨x,rfl⟩<;>cases k
 show{by rw[e.len,QP],ae.refl _,l,(λa f=>nomatch f),λi s q=>?_,λi j s t a _ g _ m _ _ _=>b g m};rcases c s (QT q)with rfl|⟨x,rfl⟩
 .trivial
 .show e.get i x^by rw[QY,q];rfl
def aP.Lz(b:Bx B M0 own (σ.set i^!v) H δ)(h:aP B M0 δ P):cp i v σ H P:=h own _ H b
def bp{b:TS}(h:aP B M0 δ^a {E with nx:=b E}):aP B M0 δ^ow a b E:=h
def gP{rest:TS}(h:∀G σ,bN G σ δ->bu a G σ fF)(k:aP B M0 δ^rest E):aP B M0 δ^ow (nK a c vv) rest E:=bp^eA (b:=fF) h (λz=>nomatch z) λ_=>fq k
def wS{c:ZZ->Prop}{a:ZZ->D->Prop}(h:∀G σ,aA G σ^δ.map Sl.dat->dF t G σ ds)(j:c ds)(k:∀d,a ds d->aP B M0 (δ.set i^.d d) E.nx):aP B M0 δ^dX (ja (iN c a) [] g t) (cp i) E:=λe σ H b=>
 h _ σ b.jE _ H `f b.fJ _ λq r f l=>{e++M0,ds,b.fJ.same f,by rw[Ro];show l,j,λd v m n o p=>k d n e _ m^(b.grow^f.trans o).set i p}
def Iu{K:kc}{U:TS}(h:∀G σ,aA G σ^δ.map Sl.dat->dF t G σ [gU Bs,.lst pool])(o:∀x∈pool,x.sc=bU)(hz:Bs.length<=3)(C:pool.length<=10)(Pv:Nat->List Sl->Prop)(h0:Pv 0 δ)
  (k:∀y,ae B y->(∀d,aP B M0 d E.nx->aP y M0 d E.nx)->∀(j:Nat) c d,(df pool Bs [[]])[j]?=!c->Pv j d->aP y M0 (d.set i^.kd c)^U^p6 E y M0^Pv (j+1))
  (q:∀d,Pv (df pool Bs [[]]).length d->aP B M0 d E.nx):aP B M0 δ^mw (λσ H R=>kW K (ja uN [] T t) σ H R\/pd K (ja uN [] T t) σ H R) (cp i) U E:=λf σ H b=>
 .inl (h _ σ b.jE _ H `f b.fJ _ λvs H1 Y rs=>by
  let{v0,v1,rfl,r0,r1}:=pT rs;show{f++M0,Bs,pool,v0,v1,A2,b.fJ.same Y,r0,r1,o,hz,C,λp r s s2 u hD=>{p,A2,{r,aU.of (ay u).2},?_}};let b1:=b.grow^Y.trans s2;let I:ae B^but s f:=b1.sub;let J:but s f p=!.lst r:=by
   let{A,L}:=ay u;rw[bv λz=>A^Q2 _ z];show L
  let hn:=hD.len;show{λj m l M=>m=(df pool Bs [[]]).length-j/\j<=(df pool Bs [[]]).length/\∃g d,Bx (but s f) M0 g l M d/\Pv j d,{_,A2,Rk _,f,δ,b1.base,h0},?_};rintro j m l M ⟨rfl,hj,g,d,v,pj⟩;let N:=v.same _ _ J;by_cases w:j<(df pool Bs [[]]).length
  .let O:=QO w;let{a,hu,Q}:=hD.get j _ O;show .inr {{r,.ref a,aU.of N,hu},_,λab H3 p2=>{(df pool Bs [[]]).length-(j+1),by omega,A2,w,p2},λx ac q0=>?_};let{e,hy}:=q0;subst e;let hx:=hy r^aU.of N;rw[hu]at hx;cases hx;show k (but s f) I (λd h=>h.back I b.iQ) j _ d O pj g _ _^v.Ql i A2 {a,A2,?_,vK pool Bs [[]] _ o (λm hm p o=>by rw[Rg.mp hm]at o;cases o)^QT O};let{A,L}:=ay Q;let n:but s f a=!(.dK^cg []^bX (df pool Bs [[]])[j]):=by rw[bv λz=>A^Q2 _ z];show L
   rw[bv]
   .show v.same _ _ n
   .intro z;rcases Rc.mp z with z|z
    .rw[(v.kind a z).1]at n;cases n
    .show A^Q1 _ z
  .let e:j=(df pool Bs [[]]).length:=by omega
   subst e;show .inl {{r,aU.of N,by rw[hn];show QU _},q d pj g l M^v.back I b.iQ})
end
def EO {as:ZW}:∀{B:ZY},(∀a∈as,a.length<=10)->(ba B as).length<=B.length+10*as.length:=by
 induction as with
 |nil=>intro B _;show RL _ _
 |cons a r b=>
  intro B h;let e:=b (B:=al B a) λc d=>h c^QM _ d
  let f:=mv a B;let g:=h a QQ;change(ba (al B a) r).length<=_;rw[Rw];omega
def lL{k:Nat}(h:l[k]?=!d):dI l ((k:Nat):Int)=!d:=vm h
def sk{k:Nat}(h:l[k]?=!d):dI l (0+((k:Nat):Int))=!d:=by rw[Int.zero_add];show vm h
end FL
namespace FL
open PySem L2
def mC (seed:Int):List D:=[.lst [.str "ashenashenashen",.int 0,.str "ashenashxnashen"],.lst [.str "ashenashenashen",.int 2,.int (-1)],.lst [.int^10^(30:Int).toNat,.int 0,.int (-1)],.lst [.str "qu",.int (seed+4),.int (-4-seed)]]
def FW:GP^.str "ashenashenashen"/\aG^.str "ashenashenashen"=fF:={{A2,{by decide,_,_,A2},Z9},Z9}
def Nl:GP^.str "ashenashxnashen"/\aG^.str "ashenashxnashen"=fF:={{A2,{by decide,_,_,A2},Z9},Z9}
def Po:GP^.str "qu"/\aG^.str "qu"=fF:={{A2,{by decide,_,_,A2},Z9},Z9}
def nH (i:Int):GP^.int i/\aG^.int i=fF:={ue i,A2}
def vC(b:GP x/\aG x=fF)(c:GP y/\aG y=fF)(d:GP z/\aG z=fF)(e:[x,y,z].Nodup):u3 [x,y,z]:=by
 let h:∀u∈[x,y,z],GP u/\aG u=fF:=λu a=>by
  simp only[QZ,Rt,RH]at a;rcases a with rfl|rfl|rfl
  .show b
  .show c
  .show d
 show{A2,e,λu a=>(h u a).1,λu a=>(h u a).2}
def AC(h:0<=a):∀d∈mC a,∃b,d=.lst b/\u3 b:=λd c=>by
 simp only[mC,QZ,Rt,RH]at c;rcases c with rfl|rfl|rfl|rfl
 .show{_,A2,vC FW (nH _) Nl Z9}
 .show{_,A2,vC FW (nH _) (nH _) Z9}
 .show{_,A2,vC (nH _) (nH _) (nH _) Z9}
 .show{_,A2,vC Po (nH _) (nH _) ?_}
  simp only[Th,QZ,Rt,RH,Ws,D.int.injEq,reduceCtorEq,not_false_eq_true,Wq,true_and,Tq,and_self];omega
def QD (facts bs body:`j)(w:aN):Prop:=∃V,w.1=ax V^ba [] bs/\eM facts V bs w.2/\O5.iB (body.filter aO) w.1=bU
def BI.mem(h:BI c a)(d:w∈ib a b):QD b c a w:=by
 rw[h.qJ]at d;let{f,g}:=Q4.mp d;let{S,j}:=w;let{V,e,i}:=(sf h.good).mp f;show{V,e,i,g}
theorem DX:∀{l:List b} {i j:Nat} {x y:b},l.Pairwise R->i<j->l[i]?=!x->l[j]?=!y->R x y
 |[],_,_,_,_,_,_,h,_=>by simp at h
 |a::r,0,j+1,x,y,h,_,c,d=>by
  simp at c;subst c;show(VL.mp h).1 y<|QT (by simpa using d)
 |a::r,i+1,j+1,x,y,h,e,c,d=>DX (i:=i) (j:=j) (VL.mp h).2 Z4 (by simpa using c) (by simpa using d)
end FL
namespace FL
open PySem L2
def vL (s:bE)(n:Nat)(g:ZZ)(r:ZW):cE s n (g::r)=cE (da s n g) (n+1) r:=by
 unfold cE;rw[Wd];rfl
def A6 (s:bE)(n:Nat):cE s n []=s:=A2
theorem Ep:∀(F G:ZW) (s:bE) (n:Nat),cE s n (F++G)=cE (cE s n F) (n+F.length) G
 |[],G,s,n=>by rw[A6];rfl
 |g::r,G,s,n=>by
  rw[U7,vL,vL,Ep r G,Rw];congr 1;omega
structure ij (s:bE)(n:Nat):Prop where
 inc:s.of.Pairwise fun a b=>a.2.1<b.2.1
 lt:∀o∈s.of,o.2.1<n
 nw:∀k:Nat,fT ((k:Int)<=s.newest)=s.of.any fun o=>fT (k<=o.2.1)
def ij.HI(h:ij s n)(g:ZZ):ij (da s n g) (n+1):=by
 unfold da;split
 .show{List.pairwise_append.mpr {h.inc,List.pairwise_singleton _ _,λa d b e=>by rw[Rg.mp e];show h.lt a d},λo c=>?_,λk=>?_}
  .rcases Rc.mp c with z|z
   .show S8^h.lt o z
   .rw[Rg.mp z];show SF n
  .change fT ((k:Int)<=((n:Nat):Int))=(s.of++[_]).any _;rw[List.any_append];simp only[U5,List.any_nil,VE];by_cases z:k<=n
   .rw[Q9 (show(k:Int)<=((n:Nat):Int)by omega),Q9 z,Bool.or_true]
   .let f:(s.of.any λo=>fT<|k<=o.2.1)=fF:=Ue.mpr λo c=>by
     have:=h.lt o c;simp only[Tu];omega
    rw[f,Ri z,Ri^show¬(k:Int)<=((n:Nat):Int)by omega];rfl
 .show{h.inc,λo c=>S8^h.lt o c,h.nw}
theorem ij.CI:∀(a:ZW) {s:bE} {n:Nat},ij s n->ij (cE s n a) (n+a.length)
 |[],s,n,h=>h
 |g::r,s,n,h=>by
  rw[vL,Rw,show n+(r.length+1)=n+1+r.length by omega];show ij.CI r^h.HI g
def ij.start {s:bE}(a:s.of=[])(c:s.newest=-1):ij s 0:=by
 show{by rw[a];show List.Pairwise.nil,(λo b=>by rw[a]at b;cases b),λk=>?_};rw[a,c];show Ri Z4
def fN (lm:cj)(Ns:List^List^List D):cj:=Ns.foldl cn lm
theorem qA:∀(b:List ZW) (a:cj),(fN a b).steps=a.steps.map (λs=>cE s a.taken b.flatten)/\(fN a b).gm=a.gm/\(fN a b).taken=a.taken+b.flatten.length
 |[],a=>⟨by
   change a.steps=a.steps.map λs=>cE s a.taken [];have:(λs=>cE s a.taken [])=λs=>s:=by funext s;rfl
   rw[this,T5],A2,A2⟩
 |N::r,a=>by
  let{c,d,e}:=qA r^cn a N;show{?_,d,?_}
  .change(fN (cn a N) r).steps=_;rw[c];change(a.steps.map λs=>cE s a.taken N).map (λs=>cE s (a.taken+N.length) r.flatten)=_;rw[Rz];show Rq λs _=>?_;change cE (cE s a.taken N) (a.taken+N.length) r.flatten=cE s a.taken (N++r.flatten);rw[Ep]
  .change(fN (cn a N) r).taken=_;rw[e];change a.taken+N.length+r.flatten.length=a.taken+(N++r.flatten).length;rw[Q7];omega
def rJ (a:cj)(b:List ZW)(N:ZW):fN a (b++[N])=cn (fN a b) N:=by
 unfold fN;rw[R1];rfl
theorem foldl_max:∀(r:List Int) (i:Int),(r.foldl max i=i\/r.foldl max i∈r)/\i<=r.foldl max i/\∀x∈r,x<=r.foldl max i
 |[],i=>{.inl A2,Int.le_refl _,λx a=>nomatch a}
 |j::r,i=>by
  let{b,d,c}:=foldl_max r^max i j;change(r.foldl max^max i j=i\/r.foldl max^max i j∈j::r)/\i<=r.foldl max^max i j/\∀x∈j::r,x<=r.foldl max^max i j;show{?_,by omega,λx a=>?_}
  .rcases b with z|z
   .by_cases q:i<=j
    .show .inr (by rw[z,show max i j=j by omega];show QQ)
    .show .inl (by rw[z];omega)
   .show .inr^QM _ z
  .rcases QZ.mp a with z|z
   .subst z;omega
   .show c x z
def xP (is:List Int)(n:Int):(is=[]/\gf is n=n)\/(gf is n∈is/\∀x∈is,x<=gf is n):=by
 cases is with
 |nil=>show .inl {A2,A2}
 |cons i r=>
  let{a,b,c}:=foldl_max r i;show .inr {?_,λx d=>?_}
  .change r.foldl max i∈i::r;rcases a with z|z
   .rw[z];show QQ
   .show QM _ z
  .change x<=r.foldl max i;rcases QZ.mp d with z|z
   .subst z;show b
   .show c x z
def yN (a:List bE)(n:Nat):(lK a n=-1\/∃j:Nat,j<a.length/\lK a n=j)/\∀(j:Nat) s,a[j]?=!s->((n:Nat):Int)<=s.newest->((j:Nat):Int)<=lK a n:=by
 let c:∀(j:Nat) s,a[j]?=!s->((n:Nat):Int)<=s.newest->((j:Nat):Int)∈((List.range a.length).filter λj=>fT<|(n:Int)<=(a.getD j {[],[],[],[],-1}).newest).map λj=>((j:Nat):Int):=λj s b d=>by
  show Q6.mpr {j,Q4.mpr {TD.mpr (QN.mp b).1,?_},A2};rw[List.getD,b];show Q9 d
 unfold lK;rcases xP (((List.range a.length).filter λj=>fT<|(n:Int)<=(a.getD j {[],[],[],[],-1}).newest).map λj=>((j:Nat):Int)) (-1)with⟨f,g⟩|⟨f,g⟩
 .show{.inl g,λj s b d=>?_}
  have:=c j s b d;rw[f]at this;cases this
 .show{.inr ?_,λj s b d=>g _^c j s b d}
  let{j,h,e}:=Q6.mp f;show{j,TD.mp (Q4.mp h).1,e.symm}
def dG (fr:Nat)(w:aN):Bool:=w.2.any λp=>fT (fr<=p)
def zb (a:Nat)(w:aN)(o:dP):dG a^gu w o=(dG a w||fT (a<=o.2.1)):=by
 change(w.2++[o.2.1]).any _=_;rw[List.any_append];simp[dG]
def Eu (b:Nat)(a:List Nat):fT (gf (a.map λn=>((n:Nat):Int)) (-1)<((b:Nat):Int))= not^a.any λp=>fT (b<=p):=by
 rcases xP (a.map λn=>((n:Nat):Int)) (-1)with⟨c,d⟩|⟨c,d⟩
 .rw[d]
  have:a=[]:=by simpa using c
  rw[this];show Q9 Z4
 .by_cases z:gf (a.map λn=>((n:Nat):Int)) (-1)<((b:Nat):Int)
  .rw[Q9 z]
   have:(a.any λp=>fT<|b<=p)=fF:=Ue.mpr λp g=>by
    have:=d _^Sy (f:=λn:Nat=>((n:Nat):Int)) g
    simp only[Tu];omega
   rw[this];rfl
  .rw[Ri z]
   let{p,g,e}:=Q6.mp c;have:(a.any λp=>fT<|b<=p)=bU:=Um.mpr {p,g,Q9 Z4};rw[this];rfl
theorem GJ{p:c->Bool}:∀{l:List c},l.Pairwise (λa b=>p b=bU->p a=bU)->l.takeWhile p=l.filter p
 |[],_=>rfl
 |x::r,h=>by
  let{d,f}:=VL.mp h;by_cases e:p x=bU
  .rw[TC,e,Tg,Q0 e,Q0 A2,GJ f]
  .rw[TC,QV e,Tg,QV e]
   show(Td.mpr λy g z=>e^d y g z).symm
def Il(h:ij s n)(w:aN)(c:Nat):fX s w ((c:Nat):Int)=(((fU s.of^gZ w.1^iH s).reverse.filter λo=>fT (c<=o.2.1)).map^gu w).filter λx=>fK x.1 s.gs:=by
 unfold fX;congr 2;let e:∀o:dP,fresh ((c:Nat):Int) o=fT (c<=o.2.1):=λo=>by
  unfold fresh;show TF.mpr {λh=>by omega,λh=>by omega}
 rw[GJ]
 .show SN λo _=>e o
 .rw[List.pairwise_reverse]
  show(Wg _ h.inc).imp λ{a b} f d=>?_;rw[e]at d⊢;have:=Q8 d;show Q9 Z4
def MR (s:bE)(w:aN):fX s w 0=((fU s.of^gZ w.1^iH s).reverse.map^gu w).filter λx=>fK x.1 s.gs:=by
 unfold fX;rw[sN];intro o _;unfold fresh;show Q9 Z4
section
variable {lm lm0:cj}{n:Nat}
theorem zq (l:lm0.fresh=0)(a:Nat):∀(m:Nat) (w:aN),w.2.length+m=lm0.steps.length->dG a w=fF->(∀(i:Nat) s,w.2.length<=i->lm0.steps[i]?=!s->∀o∈s.of,o.2.1<a)->(dk lm0 m w).filter^dG a=[]
 |0,w,_,d,_=>by
  change [w].filter^dG a=[]
  rw[List.filter_cons_of_neg^by rw[d];show QW];rfl
 |m+1,w,t,d,k=>by
  change((cI lm0 w).reverse.flatMap^dk lm0 m).filter^dG a=[]
  rw[Td];intro x p e;let{y,b,f}:=RY.mp p;rw[SS]at b;let q:=lJ b;let g:w.2.length<lm0.steps.length:=by omega
  let c:=QO g;let h:dG a y=fF:=by
   unfold cI at b;rw[c]at b;let{o,r,rfl}:=Q6.mp (Q4.mp b).1;let j:=(Q4.mp^SS.mp^(T6 _).subset r).1;rw[zb,d];have:=k _ _ (QU _) c o j;show Ri Z4
  have:=zq l a m y Z4 h λi s u=>k i s Z4;rw[Td]at this;show this x f e
theorem xk(p:b->Bool)(f:a->List b):∀l:List a,(l.flatMap f).filter p=l.flatMap λx=>(f x).filter p
 |[]=>rfl
 |x::r=>by rw[RT,RT,R7,xk p f r]
theorem sW{f g:a->List b}:∀{l:List a},(∀x∈l,f x=g x)->l.flatMap f=l.flatMap g
 |[],_=>rfl
 |x::r,h=>by rw[RT,RT,h x QQ,sW λy c=>h y^QM _ c]
theorem Fj{f:a->List c}(p:a->Bool):∀{l:List a},(∀x∈l,p x=fF->f x=[])->l.flatMap f=(l.filter p).flatMap f
 |[],_=>rfl
 |x::r,h=>by
  let b:=Fj p (l:=r) λy d=>h y^QM _ d
  by_cases e:p x=bU
  .rw[Tg,Q0 e,RT,RT,b]
  .rw[Tg,QV e,RT,h x QQ (by simpa using e),T4,b]
theorem Au (u:∀s∈lm.steps,ij s n)(e:lm0.steps=lm.steps)(v:lm0.fresh=0)(a:lm.last=lK lm.steps lm.fresh):∀(m:Nat) (w:aN),w.2.length+m=lm.steps.length->(((w.2.length:Nat):Int)<=lm.last\/dG lm.fresh w=bU)->dk lm m w=(dk lm0 m w).filter^dG lm.fresh
 |0,w,U,y=>by
  let f:dG lm.fresh w=bU:=by
   rcases y with z|z
   .exfalso;rcases(yN lm.steps lm.fresh).1 with q|⟨j,hj,q⟩
    .rw[a,q]at z;omega
    .rw[a,q]at z;omega
   .show z
  change [w]=[w].filter _;rw[Tg,Q0 f];rfl
 |m+1,w,U,y=>by
  let g:w.2.length<lm.steps.length:=by omega
  let h:=QO g;let A:=u _^Sr g
  let B:cI lm0 w=fX lm.steps[w.2.length] w 0:=by
   unfold cI;rw[e,h,tJ v]
  let N:cI lm w=fX lm.steps[w.2.length] w^iP lm w:=by
   unfold cI;rw[h]
  change(cI lm w).reverse.flatMap^dk lm m=((cI lm0 w).reverse.flatMap^dk lm0 m).filter _;rw[xk];by_cases C:((w.2.length:Nat):Int)=lm.last/\dG lm.fresh w=fF
  .
   let{k,l}:=C;let b:iP lm w=((lm.fresh:Nat):Int):=by
    unfold iP;rw[Eu,Q0];rw[Q9 k];have:(w.2.any λp=>fT<|lm.fresh<=p)=fF:=l;rw[this];rfl
   rw[N,B,b,Il A,MR];let r:∀x∈(((fU lm.steps[w.2.length].of^gZ w.1^iH lm.steps[w.2.length]).reverse.map^gu w).filter λx=>fK x.1 lm.steps[w.2.length].gs).reverse,dG lm.fresh x=fF->(dk lm0 m x).filter^dG lm.fresh=[]:=λx c E=>by
    rw[SS]at c;let{o,O,rfl}:=Q6.mp (Q4.mp c).1;let t:(gu w o).2.length=w.2.length+1:=by change(w.2++[o.2.1]).length=_;rw[Q7];rfl
    show zq v lm.fresh m (gu w o) (by rw[e];omega) E λi s hi d Q G=>?_;rw[e]at d;let H:=u s^QT d
    by_cases z:Q.2.1<lm.fresh
    .show z
    .exfalso;let T:(s.of.any λo=>fT<|lm.fresh<=o.2.1)=bU:=Um.mpr {Q,G,Q9 Z4};rw[<-H.nw]at T;have:=(yN lm.steps lm.fresh).2 i s d<|Q8 T
     rw[<-a,<-k]at this;omega
   let Y:∀X:List aN,X.reverse.filter^dG lm.fresh=(X.filter^dG lm.fresh).reverse:=λX=>by simp
   rw[Fj (dG lm.fresh) r,Y];let e2:∀L:List dP,((L.filter λo=>fT<|lm.fresh<=o.2.1).map^gu w)=(L.map^gu w).filter^dG lm.fresh:=λL=>by
    rw[SD];congr 1;show SN λo _=>?_;change fT (lm.fresh<=o.2.1)=dG lm.fresh^gu w o;rw[zb,l];rfl
   rw[e2,Vq,Vq];let e3:(λx:aN=>fK x.1 lm.steps[w.2.length].gs&&dG lm.fresh x)=λx=>dG lm.fresh x&&fK x.1 lm.steps[w.2.length].gs:=by funext x;show Bool.and_comm _ _
   rw[e3];show sW λx c=>?_;rw[SS]at c;let{I,J}:=Q4.mp c;let{o,O,rfl}:=Q6.mp I;let t:(gu w o).2.length=w.2.length+1:=by change(w.2++[o.2.1]).length=_;rw[Q7];rfl
   show Au u e v a m (gu w o) Z4^.inr (Ss.mp J).1
  .let b:iP lm w=0:=by
    unfold iP;rw[Eu,QV];intro z;rw[RJ]at z;show C {Q8 z.1,?_};have:=z.2;change(w.2.any λp=>fT<|lm.fresh<=p)=fF;simpa using this
   rw[N,b,B];show sW λx c=>?_;rw[SS]at c;let M:x∈cI lm0 w:=by rw[B];show c
   let t:=lJ M;show Au u e v a m x Z4 ?_;by_cases f:dG lm.fresh w=bU
   .right
    let{o,O,rfl}:=Q6.mp (Q4.mp c).1;rw[zb,f];rfl
   .rcases y with z|z
    .left;have:¬((w.2.length:Nat):Int)=lm.last:=λq=>C {q,by simpa using f};omega
    .show absurd z f
def gI (lm:cj):List aN:=(fg lm).flatMap λw=>dk lm (ck lm w) w
def z6 (a:lm0.fresh=0):fg lm0=if lm0.gm=bU then []else if(lm0.steps.all λs=>fT ((0:Int)<=s.newest))=bU then [([],[])]else []:=by
 unfold fg;rw[a];have:fT ((0:Int)<((0:Nat):Int))=fF:=A2;rw[this,Wb,VE]
def MG (p:∀s∈lm.steps,ij s n)(e:lm0.steps=lm.steps)(q:lm0.gm=lm.gm)(f:lm0.fresh=0)(g:lm.last=lK lm.steps lm.fresh):gI lm=(gI lm0).filter λw=>fT (lm.fresh=0)||dG lm.fresh w:=by
 let r:∀w,ck lm0 w=ck lm w:=λw=>by unfold ck;rw[e]
 by_cases j:lm.fresh=0
 .let u:∀w,cI lm w=cI lm0 w:=λw=>by unfold cI;rw[e,tJ j,tJ f]
  let v:∀m w,dk lm m w=dk lm0 m w:=λm=>by
   induction m with
   |zero=>show λw=>A2
   |succ m y=>
    intro w;change(cI lm w).reverse.flatMap^dk lm m=(cI lm0 w).reverse.flatMap^dk lm0 m;rw[u];show sW λx _=>y x
  unfold gI;rw[z6 j,z6 f,e,q,RM.mpr λw _=>by rw[Q9 j];rfl];show sW λx _=>by rw[r];show v _ x
 .let A:(λw=>fT (lm.fresh=0)||dG lm.fresh w)=dG lm.fresh:=by funext w;rw[Ri j];rfl
  rw[A];unfold gI;rw[xk,z6 f,e,q];unfold fg;by_cases b:lm.gm=bU
  .rw[b,Q0 A2,Q0^by rfl]
   rfl
  .let c:lm.gm=fF:=by simpa using b
   rw[c,QV QW,Bool.false_or];let h:fT ((0:Int)<((lm.fresh:Nat):Int))=bU:=Q9 Z4;rw[h,Uz];by_cases a:lm.last<0
   .rw[Q0^Q9 a]
    let k:∀(i:Nat) s,(([],[]):aN).2.length<=i->lm0.steps[i]?=!s->∀o∈s.of,o.2.1<lm.fresh:=λi s _ d o B=>by
     rw[e]at d;let l:=p s^QT d
     by_cases z:o.2.1<lm.fresh
     .show z
     .exfalso;let t:(s.of.any λo=>fT<|lm.fresh<=o.2.1)=bU:=Um.mpr {o,B,Q9 Z4};rw[<-l.nw]at t;have:=(yN lm.steps lm.fresh).2 i s d<|Q8 t
      rw[<-g]at this;omega
    split
    .change []=[(([],[]):aN)].flatMap _;rw[Sw];rw[zq f lm.fresh _ ([],[]) (by unfold ck;simp) A2 k]
    .rfl
   .rw[QV^by rw[Ri a];show QW]
    split
    .rw[Sw,Sw,r]
     show Au p e f g _ ([],[]) (by unfold ck;simp) (.inl^by change((0:Nat):Int)<=lm.last;omega)
    .rfl
end
def Lu (b:ZW)(a:List ZW)(N:ZW):gI^fN (ci b) (a++[N])=(ib b (a++[N]).flatten).filter λw=>fT (a.flatten.length=0)||dG a.flatten.length w:=by
 let{e,g,n}:=qA (a++[N])^ci b;let{o,p,h}:=qA a^ci b;let i:(fN (ci b)<|a++[N]).fresh=a.flatten.length:=by
  rw[rJ];change(fN (ci b) a).taken=_;rw[h];show Tc _
 let c:(fN (ci b)<|a++[N]).last=lK (fN (ci b)<|a++[N]).steps (fN (ci b)<|a++[N]).fresh:=by
  rw[rJ];rfl
 let j:∀s∈(fN (ci b)<|a++[N]).steps,ij s (0+(a++[N]).flatten.length):=λs f=>by
  rw[e]at f;let{k,d,rfl}:=Q6.mp f;let{_,l,m}:=wE _ _ _ k d;show ij.CI _^ij.start l m
 have:=MG (lm:=fN (ci b)<|a++[N]) (lm0:=cn (ci b) (a++[N]).flatten) j (by rw[e];rfl) (by rw[g];rfl) A2 c;rw[this,i];rfl
end FL
namespace FL
open PySem L2
abbrev bA:=List D×List^List D
abbrev aS:=List D×(Nat×List Nat)
def bJ (h:List D)(w:aN):List D:=h.map^cF w.1
def cY (h:List D)(n:Nat):List aN->List^List D->List aS
 |[],_=>[]
 |w::r,T=>if bJ h w∈T then cY h n r T else(bJ h w,(n,w.2))::cY h n r (T++[bJ h w])
def aJ (rs:List aS):List^List D:=rs.map (·.1)
def qH (a b:List aS):aJ (a++b)=aJ a++aJ b:=Rl
section
variable {h:List D}{n:Nat}
def nU{T:ZW}(e:bJ h w∈T):cY h n (w::r) T=cY h n r T:=by
 change(if bJ h w∈T then _ else _)=_;rw[Q0 e]
def qC{T:ZW}(e:bJ h w∉T):cY h n (w::r) T=(bJ h w,(n,w.2))::cY h n r (T++[bJ h w]):=by
 change(if bJ h w∈T then _ else _)=_;rw[QV e]
theorem Dh:∀(a b:List aN) (T:ZW),(∀w∈a,bJ h w∈T)->cY h n (a++b) T=cY h n b T
 |[],b,T,_=>rfl
 |w::r,b,T,c=>by
  rw[U7,nU^c w QQ];show Dh r b T λx d=>c x^QM _ d
theorem uG (p:aN->Bool):∀(a:List aN) (T:ZW),(∀w∈a,p w=fF->bJ h w∈T)->cY h n (a.filter p) T=cY h n a T
 |[],T,_=>rfl
 |w::r,T,d=>by
  let b:∀x∈r,p x=fF->bJ h x∈T:=λx c=>d x^QM _ c
  by_cases e:p w=bU
  .rw[Tg,Q0 e]
   by_cases z:bJ h w∈T
   .rw[nU z,nU z,uG p r T b]
   .rw[qC z,qC z,uG p r _ λx c q=>Q2 _^b x c q]
  .rw[Tg,QV e,nU^d w QQ (by simpa using e),uG p r T b]
theorem sC:∀(g:List aN) (T:ZW) (x:aS),x∈cY h n g T->x.2.1=n/\x.1∉T/\∃w∈g,x.1=bJ h w/\x.2.2=w.2
 |[],T,x,a=>nomatch a
 |w::r,T,x,a=>by
  by_cases z:bJ h w∈T
  .rw[nU z]at a
   let{b,c,v,d,f}:=sC r T x a;show{b,c,v,QM _ d,f}
  .rw[qC z]at a
   rcases QZ.mp a with e|e
   .rw[e];show{A2,z,w,QQ,A2,A2}
   .let{b,c,v,d,f}:=sC r _ x e;show{b,λq=>c^Q2 _ q,v,QM _ d,f}
theorem yd:∀(b:List aN) (T:ZW),∀w∈b,bJ h w∈T\/bJ h w∈aJ^cY h n b T
 |[],T,w,a=>nomatch a
 |v::r,T,w,a=>by
  by_cases z:bJ h v∈T
  .rw[nU z]
   rcases QZ.mp a with e|e
   .rw[e];show .inl z
   .show yd r T w e
  .rw[qC z]
   rcases QZ.mp a with e|e
   .rw[e];show .inr QQ
   .rcases yd r (T++[bJ h v]) w e with q|q
    .rcases Rc.mp q with q|q
     .show .inl q
     .rw[Rg.mp q];show .inr QQ
    .show .inr^QM _ q
theorem wt:∀(a:List aN) (T:ZW),(aJ^cY h n a T).Nodup
 |[],T=>Tq
 |v::r,T=>by
  by_cases z:bJ h v∈T
  .rw[nU z];show wt r T
  .rw[qC z]
   show Th.mpr {λq=>?_,wt r _};let{x,b,e}:=Q6.mp q;let{_,c,_}:=sC r _ x b;show c^by rw[e];show Q1 _^Rg.mpr A2
end
def bG:Nat->List (List D×List aN)->List^List D->List aS
 |_,[],_=>[]
 |n,q::r,T=>cY q.1 n q.2 T++bG (n+1) r (T++aJ^cY q.1 n q.2 T)
theorem GS (p:aN->Bool):∀(L:List (ZZ×List aN)) (n:Nat) (T:ZW),(∀q∈L,∀w∈q.2,p w=fF->bJ q.1 w∈T)->bG n (L.map λq=>(q.1,q.2.filter p)) T=bG n L T
 |[],n,T,_=>rfl
 |q::r,n,T,a=>by
  change cY q.1 n (q.2.filter p) T++bG (n+1) (r.map _) (T++aJ^cY q.1 n (q.2.filter p) T)=_;rw[uG p q.2 T^a q QQ,GS p r _ _ λx b w c e=>Q2 _^a x (QM _ b) w c e];rfl
theorem Ad:∀(a b:List (ZZ×List aN)) (n:Nat) (T:ZW),bG n (a++b) T=bG n a T++bG (n+a.length) b (T++aJ^bG n a T)
 |[],b,n,T=>by
  change bG n b T=bG n b (T++[]);rw[Ro]
 |q::r,b,n,T=>by
  let c:aJ^bG n (q::r) T=aJ^cY q.1 n q.2 T++aJ (bG (n+1) r<|T++aJ^cY q.1 n q.2 T):=qH _ _;rw[c,<-RI];change cY q.1 n q.2 T++bG (n+1) (r++b) _=cY q.1 n q.2 T++bG (n+1) r _++bG _ b _;rw[Ad r b<|n+1,RI,Rw,show n+1+r.length=n+(r.length+1)by omega];show(RI _ _ _).symm
theorem uc:∀(L:List (ZZ×List aN)) (n:Nat) (T:ZW) (x:aS),x∈bG n L T->x.1∉T/\∃(i:Nat) (q:ZZ×List aN),L[i]?=!q/\x.2.1=n+i/\∃w∈q.2,x.1=bJ q.1 w/\x.2.2=w.2
 |[],n,T,x,a=>nomatch a
 |q::r,n,T,x,a=>by
  rcases Rc.mp a with z|z
  .let{b,f,w,g,c}:=sC q.2 T x z;show{f,0,q,A2,b,w,g,c}
  .let{b,i,h,d,f,c}:=uc r _ _ x z;show{λe=>b^Q2 _ e,i+1,h,d,by omega,c}
theorem zo:∀(L:List (ZZ×List aN)) (n:Nat) (T:ZW) (q:ZZ×List aN),q∈L->∀w∈q.2,bJ q.1 w∈T\/bJ q.1 w∈aJ^bG n L T
 |[],n,T,q,b,_,_=>nomatch b
 |a::r,n,T,q,b,w,c=>by
  change _\/_∈aJ (cY a.1 n a.2 T++bG (n+1) r _);rw[qH];rcases QZ.mp b with e|e
  .subst e;rcases yd (n:=n) q.2 T w c with z|z
   .show .inl z
   .show .inr^Q2 _ z
  .rcases zo r (n+1) (T++aJ^cY a.1 n a.2 T) q e w c with z|z
   .rcases Rc.mp z with z|z
    .show .inl z
    .show .inr^Q2 _ z
   .show .inr^Q1 _ z
theorem za:∀(L:List (ZZ×List aN)) (n:Nat) (T:ZW),(aJ^bG n L T).Nodup
 |[],n,T=>Tq
 |q::r,n,T=>by
  change(aJ<|cY q.1 n q.2 T++bG (n+1) r _).Nodup;rw[qH,T3];show{wt _ _,za r _ _,λa c b d e=>?_};let{x,f,rfl}:=Q6.mp d;let{g,_}:=uc r _ _ x f;show g^Q1 _ (by rw[<-e];show c)
end FL
namespace FL
open PySem L2
def cZ (T:`j):List (List aH×V):=T.map λf=>(cx f,V.bl bU)
theorem yO(a:bV f):∀{T:ZW},(∀g∈T,bV g)->(bD (cZ T)^cx f).isSome=fT (f∈T)
 |[],_=>rfl
 |g::r,b=>by
  let c:=yO a (T:=r) λx d=>b x^QM _ d
  by_cases e:g=f
  .subst e;rw[show cZ (g::r)=(cx g,V.bl bU)::cZ r from A2,ii (p:=(cx g,V.bl bU)) A2];simp
  .let h:¬cx g=cx f:=λz=>e^sw (b g QQ) a z;let i:¬f=g:=λz=>e z.symm;rw[show cZ (g::r)=(cx g,V.bl bU)::cZ r from A2,ic (p:=(cx g,V.bl bU)) h,c];simp[i]
def EW(a:bV f){T:ZW}(b:∀g∈T,bV g):cr (cZ T) (cx f)^V.bl bU=cZ (if f∈T then T else T++[f]):=by
 unfold cr;rw[ml,yO a b];by_cases e:f∈T
 .rw[Q0^Q9 e,Q0 e]
  unfold cZ;rw[Rz];show Rq λg _=>?_;change(if cx g=cx f then(cx g,V.bl bU)else(cx g,V.bl bU))=_;split<;>rfl
 .rw[QV (by rw[Ri e];show QW),QV e]
  unfold cZ;rw[Rl];rfl
def Go (T:ZW):(cZ T).length=T.length:=by unfold cZ;rw[QP]
def gR (f:List D):Prop:=bV f/\∀x∈f,aG x=fF
def cm (x:aS):D:=.tup [.tup x.1,.int ((x.2.1:Nat):Int),.tup^x.2.2.map λn=>D.int (n:Nat)]
def aR (r:bA):D:=.tup [.tup r.1,cB r.2]
abbrev nJ (vr:V)(ll td:vb):List (Str×V):=[("rules",vr),("looms",.ref ll),("told",.ref td)]
structure sy (K:kc)(C:vb):Prop where
 cl:eX K C
 nR:cQ K C "rules"
 nL:cQ K C "looms"
 nT:cQ K C "told"
structure sK (lm:cj)(h:List D)(R:aN->Prop)(sz:Nat->Nat):Prop where
 run:lO sz lm.steps
 r0:R ([],[])
 rs:∀w,R w->∀x∈cI lm w,R x
 cC:∀x∈h,x.sc=bU
 hl:h.length<=100
 flat:∀w,R w->w.2.length=lm.steps.length->∀y∈bJ h w,aG y=fF
 skip:∀w,R w->(∀y∈bJ h w,aG y=fF)->∀x∈dk lm (ck lm w) w,bJ h x=bJ h w
theorem Dr{a:cj}{R:aN->Prop}(h:lO c a.steps)(i:∀w,R w->∀x∈cI a w,R x):∀(m:Nat) (w:aN),w.2.length+m=a.steps.length->GoodW c a.steps w->R w->∀x∈dk a m w,R x/\GoodW c a.steps x/\x.2.length=a.steps.length
 |0,w,j,d,e,x,f=>by rw[Rg.mp f];show{e,d,by omega}
 |m+1,w,j,d,e,x,f=>by
  let{y,b,g}:=RY.mp f;rw[SS]at b;have:=lJ b;show Dr h i m y Z4 (FV h d y b) (i w e y b) x g
def BD {h:ZZ}{w:aN}(a:∀x∈h,x.sc=bU)(b:∀p∈w.1,p.2.sc=bU):bV^bJ h w:=λx c=>by
 let{y,d,rfl}:=Q6.mp c;show(mY (a y d) b).2
def sK.qJ(a:sK e h R g):∀w∈gI e,gR^bJ h w:=λw f=>by
 unfold gI at f;let{b,c,i}:=RY.mp f;let d:b=([],[]):=by
  unfold fg at c;split at c
  .cases c
  .split at c
   .show Rg.mp c
   .cases c
 subst d;let{j,k,l}:=Dr a.run a.rs _ ([],[]) (by unfold ck;simp) (GoodW.nil a.run) a.r0 w i;show{BD a.cC λp m=>(k.ok p m).1,a.flat w j l}
def C6 (C CL CW:vb):Sp:=λvs H Q _=>∃(M:List vb) (lm:cj) (a dx:vb) (vr:V) (ll td:vb) (rules:List bA) (num:Nat) (h:List D) (body T:`j) (R:aN->Prop) (sz:Nat->Nat) (v2:V),vs=[.ref a,.int ((num:Nat):Int),v2]/\av M H/\but H M a=!.ins CW dx^nJ vr ll td/\td∈M/\H td=!.dT^cZ T/\(∀g∈T,gR g)/\ap `a vr^.lst^rules.map aR/\rules[num]?=!(h,body)/\jT C CL `a v2 lm/\lm.steps.length<=100/\sK lm h R sz/\T.length+eE lm lm.steps.length ([],[])<se/\
 ∀p us H',(∀b u,b≠td->H b=!u->H' b=!u)->H p=bF->H' p=!.lst us->aF (but H' (p::M)) us^(cY h num (gI lm) T).map cm->H' td=!.dT^cZ (T++aJ^cY h num (gI lm) T)->Q (.ref p) H'
end FL
namespace FL
open PySem L2
theorem D3 (facts:ZW):∀(asks:ZW) (B:ZY) (W:ZW) (k:Nat) (a:ZZ),asks[k]?=!a->∃gs,(O5.dq facts asks B W)[k]?=!{dB a^ba B^asks.take k,fi a facts^ba B^asks.take k,gs}
 |[],_,_,k,a,h=>by simp at h
 |c::r,B,W,0,a,h=>by
  let h:c=a:=by simpa using h
  subst h;show{_,A2}
 |c::r,B,W,k+1,a,h=>by
  let{gs,e}:=D3 facts r (al B c) (W.filter λg=> not^cK g^al B c) k a (by simpa using h);show{gs,e}
def Nx (as facts:ZW):((cn (ci as) facts).steps.map eI)=O5.fG facts as:=(uk facts _ [] _).1
def Qm {bs body facts:ZW}{lm:cj}(hI:BI bs body)(hs:lm.steps=(cn (ci body) facts).steps){w:aN}{V:Str->D}(hw:w.1=ax V^ba []^bs.take w.2.length){x:aN}(hx:x∈cI lm w):
  w.2.length<bs.length/\∃V' g,g∈facts/\(∀b∈ba [] (bs.take w.2.length),V' b=V b)/\x.1=ax V'^ba []^bs.take x.2.length/\∀a,bs[w.2.length]?=!a->g=a.map^aX V':=by
 let hxl:=lJ hx;unfold cI at hx;split at hx
 .rename_i st hst
  let hmap:(lm.steps.map eI)[w.2.length]?=!eI st:=by rw[QY,hst];rfl
  let e1:lm.steps.map eI=O5.dq facts bs []^(body.filter aO).filter dH:=by
   rw[hs,Nx];unfold O5.fG;rw[hI.ask]
  rw[e1]at hmap;let hlt:w.2.length<bs.length:=by
   have:=(QN.mp hmap).1;rw[O5.ou]at this;show this
  let ha:=QO hlt;show{hlt,?_};let{gs,e2}:=D3 facts bs [] ((body.filter aO).filter dH) w.2.length _ ha;rw[hmap]at e2;let e2:=Q5 e2;let hx0:x∈fX st w 0:=by
   unfold fX at hx⊢;let{h1,h2}:=Q4.mp hx;show Q4.mpr {?_,h2};let{o,ho,rfl}:=Q6.mp h1;show Q6.mpr {o,?_,A2};rw[sN λo _=>by unfold fresh;show Q9 Z4];show(T6 _).subset ho
  rw[DV,SS,e2]at hx0;let hB:cL^ba []^bs.take w.2.length:=jh fj;let hgood:=hI.good _^Sr hlt;unfold O5.jv at hx0;let hx1:=(Q4.mp hx0).1;let{S,pl}:=w;let hw:S=ax V^ba []^bs.take pl.length:=hw;subst hw;let hx1:x∈pZ (fi bs[pl.length] facts^ba []^bs.take pl.length) (gZ (ax V^ba []^bs.take pl.length)^dB bs[pl.length]^ba []^bs.take pl.length) (ax V^ba []^bs.take pl.length,pl):=hx1;rw[O5.AO,zc hB hgood]at hx1;let{Sx,plx}:=x;let{i,g,hg,hm,e3}:=qw.mp hx1;let{V',h1,h2,h3}:=kn hB hm;show{V',g,QT hg,h1,?_,λa haa=>?_}
  .let hxl:plx.length=pl.length+1:=hxl;change Sx=ax V'^ba []^bs.take plx.length;rw[h2,hxl,Rs,ha];congr 1;change _=List.foldl al [] (bs.take pl.length++[bs[pl.length]]);rw[R1];rfl
  .have:bs[pl.length]?=!a:=haa;rw[ha]at this;cases this;show h3
 .cases hx
def vQ (bs:`j)(w:aN):Prop:=∃V,w.1=ax V^ba []^bs.take w.2.length/\(∀b∈ba [] (bs.take w.2.length),aG^V b=fF)/\w.2.length<=bs.length
def Le{V f:Str->D}(i:cL B)(c:cL a)(j:∀b∈B,b∈a/\f b=V b)(h:aG^cF (ax V B) y=fF):cF (ax f a) y=cF (ax V B) y:=by
 by_cases e:aG y=bU
 .by_cases d:y.name∈B
  .let{k,l}:=j _ d;rw[jD e,pW d,pW k,l]
  .exfalso;have:cF (ax V B) y=y:=lG (by rw[zX e];show Ri d);rw[this,e]at h;cases h
 .let g:aG y=fF:=by simpa using e
  rw[lG^qy i g,lG^qy c g]
def Dc{n:cj}(u:BI c d)(v:n.steps=(cn (ci d) a).steps)(A:∀g∈a,gR g)(B:vQ c w)(o:x∈cI n w):vQ c x/\((∀y∈bJ h w,aG y=fF)->bJ h x=bJ h w):=by
 let{V,i,C,H}:=B;let{j,p,g,E,q,r,G}:=Qm u v i o;let k:=lJ o;let s:=QO j;let t:ba []^c.take x.2.length=al (ba []^c.take w.2.length) c[w.2.length]:=by
  rw[k,Rs,s];change List.foldl al [] (c.take w.2.length++[c[w.2.length]])=_;rw[R1];rfl
 show{{p,r,λb f=>?_,by omega},λl=>?_}
 .rw[t]at f
  rcases z8 f with z|⟨y,m,e,rfl⟩
  .rw[q b z];show C b z
  .have:aX p y∈g:=by rw[G _ s];show Sy m
   have:=(A g E).2 _ this;unfold aX at this;rw[Q0 e]at this;show this
 .unfold bJ;show Rq λy m=>?_;rw[i,r];show Le (jh fj) (jh fj) (λb f=>{?_,q b f}) ?_
  .rw[t];show vO f
  .have:=l (cF w.1 y)^Sy m;rw[i]at this;show this
theorem F4{j:cj}(k:BI i b)(l:j.steps=(cn (ci b) a).steps)(n:∀g∈a,gR g):∀(m:Nat) (w:aN),vQ i w->(∀y∈bJ h w,aG y=fF)->∀x∈dk j m w,bJ h x=bJ h w
 |0,w,_,_,x,e=>by rw[Rg.mp e]
 |m+1,w,p,c,x,e=>by
  let{y,o,f}:=RY.mp e;rw[SS]at o;let{q,d}:=Dc (h:=h) k l n p o;let d:=d c;rw[<-d];show F4 k l n m y q (by rw[d];show c) x f
def Cz{q:cj}{h:ZZ}(j:BI m c)(o:q.steps=(cn (ci c) d).steps)(s:∀g∈d,kf g/\gR g)(t:d.length<=200)(L:c.length<=10)(M:∀x∈h,x.sc=bU)(N:h.length<=100)(u:∀y∈h,aG y=bU->y.name∈ba [] m):
  sK q h (vQ m)^λk=>(ba []^(c.filter λa=> not^aO a).take k).length:=by
 let f:=j.at_;let l:∀k,(ba []^(c.filter λa=> not^aO a).take k).length<=500:=λk=>by
  rw[j.ask];let p:=EO (B:=[]) (as:=m.take k) λa v=>by
   have:=Tr v;rw[<-j.ask]at this;show(f a (Q4.mp this).1).len
  let A:=j.pO;let T:(m.take k).length<=3:=by rw[Rr];omega
  rw[SI]at p;omega
 let O:=Jt (facts:=d) (λg i=>(s g i).1) t (λa v=>(f a v).kK) Z4 (λg i e=>by
  let{r,x,y,rfl}:=(j.gd g i e).1;show{(f _ i).kK,r,x,y,A2,(f _ i).hd}) l
 let C:q.steps.length=m.length:=by
  rw[o];change((fG c).map _).length=_;rw[QP];unfold fG;rw[ou,j.ask]
 show{by rw[o];show O,{λ_=>.aw,A2,(λb u=>nomatch u),Rk _},λw n x E=>(Dc (h:=h) j o (λg i=>(s g i).2) n E).1,M,N,λw n G y Q=>?_,λw n H x E=>F4 j o (λg i=>(s g i).2) _ w n H x E};let{V,p,A,_}:=n;rw[G,C,Sd]at p A;let{z,t,rfl}:=Q6.mp Q;rw[p];by_cases e:aG z=bU
 .let I:=u z t e;rw[jD e,pW I];show A _ I
 .let J:aG z=fF:=by simpa using e
  rw[lG^qy (jh fj) J];show J
def Qd(b:cj)(w:aN)(c:∀s∈b.steps,s.of.length<=F):(cI b w).length<=F:=by
 unfold cI;split
 .rename_i st a
  show Rh ?_^c st^QT a;unfold fX;show Rh (Rv _ _) ?_;rw[QP];show Rh (T6 _).length_le ?_;rw[Vh];show Rv _ _
 .show Rk _
theorem BR (lm:cj){F:Nat}(hF:∀s∈lm.steps,s.of.length<=F):∀(n:Nat) (w:aN),eE lm n w<=O5.pw F n
 |0,_=>QU _
 |n+1,w=>by
  change 1+((cI lm w).map^eE lm n).sum<=1+F*O5.pw F n;let h1:=O5.DY (eE lm n) (O5.pw F n) (cI lm w) λx _=>BR lm hF n x;let h2:=Nat.mul_le_mul_right (O5.pw F n)^Qd lm w hF;omega
def Cn {body facts bs:ZW}{lm:cj}(hI:BI bs body)(hs:lm.steps=(cn (ci body) facts).steps)(hz:facts.length<=200):eE lm lm.steps.length ([],[])<=8100000:=by
 let hof:∀s∈lm.steps,s.of.length<=200:=λs hsm=>by
  rw[hs]at hsm;let{s0,h0,rfl}:=Q6.mp hsm;let h1:=Bc s0 0 facts;let{_,e,_}:=wE _ _ _ s0 h0;rw[e,SI]at h1;show Rh h1 Z4
 let hsl:lm.steps.length=bs.length:=by
  rw[hs];change((fG body).map _).length=_;rw[QP];unfold fG;rw[ou,hI.ask]
 let h3:=hI.pO;let h1:=BR lm hof lm.steps.length ([],[]);let h2:∀n,n<=3->O5.pw 200 n<=8100000:=λn hn=>by
  have:n=0\/n=1\/n=2\/n=3:=by omega
  rcases this with rfl|rfl|rfl|rfl<;>decide
 show Rh h1^h2 _ Z4
end FL
namespace FL
open PySem L2
mutual
theorem ap.sE {H:Hp}{M own:List vb}(hk:∀a∈own,∀ts,H a≠!.tup ts):∀{v:V} {d:D},d.gx=bU->ap (but H M) v d->ap (but H (own++M)) v d
 |_,_,_,.aw=>.aw
 |_,_,_,.bl b=>.bl b
 |_,_,_,.int b=>.int b
 |_,_,_,.str b=>.str b
 |_,_,hd,.tup (a:=c) h r=>by
  show .tup ?_^aF.sE hk (by rw[D.gx]at hd;show hd) r
  let{h1,h2}:=ay h
  rw[bv]
  ·show h2
  ·intro z
   rcases mem_append.mp z with z|z
   ·show hk c z _ h2
   ·show h1 z
 |_,_,hd,.lst _ _=>by cases hd
theorem aF.sE {H:Hp}{M own:List vb}(hk:∀a∈own,∀ts,H a≠!.tup ts):∀{vs:List V} {ds:List D},D.je ds=bU->aF (but H M) vs ds->aF (but H (own++M)) vs ds
 |_,_,_,.nil=>.nil
 |_,_,hd,.cons h r=>by
  rw[D.je,Bool.and_eq_true]at hd
  show .cons (ap.sE hk hd.1 h)^aF.sE hk hd.2 r
end
section
variable {C CL:vb}{H H':Hp}{Z Z':List vb}{a:vb}{oss:List^List vb}{lm:cj}
def iX.frame (h:iX C CL H Z a oss lm)(d:∀x∈a::oss.flatten,x∈Z')(k:∀b u,b∈a::oss.flatten->H b=!u->H' b=!u)(S:ae (but H Z)^but H' Z'):iX C CL H' Z' a oss lm:=by
 let{f,g,i,j,l,m,r,n}:=h;show{f,g,i,k _ _ QQ j,S _ _ l,m.Eh (λos c x o=>d x^QM _^RE.mpr {os,c,o}) (λb u p e=>by let{os,c,q}:=p;show k b u (QM _^RE.mpr {os,c,q}) e) S,d _ QQ,n}
def iX.HV (h:iX C CL H Z a oss lm):∀x∈a::oss.flatten,∀d,H x≠!.tup d:=λx l d e=>by
 let{v,y,A,m,B,f,E,G}:=h;rcases QZ.mp l with z|z
 .rw[z,m]at e;cases e
 .let{os,n,o}:=RE.mp z;let{j,g}:=RD.mp n;let c:j<lm.steps.length:=by rw[<-f.l2];show(QN.mp g).1
  let{b,p,_,i,{r,I,J,L,M,N,O,s,t,_,_,_,k},_}:=f.get j _^QO c;rw[g]at i;cases i;subst s;rcases QZ.mp o with w|w
  .rw[w,t]at e;cases e
  .rcases QZ.mp w with w|w
   .let{u,q,_}:=k.kvs;rw[w,q]at e;cases e
   .let{Q,q}:=k.lists x w;rw[q]at e;cases e
end
structure dR (C CL:vb)(H:Hp)(Z:List vb)(us:List V)(osss:List^List vb)(lms:List cj):Prop where
 l1:us.length=lms.length
 l2:osss.length=lms.length
 get:∀(j:Nat) lm,lms[j]?=!lm->∃a oss,us[j]?=!.ref a/\osss[j]?=!a::oss.flatten/\iX C CL H Z a oss lm/\∀x∈a::oss.flatten,x∈Z
 apart:∀(i j:Nat) oi oj,i≠j->osss[i]?=!oi->osss[j]?=!oj->∀x∈oi,x∉oj
section
variable {C CL:vb}{H H':Hp}{Z Z':List vb}{us:List V}{osss:List^List vb}{lms:List cj}
def dR.gw (h:dR C CL H Z us osss lms):∀os∈osss,∀x∈os,x∈Z:=λos d x f=>by
 let{j,c}:=RD.mp d;let b:j<lms.length:=by rw[<-h.l2];show(QN.mp c).1
 let{a,g,_,e,_,i}:=h.get j _^QO b;rw[c]at e;cases e;show i x f
theorem dR.frame (h:dR C CL H Z us osss lms)(f:∀os∈osss,∀x∈os,x∈Z')(k:∀b u,(∃os∈osss,b∈os)->H b=!u->H' b=!u)(S:ae (but H Z)^but H' Z'):dR C CL H' Z' us osss lms:=
 {h.l1,h.l2,λj i l=>by
  let{a,c,m,g,A,_}:=h.get j i l;let d:=QT g;show{a,c,m,g,A.frame (f _ d) (λb u n e=>k b u {_,d,n} e) S,f _ d},h.apart}
def dR.put{j:Nat}{os:ZX}{d:List ZX}(h:dR C CL H Z us osss lms)(l:av Z H)(hj:lms[j]?=!Y)(ha:us[j]?=!.ref a)(J:osss[j]?=!os)(p:a∈os)(n:∀x∈d.flatten,x∈os\/H x=bF)
  (k:∀b u,b∉os->H b=!u->H' b=!u) (A:iX C CL H' (d.flatten++Z) a d v):dR C CL H' (d.flatten++Z) us (osss.set j (a::d.flatten))^lms.set j v:=by
 let s:=h.gw os^QT J
 let t:j<osss.length:=(QN.mp J).1;let L:j<lms.length:=(QN.mp hj).1;let S:ae (but H Z) (but H'<|d.flatten++Z):=λb u e=>by
  let{M,N}:=ay e;rw[bv]
  .show k b u (λz=>M^s b z) N
  .intro z;rcases Rc.mp z with z|z
   .rcases n b z with w|w
    .show M^s b w
    .rw[w]at N;cases N
   .show M z
 let y:∀x∈a::d.flatten,x∈os\/H x=bF:=λx f=>by
  rcases QZ.mp f with z|z
  .rw[z];show .inl p
  .show n x z
 let E:∀(i:Nat) (r:ZX),i≠j->osss[i]?=!r->∀x∈a::d.flatten,x∉r:=λi r G g x f z=>by
  rcases y x f with w|w
  .show h.apart j i os r (RG G) J g x w z
  .show l x (h.gw r (QT g) x z) w
 show{by rw[Sv];show h.l1,by rw[Sv,Sv];show h.l2,λi m g=>?_,λi O r I G g o x f z=>?_}
 .by_cases e:j=i
  .subst e;rw[Q3 L]at g;cases g;show{a,d,ha,Q3 t,A,λx f=>?_};rcases QZ.mp f with w|w
   .rw[w];show Q1 _^s a p
   .show Q2 _ w
  .rw[QS e]at g
   let{b,ob,e1,Q,B,T}:=h.get i m g;show{b,ob,e1,by rw[QS e];show Q,B.frame (λx f=>Q1 _^T x f) (λc u hc q=>k c u (λw=>h.apart j i os _ e J Q c w hc) q) S,λx f=>Q1 _^T x f}
 .by_cases e:j=i
  .subst e;rw[Q3 t]at g;cases g;rw[QS G]at o;show E O I (RG G) o x f z
  .rw[QS e]at g
   by_cases U:j=O
   .subst U;rw[Q3 t]at o;cases o;show E i r (RG e) g x z f
   .rw[QS U]at o
    show h.apart i O r I G g o x f z
end
def dN (T fs:`j):List^List D:=fs.foldl (λT f=>if f∈T then T else T++[f]) T
def J6 (T a:ZW)(f:ZZ):dN T (a++[f])=if f∈dN T a then dN T a else dN T a++[f]:=by
 unfold dN;rw[R1];rfl
theorem zr:∀(a T:ZW) (g:ZZ),g∈dN T a↔g∈T\/g∈a
 |[],T,g=>{.inl,λh=>h.elim id λz=>nomatch z}
 |f::r,T,g=>by
  change g∈dN (if f∈T then T else T++[f]) r↔_;rw[zr r];by_cases e:f∈T
  .rw[Q0 e]
   constructor
   .rintro(h|h)
    .show .inl h
    .show .inr^QM _ h
   .rintro(h|h)
    .show .inl h
    .rcases QZ.mp h with z|z
     .rw[z];show .inl e
     .show .inr z
  .rw[QV e]
   constructor
   .rintro(h|h)
    .rcases Rc.mp h with z|z
     .show .inl z
     .rw[Rg.mp z];show .inr QQ
    .show .inr^QM _ h
   .rintro(h|h)
    .show .inl^Q2 _ h
    .rcases QZ.mp h with z|z
     .rw[z];show .inl^Q1 _^Rg.mpr A2
     .show .inr z
theorem Ga:∀(a T:ZW),T.length<=(dN T a).length
 |[],T=>QU _
 |f::r,T=>by
  change T.length<=(dN (if f∈T then T else T++[f]) r).length;have:=Ga r^if f∈T then T else T++[f]
  show Rh ?_ this;split
  .show QU _
  .rw[Q7];omega
def N5 (T a:ZW)(j:Nat):(dN T^a.take j).length<=(dN T a).length:=by
 let e:dN T a=dN (dN T^a.take j)^a.drop j:=by
  unfold dN;rw[<-R1,Tk]
 rw[e];show Ga _ _
theorem D6:∀(a T:ZW),(T++a).Nodup->dN T a=T++a
 |[],T,_=>by rw[Ro];rfl
 |f::r,T,h=>by
  let b:f∉T:=λz=>by
   rw[T3]at h;show h.2.2 f z f QQ A2
  change dN (if f∈T then T else T++[f]) r=_;rw[QV b,D6 r (T++[f]) (by rw[RI];show h),RI];rfl
theorem yF:∀(a T:ZW),(∀f∈a,f∈T)->dN T a=T
 |[],T,_=>rfl
 |f::r,T,h=>by
  change dN (if f∈T then T else T++[f]) r=_;rw[Q0^h f QQ,yF r T λg b=>h g^QM _ b]
def gq (rules:List bA)(lms:List cj)(facts:`j):List (List D×List aN):=(rules.zip lms).map λq=>(q.1.1,gI^cn q.2 facts)
structure tG (rules:List bA)(lms:List cj)(T facts:`j):Prop where
 sL:∀g∈facts,kf g/\gR g
 tok:∀g∈T,gR g
 dz:∀lm∈lms,lm.steps.length<=100/\lm.taken+facts.length<2^60/\∀s∈lm.steps,d9 s.db/\s.of.length+facts.length<1000
 give:∀(j:Nat) r lm,rules[j]?=!r->lms[j]?=!lm->∃R sz,sK (cn lm facts) r.1 R sz/\eE (cn lm facts) (cn lm facts).steps.length ([],[])<=8100000
 len:rules.length=lms.length
 all:(dN T facts++aJ^bG 0 (gq rules lms facts)^dN T facts).length<=1000
def C7 (C CL CW:vb):Sp:=λvs H Q _=>∃(Z:List vb) (a dx:vb) (vr:V) (ll td:vb) (us:List V) (osss:List^List vb) (rules:List bA) (lms:List cj) (T facts:`j) (v1:V),vs=[.ref a,v1]/\av Z H/\but H Z a=!.ins CW dx^nJ vr ll td/\but H Z ll=!.lst us/\dR C CL H Z us osss lms/\td∈Z/\(∀os∈osss,td∉os)/\H td=!.dT^cZ T/\ap (but H Z) vr^.lst^rules.map aR/\ap (but H Z) v1^.lst^facts.map D.tup/\tG rules lms T facts/\
 ∀v H' Z' osss',(∀b u,b≠td->(∀os∈osss,b∉os)->H b=!u->H' b=!u)->(∀x∈Z,x∈Z')->(∀x∈Z',x∈Z\/H x=bF)->av Z' H'->dR C CL H' Z' us osss' (lms.map λlm=>cn lm facts)->(∀os∈osss',∀x∈os,(∃o∈osss,x∈o)\/H x=bF)->H' td=!.dT^cZ (dN T facts++aJ^bG 0 (gq rules lms facts)^dN T facts)->ap (but H' Z') v^.lst^(bG 0 (gq rules lms facts)^dN T facts).map cm->Q v H'
def wN (x:aS)(h:bV x.1):(cm x).gx=bU:=by
 show uP λy a=>?_;simp only[QZ,Rt,RH]at a;rcases a with rfl|rfl|rfl
 .show iM h
 .rfl
 .show iM λz b=>by
   let{n,_,rfl}:=Q6.mp b;rfl
end FL
namespace FL
open PySem L2
section
variable {C CL:vb}{H H':Hp}{Z:List vb}{us:List V}{osss:List^List vb}{lms:List cj}
def dR.nil {us:List V}(h:us=[]):dR C CL H Z us [] []:={by rw[h];rfl,A2,λj a q=>by simp at q,λi j b c _ q=>by simp at q}
def dR.snoc{c:List ZX}(h:dR C CL H Z us osss lms)(l:av Z H)(I:H x=bF)(N:∀os∈c,∀y∈os,H y=bF)(k:∀b u,H b=!u->H' b=!u)(A:iX C CL H' (c.flatten++x::Z) x c G):dR C CL H' (c.flatten++x::Z) (us++[.ref x]) (osss++[x::c.flatten]) (lms++[G]):=by
 let J:∀y∈x::c.flatten,H y=bF:=λy d=>by
  rcases QZ.mp d with z|z
  .rw[z];show I
  .let{os,v,w}:=RE.mp z;show N os v y w
 let S:ae (but H Z)^but H' (c.flatten++x::Z):=λb u e=>by
  let{s,f}:=ay e;rw[bv]
  .show k b u f
  .intro z;rcases Rc.mp z with z|z
   .rw[J b^QM _ z]at f;cases f
   .rcases QZ.mp z with z|z
    .rw[z,I]at f;cases f
    .show s z
 let O:=h.frame (Z':=c.flatten++x::Z) (λos v y d=>Q1 _^QM _^h.gw os v y d) (λb u _ e=>k b u e) S;let E:∀t∈osss,∀y∈x::c.flatten,y∉t:=λt v y d z=>l y (h.gw t v y z)^J y d
 show{by rw[Q7,Q7,h.l1];rfl,by rw[Q7,Q7,h.l2];rfl,λj m g=>?_,λi j t L M Q g y d z=>?_}
 .by_cases e:j<lms.length
  .rw[Rj e]at g
   let{a,T,U,Y,B,hz}:=O.get j m g;show{a,T,by rw[Rj^by rw[h.l1];show e];show U,by rw[Rj^by rw[h.l2];show e];show Y,B,hz}
  .rw[Rn^RA e]at g
   let p:j-lms.length=0:=by
    have:=(QN.mp g).1;simp at this;show this
   rw[p]at g;let g:G=m:=by simpa using g
   subst g;show{x,c,by rw[Rn (by rw[h.l1];omega),h.l1,p];rfl,by rw[Rn (by rw[h.l2];omega),h.l2,p];rfl,A,λy d=>?_};rcases QZ.mp d with z|z
   .rw[z];show Q1 _ QQ
   .show Q2 _ z
 .let r:∀{n:Nat} {o:ZX},(osss++[x::c.flatten])[n]?=!o->(n<osss.length/\osss[n]?=!o)\/(n=osss.length/\o=x::c.flatten):=λ{n o} q=>by
   by_cases e:n<osss.length
   .rw[Rj e]at q;show .inl {e,q}
   .rw[Rn^RA e]at q
    let p:n-osss.length=0:=by
     have:=(QN.mp q).1;simp at this;show this
    rw[p]at q;show .inr {by omega,by simpa using q.symm}
  rcases r Q with⟨_,s⟩|⟨n1,s⟩
  .rcases r g with⟨_,f⟩|⟨_,f⟩
   .show h.apart i j t L M s f y d z
   .rw[f]at z;show E t (QT s) y z d
  .rcases r g with⟨_,f⟩|⟨n2,f⟩
   .rw[s]at d;show E L (QT f) y d z
   .show M^n1.trans n2.symm
end
def Jb{g:List bA}{Q:VK}{K:kc}(hw:Walk wi `a σ^g.map aR)(l:av M H)(au:∀r∈g,sP r.2/\vA r.2)(i:g.length<=1000)
  (k:∀D A f s,(∀b u,H b=!u->s b=!u)->H D=bF->s D=!.lst A->(∀os∈f,∀y∈os,H y=bF/\y≠D)->av (f.flatten++M) s->dR C I s (f.flatten++M) A f (g.map λr=>ci r.2)->Q (.ref D) s):
  iU wi (bo [] 1) (cp 0) nu (uw I (yu C I) [] L2.E0^bq (bT (eP K) (aW 0)^tC^.int 1) bM) σ H Q:=hw M H `f l _ λJ O s1 a4 T D hD=>by
 let lf:D∉M:=(l.same s1).fresh hD;let HD:H D=bF:=iW s1 hD;show⟨λj m τ s=>m=(g.map aR).length-j/\j<=(g.map aR).length/\τ.length=1/\(∀b u,O b=!u->s b=!u)/\∃A f,s D=!.lst A/\dR C I s (f.flatten++D::M) A f ((g.take j).map λr=>ci r.2)/\(∀os∈f,∀y∈os,O y=bF/\y≠D)/\av (f.flatten++D::M) s,
  {_,A2,Rk _,A2,λb u e=>by rw[aE^dy e hD];show e,[],[],aM,dR.nil A2,(λos p=>nomatch p),((l.same s1).upd).cons aM},?_⟩
 rintro j m τ s ⟨rfl,hj,a5,kH,A,f,am,hL,hn,hl⟩;let hs:ae (but O M)^but s (f.flatten++D::M):=λb u e=>by
  let{q1,q2}:=ay e;rw[bv]
  .show kH b u q2
  .intro z;rcases Rc.mp z with z|z
   .let{os,p,w}:=RE.mp z;rw[(hn os p b w).1]at q2;cases q2
   .rcases QZ.mp z with z|z
    .rw[z,hD]at q2;cases q2
    .show q1 z
 by_cases an:j<(g.map aR).length
 .let ao:j<g.length:=by simpa using an
  let hr:=QO ao;let hd:(g.map aR)[j]?=!aR g[j]:=by rw[QY,hr];rfl
  let as:=Sr ao;generalize bg:g[j]=r at hr hd as;let{a6,t}:=r;let{go,gy}:=a4 j _ (f.flatten++D::M) s hd hs hl;show .inr {go,λa0 n=>a0.length=1/\(∀b u,O b=!u->n b=!u)/\∃A f,n D=!.lst A/\dR C I n (f.flatten++D::M) A f ((g.take<|j+1).map λr=>ci r.2)/\(∀os∈f,∀y∈os,O y=bF/\y≠D)/\av (f.flatten++D::M) n,
   λa0 n q0=>by let{a,b,c}:=q0;show{(g.map aR).length-(j+1),by omega,A2,an,a,b,c},λx n hy=>?_}
  let{s3,rx}:=gy x n hy;let a1:=hl.same s3;simp only[cp,nu,UE];let h0:(τ.set 0^!x)[0]?=!!x:=Q3 Z4;show(bS (K:=K) (ds:=[.tup a6,cB t]) (d:=cB t) A2 (de h0 rx) ar) (f.flatten++D::M) n `f a1 _ λv L s4 r4=>λy U B a7 bh=>?_;let a2:=a1.same s4;let E:=s4 _ _^s3 _ _ am;let S4:ae L^upd (upd L U^.own y) y^.ins I U []:=λb u e=>by rw[aE^dy e B,aE^dy e a7];show e
  let back:∀{z:vb},(upd (upd L U^.own y) y^.ins I U []) z=bF->L z=bF:=λ{z} e=>iW S4 e;generalize a8:upd (upd L U^.own y) y^.ins I U []=H5 at S4 back;let N:=au _ as;show{f.flatten++D::M,t,y,U,v,A2,by rw[<-a8];show aM,a2.same S4,r4.mono^S4.but _,N.1,N.2,λY H6 k6 n6 l6 L6=>{A2,?_}};let ab:∀b u,L b=!u->H6 b=!u:=λb u e=>k6 b u (dy e B)^S4 _ _ e
  let a9:dR C I L (f.flatten++D::M) A f^(g.take j).map λr=>ci r.2:=hL.frame hL.gw (λb u _ e=>s4 _ _^s3 _ _ e)^(s3.trans s4).but _
  let a3:=a9.snoc a2 B (λos p z i=>back^n6 os p z i) ab L6;let bc:=ab _ _ E;let bd:=hL.l1;rw[QP,Rr]at bd;show{A,bc,cH Z4,by rw[Sv];show a5,λb u e=>?_,A++[.ref y],f++[y::Y.flatten],aM,?_,λos p z i=>?_,?_}
  .rw[aE^dy e hD]
   show ab _ _^s4 _ _^s3 _ _^kH b u e
  .let G:∀z,z∈(f++[y::Y.flatten]).flatten++D::M↔z∈Y.flatten++y::(f.flatten++D::M):=λz=>by
    simp only[R9,RU,SM,Ro,Rc,QZ];constructor<;>(intro h;simp only[or_assoc]at h⊢;rcases h with h|h|h|h|h<;>simp[h])
   let be:(g.take<|j+1).map (λr=>ci r.2)=(g.take j).map (λr=>ci r.2)++[ci t]:=by rw[Rs,hr,Rl];rfl
   rw[be];show a3.frame (λos p z i=>(G z).mpr^a3.gw os p z i) (λb u ⟨os,p,hb⟩ e=>?_) ?_
   .rw[aE λz=>?_]
    .show e
    .subst z;rcases Rc.mp p with w|w
     .show(hn os w _ hb).2 A2
     .rw[Rg.mp w]at hb
      rcases QZ.mp hb with q|q
      .rw[<-q,E]at B;cases B
      .let{o,ac,q'}:=RE.mp q;rw[back^n6 o ac _ q']at E;cases E
   .rw[eo^(G D).mpr^Q1 _^QM _^Q1 _ QQ,mn G]
    show ae.refl _
  .let af:∀{z:vb},L z=bF->O z=bF:=λ{z} e=>by
    cases q:O z with
    |none=>rfl
    |some u=>have:=s4 _ _^s3 _ _^kH z u q;rw[e]at this;cases this
   rcases Rc.mp p with w|w
   .show hn os w z i
   .rw[Rg.mp w]at i
    let aj:L z=bF:=by
     rcases QZ.mp i with q|q
     .rw[q];show B
     .let{o,ac,q'}:=RE.mp q;show back^n6 o ac _ q'
    show{af aj,λq=>by rw[q,E]at aj;cases aj}
  .show av.upd λz i=>l6 z ?_
   simp only[R9,RU,SM,Ro,Rc,QZ]at i⊢;simp only[or_assoc]at i⊢;rcases i with h|h|h|h|h<;>simp[h]
 .let e:j=(g.map aR).length:=by omega
  subst e;rw[QP,Sd]at hL;show .inl {T (f.flatten++D::M) s hs,k D A f s (λb u e=>kH b u^s1 _ _ e) HD am (λos p y hy=>{iW s1 (hn os p y hy).1,(hn os p y hy).2}) (λz i=>hl z ?_) ?_}
  .rcases Rc.mp i with w|w
   .show Q2 _ w
   .show Q1 _^QM _ w
  .show hL.frame (λos p z i=>Q2 _^RE.mpr {os,p,i}) (λb u _ e=>e)^fe λz i=>?_
   rcases Rc.mp i with w|w
   .show Q2 _ w
   .show Q1 _^QM _ w
def Gg (C CL CW:vb):Sp:=λvs H Q _=>∃(M:List vb) (rules:List bA) (x dx:vb) (v1:V),vs=[.ref x,v1]/\H x=!.ins CW dx []/\av M H/\x∉M/\ap `a v1^.lst^rules.map aR/\(∀r∈rules,sP r.2/\vA r.2)/\rules.length<=100/\
 ∀ll td us osss H',(∀b u,b≠x->H b=!u->H' b=!u)->H' x=!.ins CW dx^nJ v1 ll td->H td=bF->H' td=!.dT []->(∀os∈osss,∀y∈os,H y=bF/\y≠td)->but H' (td::(osss.flatten++M)) ll=!.lst us->av (td::(osss.flatten++M)) H'->dR C CL H' (td::(osss.flatten++M)) us osss (rules.map λr=>ci r.2)->Q .aw H'
end FL
namespace FL
open PySem L2
section
variable {X:Cx}{C:vb}{N':List Str}{scope:Scope}{cl:List (Str×vb)}{Ca:vb}{fp:List vb}{s:ot}{H:Hp}
theorem Lk {n:Nat}{x:Str}{ps:List Str}{sp:Sp}{e:sH}{es:List sH}{t:TA}{p pos:Pos}{k:Nat}(h:px X.prog X.w X.K X.mg X.base n C x ps sp)(hr:cW (k+1) X.A)(ha:PA (bW X N' scope cl Ca fp s H) (e::es) t)(hle:n<=k:=by decide)
  (hg:Gl (bW X N' scope cl Ca fp s H) x:=by rfl) (hdb:`k=fF:=by decide) (he:zA (e::es) (bW X N' scope cl Ca fp s H).env=(fF,y1 e (bW X N' scope cl Ca fp s H).env)::zA es (bW X N' scope cl Ca fp s H).env:=by rfl) (hpl:(gA pos^zA es (bW X N' scope cl Ca fp s H).env).any (·.1)=fF:=by rfl):
  PE (bW X N' scope cl Ca fp s H) (.Call (.Name x p) (e::es) [] pos)^uw C sp [] L2.E0 t:=Ax (X:=bW X N' scope cl Ca fp s H) h hr ha hle hg hdb he hpl
end
end FL
namespace L2
open PySem PySem.Spec PyProof.Rows
def Ba (lo c:Int)(n:Nat):It:={λi _=>i<n,λi H x H'=>H'=H/\x=.int (lo+i*c),λi _=>n<=i}
def PM {P:qj}{w:pa}{K:kc}{tg:sH}(it:vb)(lo c:Int)(n:Nat):jJ P w K tg (Ba lo c n) [it] it (λi h=>IsRangeIter h it (lo+(i:Nat)*c) ((n:Int)-(i:Nat)) c) where
 mem:=by simp
 obj:=λi h st b hb=>by
  let e:b=it:=by simpa using hb
  subst e;show{_,st,λv z=>by
   let z':Data.fields _=Data.cell v:=z;cases z'}
 keep:=λi h h' st k=>k it Z8 _ st
 item:=by
  intro X hP hw hK hc i pins s σ H E I hf st hg;subst hP hw hK;let{f0,f1,f2,f3,f4,f5}:=hf it Z8;let W:=Walks.range (prog:=X.prog) (w:=X.w) (I.ok.hd hc) it lo c n;show W.item i s _ _ hg st λv h' tk hv st' kk=>?_;let{t,rfl}:=hv;let I1:Inv X pins σ H {s with heap:=h',toks:=tk}:=I.turned (λb o hb e=>kk b o (by simpa using hb) e) f0 f1 f3 f4 f5;show{_,A2,pB (s:={s with heap:=h',toks:=tk}) (n:="range_iterator") st' A2 A2 Z1 {.int<|lo+i*c,H,I1,{t,A2},{A2,A2},st',λb hb=>(hf b hb).1}}
 done:=by
  intro X hP hw hK hc i pins s σ H E I hf st hg;subst hP hw hK;let{f0,f1,f2,f3,f4,f5}:=hf it Z8;show wpAny_pyNext_range_end (I.ok.hd hc) st (by have:n<=i:=hg;omega) λh' eb=>`p
 self:=λ_ _ _ _ _ st h=>wpAny_pyIter_rangeiter st h
section
variable {X:Cx}{tg:sH}
def F0 (ta:TA):TI:=λσ H R=>ta σ H λvs H1=>∃(i j c:Int) (n:Nat),vs=[.int i,.int j,.int c]/\c≠0/\Builtin.Range.small i j c=bU/\xx (j-i) c=fF/\gC i j c=n/\R (Ba i c n) H1
def Pk(B:Gl X "range")(C:X.mg "range"=bF)(E:PA X [a,b,c] y)(G:zA [a,b,c] X.env=[(fF,y1 a X.env),(fF,y1 b X.env),(fF,y1 c X.env)]:=by rfl)(l:zA [b,c] X.env=[(fF,y1 b X.env),(fF,y1 c X.env)]:=by rfl):
  PI X tg (.Call (.Name "range" p) [a,b,c] [] k)^F0 y:=by
 intro f s z H R I h;show Call_^jH I B C boot_range^RX (aQ (E k f s z H _ I h) λU g ⟨Y,A,J,L,v⟩=>?_) (by rw[G,l]) (by rw[l];rfl)
 let{i,j,c,n,e,v,M,N,O,q}:=v;subst e;cases L with
 |cons r m=>
  cases m with
  |cons Q m=>
   cases m with
   |cons w m=>
    cases m;let{t,rfl}:=r;let{u,rfl}:=Q;let{d,rfl}:=w;show call_range_3 v ?_^.inl N;show wpAny_pyIter_range (IsRange.new ..) M ?_;let x:Inv X f z A {g with heap:=g.heap.push {cls:=.type "range",data:=.fields^List.toArray [.int i t,.int j u,.int c d]},toks:=g.toks}:=J.kept λb o e=>QR _ e;show{(g.heap.push {cls:=.type "range",data:=.fields^List.toArray [.int i t,.int j u,.int c d]}).objs.size,[(g.heap.push {cls:=.type "range",data:=.fields^List.toArray [.int i t,.int j u,.int c d]}).objs.size],_,_,A,A2,
     x.kept (t':=g.toks) λb o e=>QR _ e,PM _ i c n,?_,λb T=>?_,q}
    .change IsRangeIter _ _ (i+((0:Nat):Int)*c) ((n:Int)-((0:Nat):Int)) c;rw[show i+((0:Nat):Int)*c=i by simp,show(n:Int)-((0:Nat):Int)=n by simp,<-O];show Ra _ A2
    .let e:b=(g.heap.push {cls:=.type "range",data:=.fields^List.toArray [.int i t,.int j u,.int c d]}).objs.size:=by simpa using T
     subst e;show x.iV (QU _)^x.au.fresh^QU _
end
end L2
namespace FL
open PySem L2
inductive jS (G:Hp):List V->List Sl->Prop
 |nil:jS G [] []
 |cons {v:V} {s:Sl} {vs:List V} {ss:List Sl}:lU G (!!v) s->jS G vs ss->jS G (v::vs) (s::ss)
theorem jS.length:∀{a:List V} {b:List Sl},jS G a b->a.length=b.length
 |_,_,.nil=>rfl
 |_,_,.cons _ r=>RF (· +1) r.length
theorem jS.get:∀{a:List V} {b:List Sl} {i:Nat} {s:Sl},jS G a b->b[i]?=!s->∃v,a[i]?=!v/\lU G (!!v) s
 |_,_,_,_,.nil,e=>by simp at e
 |_,_,0,_,.cons h _,e=>by simp at e;subst e;show{_,A2,h}
 |_,_,i+1,s,.cons _ r,e=>by
  let{v,c,d}:=jS.get (i:=i) (s:=s) r (by simpa using e);show{v,by simpa using c,d}
def Sl.shr:Sl->Sl
 |.k S=>.kd S|.t ps=>.td ps|.l xs=>.d^.lst xs|s=>s
def nI (t:TA)(G:Hp)(σ:St)(ss:List Sl):Prop:=∀M H,ae G^but H M->av M H->∀Q:List V->Hp->Prop,(∀vs H',ae H H'->jS (but H' M) vs ss->Q vs H')->t σ H Q
def spS (R:List Sl->D->Prop):Sp:=λvs H Q _=>∃M ss d,av M H/\jS `a vs ss/\R ss d/\∀v H',ae H H'->ap (but H' M) v d->Q v H'
def HG{R:List Sl->D->Prop}(c:∀a d,R a d->a.length=n):∀b H Q E,spS R b H Q E->b.length=n:=λb H Q E f=>by let{M,a,d,l,r,e,k}:=f;rw[r.length];show c a d e
section
variable {G:Hp}{σ:St}{δ:List Sl}{ta:TE}{t:TA}{d:D}{ss:List Sl}
def BW:nI bM G σ []:=λM H s l Q k=>k [] H `f .nil
def Ew (c:ag ta G σ d)(e:nI t G σ ss):nI (bq ta t) G σ (.d d::ss):=
 λM H s l Q k=>c M H s l _ λv f a g=>e M f (s.trans^a.but M) (l.same a) _ λj h b i=>k _ h (a.trans b)^.cons {v,A2,g.mono^b.but M} i
def bN.es{i:Nat}(e:bN G σ δ)(g:δ[i]?=!s)(m:s≠.no)(n:nI t G σ ss):nI (bq (aW i) t) G σ (s.shr::ss):=λM H c l Q k=>by
 let w:=(e.mono c).get i s g;have:∃v,σ[i]?=!!v/\lU `a (!!v) s.shr:=by
  cases s with
  |no=>show absurd A2 m
  |d x=>let{v,h,r}:=w;show{v,h,v,A2,r}
  |l x=>let{v,h,r}:=w;show{v,h,v,A2,r}
  |k x=>let{a,h,r}:=w;show{.ref a,h,a,A2,r}
  |t x=>let{a,b,h,r}:=w;show{.ref a,h,a,b,A2,r}
  |kd x=>let{a,h,r}:=w;show{.ref a,h,a,A2,r}
  |td x=>let{a,b,h,r}:=w;show{.ref a,h,a,b,A2,r}
  |j x=>let{a,h,r}:=w;show{.ref a,h,a,A2,r}
 let{v,o,p}:=this;show{v,o,n M H c l _ λy q f u=>k _ q f^.cons (p.mono^f.but M) u}
def J5 (c:nI t G σ ss):nI (bq yR t) G σ (.td []::ss):=λM H s l Q k=>λp a=>
 c M _ (s.trans^(c9 a _).but M) (l.same^c9 a _) _ λg e b f=>k _ e ((c9 a _).trans b)^.cons {p,[],A2,by rw[bv^l.fresh a];show b _ _ aM,.nil} f
def CM{R:List Sl->D->Prop}(b:R ss d)(h:nI t G σ ss):ag (ja (spS R) [] E t) G σ d:=
 λM H s l Q k=>h M H s l _ λi j a c=>{M,ss,d,l.same a,by rw[Ro];show c,b,λv e f g=>k v e (a.trans f) g}
end
def Qy {M:ZX}{H:Hp}{vs:List V}{ss:List Sl}(l:av M H)(r:jS `a vs ss)(ho:∀s∈ss,s.own=fF)(N:ZY):Bx H M [] (L2.start N vs) H (ss++List.replicate (N.length-ss.length) .no):=by
 let hl:=r.length;let own0:∀{j:Nat} {s:Sl},(ss++List.replicate (N.length-ss.length) Sl.no)[j]?=!s->s.own=bU->False:=λ{j s} h k=>by
  rcases Rc.mp (QT h)with z|z
  .rw[ho s z]at k;cases k
  .rw[(List.mem_replicate.mp z).2]at k;cases k
 show{by simp[L2.start,hl],ae.refl _,l,(λa ha=>nomatch ha),λi s q=>?_,λi j s t a _ hs _ ks _ _ _=>own0 hs ks};by_cases hi:i<ss.length
 .rw[Rj hi]at q
  let{v,h1,h2}:=r.get q;let hv:(L2.start N vs)[i]?=!!v:=by
   unfold L2.start;rw[Rj (by simpa using(by omega:i<vs.length)),QY,h1];rfl
  rw[hv];have:=ho s^QT q;cases s with
  |no=>trivial
  |d x=>show h2
  |l x=>cases this
  |k x=>cases this
  |t x=>cases this
  |kd x=>show h2
  |td x=>show h2
  |j x=>cases this
 .rw[Rn^RA hi]at q
  let{h1,h2}:=QN.mp q;simp at h2;subst h2;trivial
section
variable {B:Hp}{M0:List vb}{δ:List Sl}{E:Ends}{t:TA}
def c8.Md {a b c:Int}{n:Nat}(hc:c≠0)(h1:Builtin.Range.small a b c=bU)(h2:xx (b-a) c=fF)(h3:gC a b c=n)(h:∀G σ,bN G σ δ->dF t G σ [.int a,.int b,.int c]):c8 B M0 δ (F0 t)^(List.range n).map λ(k:Nat)=>D.int (a+k*c):=λown σ H bx R k=>h _ σ bx.wide _ H `f bx.live _ λvs H1 s1 rs=>by
 cases rs with
 |cons rx rs=>
  let{y,z,rfl,ry,rz}:=pT rs;show{a,b,c,n,by rw[rx.dQ,ry.dQ,rz.dQ],hc,h1,h2,h3,?_};show k _ H1 s1 (λj d M' H' hj hs hl=>?_)^λM' H' hs=>?_
  .rw[QY]at hj
   let{q,hq,rfl}:=Ru.mp hj;let{g1,g2}:=QN.mp hq;simp at g1 g2;subst g2;show{g1,λx H'' q0=>?_};let{e,hy}:=q0;subst e;subst hy;show{ae.refl _,.int _}
  .change n<=_;simp
end
end FL
namespace L2
open PySem PySem.Spec PyProof.Rows PySem.W
section
variable {prog:qj}{w:pa}{A:om}{E:wj->ot->Prop}{s:ot}{T:String}{r d:vb}{n:Nat}{P:Nat->wj->Prop}{OK:rl->Prop}
def Oz {R:Result->ot->Prop}(K:KdlSrc prog w T r d n P OK)(g:A.handled=bF)(au:OK s.heap)(S:vb)(c:S≠r)(e:S≠d)(h:s.heap.get? S=!{cls:=.type "list",data:=.seq `r 0})
  (i:∀f j a k,(∀b o,b≠S->s.heap.get? b=!o->f.get? b=!o)->f.get? S=!{cls:=.type "list",dict:=bF,data:=.seq a k,slots:= `r}->ItemsOf P a n->R (.ok^.ret^.ref S) {s with heap:=f,toks:=j}) (l:n<=se):
  qi `i A (.builtin "list.__iadd__" {[.ref S,.ref r],[]}) R s:=by
 show S9 PySem.F.entry_list_iadd ?_;rw[SO VR _];show kdl_extend K g au S c e (.ref S) 0 h i l
def ME {Q:List wj->ot->Prop}(K:KdlSrc prog w T r d n P OK)(j:A.handled=bF)(au:OK s.heap)(k:n<=se)
  (m:∀c h a,(∀b o,s.heap.get? b=!o->c.get? b=!o)->s.heap.objs.size<c.objs.size->ItemsOf P a n->Q a.toList {s with heap:=c,toks:=h}):gE `i A (collect^.ref r) Q E s:=by
 unfold collect;show QL^wpAny_runValue^S9 PySem.F.entry_proto_collect ?_
 rw[SO PySem.F.plain_proto_collect _];change gE _ A.in1 (newList []>>=λl=>again^.builtin "list.__iadd__" {[l,.ref r],[]}) _ _ s;show QL^RS ?_
 let f:=K.there _ au;show QX {Ub VR _,Oz (s:={s with heap:=s.heap.push {cls:=.type "list",data:=.seq^List.toArray []}}) K j (K.keep _ _ au λb _ o e=>QR _ e) s.heap.objs.size (Ta f.1) (Ta f.2) (Ra _ A2) (λc h a q p i g=>?_) k};change gE _ A (load s.heap.objs.size>>=_) _ _ _;show QL^wpAny_load i ?_
 show QX^m c h a (λb o e=>p b o (Rp^Re e)^QR _ e) (Re i) g
def IL{Q:ZT}(K:KdlSrc prog w T r d n P OK)(x:A.handled=bF)(au:OK s.heap)(j:n<64)(y:∀a:Array wj,ItemsOf P a n->IntsAre a.toList t)
  (z:∀(h:rl) (k l:Nat) (c:Array wj) (e:Nat) (f:List Int),(∀b o,s.heap.get? b=!o->h.get? b=!o)->s.heap.objs.size<=l->h.get? l=!seqObj "list" c e->IntsAre c.toList f->f.Perm t->f.Pairwise (· <=·)->Q (.ref l) {s with heap:=h,toks:=k}):
  gE `i A (call (.builtin "sorted") [.ref r]) Q E s:=by
 show Calls.call_function_entry kind_sorted plain_sorted entry_sorted (args_sorted1 _) ?_;unfold Builtin.«sorted»;show QL (m:=checkCount "sorted" 1 1 _)^QX ?_
 show QL^ME K x au (by rw[Ts];omega) λh k a B p g=>?_
 show QL^wpAny_newList (hsz:=by rw[RP,g.1,Ts];omega) ?_
 let C:=y a g;let i:(h.push^seqObj "list" a.toList.toArray 0).get? h.objs.size=!seqObj "list" a.toList.toArray 0:=Ra _ A2;show QL^So^Sg slot_list_sort {_,i,A2} entry_list_sort (list_sort_tree i C (by rw[RP,g.1];show j) λc f G H I=>{_,A2,?_})^args_list_sort _
 obtain ⟨e,J⟩:∃e,(sortedHeap (h.push^seqObj "list" a.toList.toArray 0) h.objs.size a.toList c).get? h.objs.size=!seqObj "list" c e:=sortedHeap_at i;show QX {_,A2,z _ k h.objs.size c e f (λb o q=>?_) (Sf p) J G H I};let u:=B b o q;let v:=Re u;rw[sortedHeap_old (Rp v)^by rw[size_push'];show S8 v];show QR _ u
end
section
variable {X:Cx}
def QF:∀{d:List (aH×V)} {b:List (aH×wj)} {a:List wj},KV d b->a.length=b.length->(∀(j:Nat) v,a[j]?=!v->∃k x,b[j]?=!(k,x)/\(dm P w).is k v=bU)->bn (d.map λh=>kV h.1) a:=by
 intro d b a i;induction i generalizing a with
 |nil=>intro c _;cases a with
  |nil=>show .nil
  |cons _ _=>cases c
 |@cons p q r s e t l=>
  intro c g;cases a with
  |nil=>cases c
  |cons v a=>
   let{k,x,f,m}:=g 0 v A2;let f:q=(k,x):=Q5 f;show .cons ?_^l (Wo c) λj u n=>g (j+1) u n;let o:p.1=k:=by rw[e.1,f]
   change RelV (kV p.1) v;rw[o];show A3 m
theorem AS:∀{a:List Int} {b:List wj},bn (a.map V.int) b->IntsAre b a
 |[],_,.nil=>.nil
 |n::r,_,.cons h t=>by
  let{c,rfl}:=h;show .cons n c^AS t
def yn:List V->Hp->VK->Prop:=λxs H Q=>∃a kvs ns,xs=[.ref a]/\Rd H a^.dK kvs/\(kvs.map λkv=>kV kv.1)=ns.map V.int/\kvs.length<64/\∀ns':List Int,ns'.Perm ns->ns'.Pairwise (· <=·)->∀l,H l=bF->Q (.ref l)^upd H l^.lst^ns'.map V.int
def Hn (x:X.calm=bU):iG X (.builtin "sorted") yn:=by
 intro o s σ H xs us Q I r h;let{a,y,ns,rfl,e,p,i,q}:=h;let{u,rfl,A}:=Vf r;cases A;let{z,B,C,bK,E}:=jg I.au e;let{G,k}:=E.dictAt;let J:=bK.length;show IL (kdl_dict (knd:=dm X.prog X.w) (kvs:=C) (ep:=G) B) (I.ok.hd x) k (by rw[<-J];show i) (λL b=>AS^by rw[<-p];show QF bK (by rw[RP];show b.1) λj v M=>b.2 j v^by rw[<-UV];show M) λN O l m c d n f T U t Y=>?_;let g:d.length<=se:=by
  let h1:=t.length_eq;let h2:=RF List.length p;rw[QP,QP]at h2;rw[Ts];omega
 show{.ref l,_,I.laid (t':=O) n f^show bZ X.prog X.w _ N _^.lst^d.map V.int from{by rw[QP];show g,m.toList,c,x3 U,by rw[U8];show T},A2,q d t Y _^I.au.fresh f}
variable {e:sH}{te:TE}{p pos:Pos}
def HE (b:X.mg "sorted"=bF)(h:PE X e te)(c:X.calm=bU:=by rfl)(d:Gl X "sorted":=by rfl)(a:zA [e] X.env=(fF,y1 e X.env)::zA [] X.env:=by rfl):PE X (.Call (.Name "sorted" p) [e] [] pos)^cN yn^bq te bM:=
 pE (Hn c) d b boot_sorted (ai h aq a) (he:=a)
end
end L2
namespace FL
open PySem L2
open SeqAt
section
variable {X:Cx}
def IC{A:om}(I:Inv X i B H s)(C:ap `a x d)(E:RelV x u)(G:aF `a p k)(J:bn p a)(c:∀e∈k,cD e d=bU/\e.cT<=40)(T:A.units+50<cLine):
  ∃f:wj->Bool,(∀y,y∈a.toArray->EqAt A.in1 s y u^f y)/\∀(j:Nat) (h:j<a.toArray.size),f a.toArray[j]=fT (k[j]?=!d):=by
 classical
 let l:∀(j:Nat) (y:wj),a[j]?=!y->∃v e,RelV v y/\ap `a v e/\k[j]?=!e/\fT (∃v e,RelV v y/\ap `a v e/\e=d)=fT (e=d):=λj y n=>by
  let{v,L,b}:=j9 (P:=X.prog) (w:=X.w) (K:=X.K) J n;let{e,m,g}:=G.jm L;show{v,e,b,g,m,?_};rw[Ry,R0,R0];constructor
  .rintro⟨U,Y,N,O,Q⟩
   rw[b.inj N]at g;rw[ap.inj g O];show Q
  .intro z;show{v,e,b,g,z}
 show{λy=>fT (∃v e,RelV v y/\ap `a v e/\e=d),λy n=>?_,λj r=>?_}
 .let{j,r,o}:=Sz (show y∈a by simpa using n);let{v,e,b,g,m,q}:=l j y (by rw[QO r,o]);let t:e∈k:=QT m;change EqAt A.in1 s y u^fT (∃v e,RelV v y/\ap `a v e/\e=d);rw[q];show vJ I.au (qS H M) 40 (c e t).2 g C b E (c e t).1 (by change A.units+1+40<cLine;omega)
 .let{v,e,b,g,m,q}:=l j a.toArray[j] Z8;change fT (∃v e,RelV v a.toArray[j]/\ap `a v e/\e=d)=_;rw[q,m];simp
def EL:V->List V->Hp->VK->Prop:=λx vs H Q=>∃M d es,∃j:Nat,∃y,vs=[y]/\ap `a x^.lst es/\ap `a y d/\(∀e∈es,cD e d=bU/\e.cT<=40)/\es[j]?=!d/\(∀i,i<j->es[i]?≠!d)/\Q (.int j) H
def Hg (B:X.A.units+50<cLine):rD X "list.index" EL:=by
 intro t s σ H x vs v us Q I C E h;let{M,d,G,j,y,rfl,J,L,c,u,k,q}:=h;let{a,N,rfl,O,z}:=J.el;cases C;let{T,rfl,U}:=Vf E;let{hz,l,n,g,p}:=(show bZ X.prog X.w H s.heap a^.lst N from I.au a _ (ay O).2)
 let{f,Y,i}:=IC I L U z g c B;let l1:=z.length;let l2:=g.length;let ab:j<G.length:=(QN.mp u).1;let ac:=Ts;show Vn VS {_,p,A2} PySem.F.entry_list_index (PySem.F.args_list_index_2 _ _) (list_indexAt a l.toArray n bF `r T f j (by simp;omega) Z4 ?_ ?_) {p,Y,.int j,H,I.kept (t':=s.toks+1) λb o e=>e,{_,A2},q}
 .rw[i];show Q9 u
 .intro m hm r;rw[i];show Ri^k m r
variable {G:Hp}{σ:St}{ta:TE}{t:TA}{K:kc}
def LF{b:ZZ}{j:Nat}(c:∀e∈b,cD e d=bU/\e.cT<=40)(n:b[j]?=!d)(f:∀i,i<j->b[i]?≠!d)(o:ag ta G σ^.lst b)(p:dF t G σ [d]):ag (lp K "list" EL ta t) G σ^.int j:=
 λM H s l Q k=>o M H s l _ λv q g h=>by
  let{a,z,rfl,r,A}:=id h.el;show{.inl {A2,_,aU.of (ay r).2},p M q (s.trans^g.but M) (l.same g) _ λB w m x=>?_};let{u,rfl,y}:=jM x;show{M,d,b,j,u,A2,h.mono^m.but M,y,c,n,f,k _ w (g.trans m)^.int _}
end
end FL
namespace FL
open PySem L2
def jd (ps:List (Int×D)):List (aH×V):=ps.map λp=>(Sum.inl p.1,p.2.toV)
def vN (d:D):Bool:=match d with|.int _=>bU|.str _=>bU|.bl _=>bU|_=>fF
def P9(h:vN d=bU):ap H d.toV d:=by
 cases d with
 |int i=>show .int i
 |str x=>show .str x
 |bl b=>show .bl b
 |_=>cases h
def NO(h:vN d=bU)(r:ap H v d):v=d.toV:=by
 cases d with
 |int i=>show r.dQ
 |str x=>show r.qR
 |bl b=>show r.ik
 |_=>cases h
theorem wu (n:Int):∀a:List (Int×D),bD (jd a)^Sum.inl n=(a.find? λp=>fT (p.1=n)).map λp=>p.2.toV
 |[]=>rfl
 |p::r=>by
  let b:=wu n r;unfold bD jd at b⊢;rw[RB,RQ,RQ];by_cases e:p.1=n
  .simp[e]
  .let c:(fT<|(Sum.inl p.1:aH)=Sum.inl n)=fF:=Ri λz=>e^V8 z;let d:fT (p.1=n)=fF:=Ri e;simp only[c,d];show b
def IQ (n:Int):∀a:List (Int×D),(bD (jd a)^Sum.inl n).isSome=fT (n∈a.map (·.1)):=λa=>by
 rw[wu,Uf,Ry,List.find?_isSome,R0,Q6];constructor
 .rintro⟨p,b,e⟩;show{p,b,Q8 e}
 .rintro⟨p,b,e⟩;show{p,b,Q9 e}
def Mm:∀{a:List (Int×D)},(a.map (·.1)).Nodup->(n,d)∈a->bD (jd a)^Sum.inl n=!d.toV:=λ{a} b i=>by
 rw[wu];cases e:a.find? λp=>fT (p.1=n)with
 |none=>show absurd A2 (RK (by simpa using List.find?_eq_none.mp e _ i):¬n=n)
 |some q=>
  let j:q.1=n:=Q8^List.find?_some (p:=λp:Int×D=>fT<|p.1=n) e
  let k:=List.mem_of_find?_eq_some e;have:q=(n,d):=by
   clear e;induction a with
   |nil=>cases i
   |cons p r l=>
    rw[RB,Th]at b;rcases QZ.mp i with c|c<;>rcases QZ.mp k with g|g
    .rw[c,g]
    .let h:q.1∈r.map (·.1):=Sy (f:=(·.1)) g;rw[j]at h;rw[<-c]at b;show absurd h b.1
    .let h:n∈r.map (·.1):=Sy (f:=(·.1)) c;rw[<-j,g]at h;show absurd h b.1
    .show l b.2 c g
  rw[this];rfl
def oR (ps:List (Int×D))(n:Int)(d:D):List (Int×D):=if n∈ps.map (·.1)then ps else ps++[(n,d)]
def Iz{a:List (Int×D)}(h:∀p∈a,p.1=n->p.2=d):cr (jd a) (Sum.inl n) d.toV=jd^oR a n d:=by
 unfold cr oR;let c:((jd a).any λf=>fT<|f.1=Sum.inl n)=fT (n∈a.map (·.1)):=by
  rw[Ry,Um,R0,Q6];constructor
  .rintro⟨q,g,e⟩
   let{p,b,rfl}:=Q6.mp g;show{p,b,V8^Q8 e}
  .rintro⟨p,b,e⟩
   show{_,Sy b,Q9^by rw[e]}
 by_cases e:n∈a.map (·.1)
 .rw[Q0 e,Q0^by rw[c];show Q9 e]
  unfold jd;rw[Rz];show Rq λp b=>?_;by_cases z:p.1=n
  .simp[z,h p b z]
  .have:¬(Sum.inl p.1:aH)=Sum.inl n:=λq=>z^V8 q;simp[z]
 .rw[QV e,QV^by rw[c];show λq=>e^Q8 q]
  unfold jd;rw[Rl];rfl
section
variable {B:Hp}{M0:List vb}{δ:List Sl}{E:Ends}{te ty tv:TE}{t:TA}{d:D}{ps:List (Int×D)}{n:Int}
def AU(k:aP B M0 (δ.set i^.j^jd []) E.nx):aP B M0 δ^dX vx (cp i) E:=λa e H b=>λp c=>
 k (p::a) _ _^b.new i c A2 {p,A2,QQ,aM}
def y9 {j:Nat}(h:δ[j]?=!.j^jd ps)(l:vN d=bU)(o:∀p∈ps,p.1=n->p.2=d)(C:ps.length<1000)(q:∀G c,bN G c δ->ag tv G c d)(r:∀G c,bN G c δ->ag ty G c^.int n)(k:aP B M0 (δ.set j^.j^jd^oR ps n d) E.nx):aP B M0 δ^p9 (aW j) ty tv E:=λg c H b=>by
 show(q _ c b.wide).at b.live λv I s u=>?_;let f:=b.grow s;let{a,e,m,w}:=f.slot j _ h;show{.ref a,e,(r _ c f.wide).at f.live λy J i x=>?_};let z:=f.grow i;let A:=x.dQ;subst A;show{a,_,A2,gK.k (k:=Sum.inl n) (i _ _ w)^cH (by unfold jd;rw[QP];omega),k g c _^z.put h A2 m e A2 {a,A2,m,?_} A2};rw[NO l u,Iz o];show aM
def O7{m:Nat}(f:δ[m]?=!.d^.int n)(k:aP B M0 (δ.set i^.j^jd [(n,.bl bU)]) E.nx):aP B M0 δ^dX (AF [(aW m,tC^.bl bU)]) (cp i) E:=λa q H b=>λp g=>by
 let{v,h,l}:=b.slot m _ f;let o:=l.dQ;subst o;show{.int n,h,aM,[(Sum.inl n,.bl bU)],A2,by simp,?_};let e:upd (upd H p^.dK []) p^.dK^cg [] [(Sum.inl n,.bl bU)]=upd H p^.dK^jd [(n,.bl bU)]:=by
  funext c;by_cases z:c=p
  .rw[z,aM,aM];rfl
  .rw[aE z,aE z,aE z]
 rw[e];show k (p::a) _ _^b.new i g A2 {p,A2,QQ,aM}
def bN.Kb{j:Nat}(e:bN G b δ)(f:δ[j]?=!.j^jd ps)(h:ag ty G b^.int n):ag (pr ty^aW j) G b^.bl^fT (n∈ps.map (·.1)):=λM H s l Q k=>h M H s l _ λv g c i=>by
 let{a,m,o}:=(e.mono s).get j _ f;let p:=c _ _ (ay o).2;let q:=i.dQ;subst q;show{.ref a,m,a,_,A2,dg.k (k:=Sum.inl n) p,?_};rw[IQ];show k _ g c^.bl _
def bN.PH{j:Nat}(e:bN G b δ)(g:δ[j]?=!.j^jd ps)(c:(ps.map (·.1)).Nodup)(i:(n,d)∈ps)(m:vN d=bU)(h:ag ty G b^.int n):ag (yA (aW j) ty) G b d:=λM H s l Q k=>by
 let{a,o,p}:=(e.mono s).get j _ g;show{.ref a,o,h M H s l _ λv q f r=>?_};let u:=f _ _ (ay p).2;let w:=r.dQ;subst w;show{a,d.toV,A2,by rw[<-Mm c i];show dg.k (k:=Sum.inl n) u,k _ q f^P9 m}
def bN.Km{j:Nat}(e:bN G b δ)(c:δ[j]?=!.j^jd ps):ag (cN uT^bq (aW j) bM) G b^.int ps.length:=λM H s l Q k=>by
 let{a,f,g}:=(e.mono s).get j _ c;show{.ref a,f,.inl {a,_,A2,Rd.of (ay g).2,?_}};rw[show(jd ps).length=ps.length by unfold jd;rw[QP]];show k _ H `f^.int _
theorem Ft:∀{f g:List Int},f.Pairwise (· <·)->g.Pairwise (· <·)->(∀x,x∈f↔x∈g)->f=g
 |[],[],_,_,_=>rfl
 |[],y::r,_,_,h=>absurd ((h y).mpr QQ) λz=>nomatch z
 |x::r,[],_,_,h=>absurd ((h x).mp QQ) λz=>nomatch z
 |x::r,y::q,b,c,h=>by
  rw[VL]at b c;let e:x=y:=by
   rcases QZ.mp ((h x).mp QQ)with z|z
   .show z
   .rcases QZ.mp ((h y).mpr QQ)with w|w
    .show w.symm
    .have:=c.1 x z;have:=b.1 y w;omega
  subst e;congr 1;show Ft b.2 c.2 λz=>{λa=>?_,λa=>?_}
  .rcases QZ.mp ((h z).mp^QM _ a)with w|w
   .have:=b.1 z a;omega
   .show w
  .rcases QZ.mp ((h z).mpr^QM _ a)with w|w
   .have:=c.1 z a;omega
   .show w
def bN.PV{j:Nat}{ns:List Int}(e:bN G i δ)(o:δ[j]?=!.j^jd ps)(q:ps.length<64)(g:(ps.map (·.1)).Nodup)(r:ns.Pairwise (· <·))(u:∀x,x∈ns↔x∈ps.map (·.1)):ag (cN yn^bq (aW j) bM) G i^.lst^ns.map D.int:=λM H s l Q k=>by
 let{a,v,w}:=(e.mono s).get j _ o;show{.ref a,v,a,_,ps.map (·.1),A2,Rd.of (ay w).2,?_,by unfold jd;rw[QP];show q,λb m z p c=>?_}
 .unfold jd;rw[Rz,Rz];rfl
 .let f:b.Nodup:=m.nodup_iff.mpr g;let h:b.Pairwise (· <·):=(z.and f).imp λA=>by let{x,y}:=A;omega
  let C:b=ns:=Ft h r λx=>(m.mem_iff).trans (u x).symm;subst C;show k _ _ (c9 c _) ?_;show .lst (by rw[bv^l.fresh c];show aM)^aF.ints b
end
end FL
namespace FL
open PySem L2
def pG (f:List D):Prop:=∃r xs,f=.str r::xs/\∀x∈xs,x.sc=bU
def pG.sc(h:pG f):bV f:=λx a=>by
 let{r,c,rfl,b}:=h;rcases QZ.mp a with z|z
 .rw[z];rfl
 .show b x z
def BQ:List D->D->Prop:=λds d=>∃f,ds=[.tup f]/\pG f/\d=.bl bU
def CV:List D->D->Prop:=λds d=>∃as,ds=[cB as]/\DZ as/\d=gU^ba [] as
def CP:List D->D->Prop:=λds d=>∃(pl:List Nat) (n m:Nat),ds=[on pl,.int (n:Int),.int (m:Int)]/\pl.length=n/\(∀i∈pl,i<m)/\d=.bl bU
def yV:List Sl->D->Prop:=λss d=>∃a ps,ss=[.d^.tup a,.td ps]/\DB a/\d=.bl^eB (ps.map (·.1)) a
section
variable {G:Hp}{σ:St}{δ:List Sl}{ty:TE}{j:Nat}{ps:List (List D×D)}{key:List D}{d:D}
def bN.FG (e:bN G σ δ)(a:δ[j]?=!.td ps):bN G σ^δ.set j^.t ps/\(δ.set j^.t ps)[j]?=!.t ps:={{by rw[Sv];show e.len,λi s q=>by
 rcases Tv q with⟨rfl,rfl,_⟩|⟨_,h⟩
 .show e.get _ (.td ps) a
 .show e.get i s h},Q3 (QN.mp a).1}
def bN.OB (e:bN G σ δ)(a:δ[j]?=!.td ps)(b:bV key)(h:ag ty G σ^.tup key):ag (pr ty^aW j) G σ^.bl^fT (key∈ps.map (·.1)):=(e.FG a).1.Jg (e.FG a).2 b h
end
structure eC (pool:List D):Prop where
 len:pool.length=3\/pool.length=10
 nodup:pool.Nodup
 gp:∀x∈pool,GP x
 nb:∀x∈pool,aG x=fF
def u3.k(h:u3 a):eC a:={.inl h.len,h.nodup,h.gp,h.nb}
def vo:List D:=(List.range 10).map λ(k:Nat)=>D.int (0+(k:Int))
def Nq:eC vo:={.inr (by simp[vo]),Z9,λx a=>by let{k,_,rfl}:=Q6.mp a;show ue _,λx a=>by let{k,_,rfl}:=Q6.mp a;rfl}
def AB:D->List D
 |.lst l=>l|_=>[]
def gJ (ms:List Int):List D:=if ms.getD 0 0%4=3 then vo else AB^(mC (ms.getD 1 0%1000)).getD (ms.getD 0 0/4%(4:Nat)).toNat .aw
def FD (a:List Int):eC^gJ a:=by
 unfold gJ;split
 .show Nq
 .let{d,_,c,f}:=fY (l:=mC<|a.getD 1 0%1000) (n:=4) (a.getD 0 0/4) Z1 A2;let{b,e,g}:=AC (Ve (a.getD 1 0)^show(1000:Int)≠0 by decide) d c;rw[<-f,e];show g.k
def w8:List D->D->Prop:=λds d=>∃ms:List Int,ds=[.lst^ms.map D.int]/\d=.lst^gJ ms
def BS {x:D}(h:x.sc=bU):(not^tR x&& not^hZ x)=fF:=by
 have:=OX h;unfold FF at this;revert this;cases tR x<;>cases hZ x<;>simp
end FL
namespace FL
open PySem L2
def eh:List (Str×Nat):=[("road",2),("roam",2),("kin",2),("near",2),("mark",1),("rain",0)]
def kF:List (Str×Nat):=eh++([("less",2),("unlike",2)]:List (Str×Nat))
def lq (a:List D):Prop:=∃w xs,a=D.str w::xs/\(w,xs.length)∈kF/\∀x∈xs,GP x
def oz (pool h:List D):Prop:=∃w xs,h=D.str w::xs/\(w,xs.length)∈eh/\∀x∈xs,x∈pool\/x∈dv
def ka(h:(w,n)∈kF):ox^.str w/\aG^.str w=fF/\n<=2/\(fT (D.str w=.str "less")||fT (D.str w=.str "unlike"))=fT ((w,n)∉eh)/\((w,n)∉eh->n=2):=by
 simp only[kF,eh,U7,T4,QZ,Rt,RH,Prod.mk.injEq]at h;rcases h with⟨rfl,rfl⟩|⟨rfl,rfl⟩|⟨rfl,rfl⟩|⟨rfl,rfl⟩|⟨rfl,rfl⟩|⟨rfl,rfl⟩|⟨rfl,rfl⟩|⟨rfl,rfl⟩<;>show⟨⟨by decide,_,_,rfl⟩,Z9,by decide,Z9,Z9⟩
def lq.at_(h:lq a):mW a:=by
 let{w,f,rfl,b,c}:=h;let{d,e,g,_}:=ka b;show Ly d e c Z4
def lq.gd(h:lq a)(b:aO a=bU):∃r x y,a=[.str r,x,y]:=by
 let{w,c,rfl,d,g}:=h;let{_,_,_,e,f}:=ka d;let b:(fT (D.str w=.str "less")||fT (D.str w=.str "unlike"))=bU:=b;rw[e]at b;have:=f^Q8 b
 match c,this with
 |[x,y],_=>show{w,x,y,A2}
structure dD (pool:List D)(r:bA):Prop where
 at_:∀a∈r.2,lq a
 hd:oz pool r.1
 hb:∀y∈r.1,aG y=bU->∃a∈r.2,aO a=fF/\y∈a
 gb:∀g∈r.2,aO g=bU->∀y∈g,aG y=bU->∃a∈r.2,aO a=fF/\y∈a
 dz:r.2.length<=3
def cu (body:`j):List^List D:=body.filter λa=> not^aO a
def lM{b:ZW}(h:∃a∈b,aO a=fF/\y∈a)(c:aG y=bU):y.name∈ba []^cu b:=by
 let{a,d,e,f}:=h;show ly (Q4.mpr {d,by rw[e];rfl}) f c
def dD.bi(h:dD b r):BI (cu r.2) r.2:=by
 show{A2,λa d=>(h.at_ a d).at_,λg c e=>?_,Rh (Rv _ _) h.dz};let{w,x,y,rfl}:=(h.at_ g c).gd e;let f:=(h.at_ _ c).at_.hd;show{{w,x,y,A2},MP f (λq=>lM (h.gb _ c e x Z8 q) q) λq=>lM (h.gb _ c e y Z8 q) q}
theorem oz.sc(a:eC pool)(k:oz pool h):(∀x∈h,x.sc=bU)/\h.length<=3:=by
 let{w,e,rfl,b,c}:=k;let f:=(ka^Q2 _ b).2.2.1;show{λx d=>?_,by rw[Rw];omega};rcases QZ.mp d with z|z
 .rw[z];rfl
 .rcases c x z with q|q
  .show(a.gp x q).1
  .show(qr x q).1
def lF(h:(w,2)∈kF)(a:GP x)(b:GP y):lq [.str w,x,y]:={w,[x,y],A2,h,by simp[a,b]}
def OT(h:(w,1)∈kF)(a:GP x):lq [.str w,x]:={w,[x],A2,h,by simp[a]}
def d6{a:ZZ}(h:(w,2)∈eh)(b:x∈a\/x∈dv)(c:y∈a\/y∈dv):oz a [.str w,x,y]:={w,[x,y],A2,h,by simp[b,c]}
def xT{a:ZZ}(h:(w,1)∈eh)(b:x∈a\/x∈dv):oz a [.str w,x]:={w,[x],A2,h,by simp[b]}
def nj:oz a [.str "rain"]:={"rain",[],A2,by simp[eh],by simp}
def w9 (one two:D)(l r h:List D)(u v:D):List bA:=[
 ([.str "roam",.str "X",.str "Xy"],[[.str "road",.str "X",.str "Xy"]]),
 ([.str "roam",.str "X",.str "Z"],[[.str "roam",.str "X",.str "Xy"],[.str "road",.str "Xy",.str "Z"]]),
 ([.str "mark",.str "Xy"],[[.str "mark",.str "X"],[.str "road",.str "X",.str "Xy"]]),
 ([.str "kin",.str "Xy",.str "X"],[[.str "kin",.str "X",.str "Xy"]]),
 ([.str "near",.str "X",.str "Xy"],[[.str "road",.str "X",.str "Z"],[.str "unlike",.str "X",.str "Xy"],[.str "road",.str "Xy",.str "Z"]]),
 ([.str "rain"],[[.str "mark",one],[.str "roam",.str "X",.str "X"]]),
 ([.str "roam",.str "X",.str "Z"],[[.str "roam",.str "X",.str "Xy"],[.str "roam",.str "Xy",.str "Z"]]),
 ([.str "mark",two],[[.str "rain"]]),
 ([.str "kin",.str "X",.str "Z"],[[.str "kin",.str "X",.str "Xy"],[.str "kin",.str "Xy",.str "Z"],[.str "unlike",.str "X",.str "Z"]]),
 ([.str "road",.str "X",.str "Xy"],[[.str "less",.str "X",.str "Xy"],[.str "kin",.str "X",.str "Xy"]]),
 ([.str "kin",.str "X",one],[[.str "mark",.str "X"],[.str "less",two,.int 3]]),
 ([.str "mark",one],[[.str "less",.int 0,.int 1]]),
 (h,[l,r]),
 (h,[l,[.str "less",u,v],r])]
def wb(h:w∈(["road","roam","kin","near","mark","rain","less","unlike"]:ZY)):aG^.str w=fF:=by
 simp only[QZ,Rt,RH]at h;rcases h with rfl|rfl|rfl|rfl|rfl|rfl|rfl|rfl<;>decide+kernel
def wg:aO (.str w::a)=(fT (w="less")||fT (w="unlike")):=by
 unfold aO;simp
def qN:a∈a::l:=QQ
def j7{a:c}:b∈a::b::l:=QM _ qN
def li{a:d}:c∈a::b::c::l:=QM _ j7
def jz:List Str:=["road","roam","kin"]
def Lo(s:eC b)(E:f∈b)(G:g∈b)(L:k∈jz)(M:l∈jz)(N:C∈jz)(O:∀x∈[i,c,d,j],x∈b\/x∈dv)(gh:∀x∈[o,q],x∈[i,c,d,j]):
  ∀r∈w9 f g [.str k,i,c] [.str l,d,j] [.str C,o,q] c d,dD b r:=by
 let Q:=s.gp f E;let T:=s.gp g G;let n1:=s.nb f E;let n2:=s.nb g G;let n:∀x∈[i,c,d,j],GP x:=λx H=>(O x H).elim (s.gp x)^qr x
 let b1:=wb (w:="road") Z8;let b2:=wb (w:="roam") Z8;let b3:=wb (w:="kin") Z8;let b4:=wb (w:="near") Z8;let b5:=wb (w:="mark") Z8;let b6:=wb (w:="rain") Z8;let b7:=wb (w:="less") Z8;let b8:=wb (w:="unlike") Z8;let U:∀w∈jz,(w,2)∈eh/\aG^.str w=fF/\¬w="less"/\¬w="unlike":=λw hw=>by
  simp only[jz,QZ,Rt,RH]at hw;rcases hw with rfl|rfl|rfl
  .show{by simp[eh],b1,by decide,by decide}
  .show{by simp[eh],b2,by decide,by decide}
  .show{by simp[eh],b3,by decide,by decide}
 let{Y,af,t,u}:=U k L;let{ab,aj,v,y}:=U l M;let{ac,am,an,ao}:=U C N;let lB:∀{p:Str×Nat},p∈eh->p∈kF:=λh=>Q2 _ h;let A:=gh o Z8;let B:=gh q Z8;let xX:D.str "X"∈dv:=by simp[dv]
 let xY:D.str "Xy"∈dv:=by simp[dv]
 let xZ:D.str "Z"∈dv:=by simp[dv]
 let A0:lq [.str "rain"]:={"rain",[],A2,by simp[kF,eh],by simp}
 let hl:=lF (lB Y) (n i Z8)^n c Z8
 let hr:=lF (lB ab) (n d Z8)^n j Z8
 let hg:lq [.str "less",c,d]:=lF (by simp[kF]) (n c Z8)^n d Z8
 let hh:oz b [.str C,o,q]:=d6 ac (O o A)^O q B
 let e:∀{m:ZW},[D.str k,i,c]∈m->[D.str l,d,j]∈m->∀x∈[i,c,d,j],∃a∈m,aO a=fF/\x∈a:=λ{m} m1 m2 x H=>by
  let I:aO [D.str k,i,c]=fF:=by rw[wg];simp[t,u]
  let J:aO [D.str l,d,j]=fF:=by rw[wg];simp[v,y]
  simp only[QZ,Rt,RH]at H;rcases H with rfl|rfl|rfl|rfl
  .show{_,m1,I,by simp}
  .show{_,m1,I,by simp}
  .show{_,m2,J,by simp}
  .show{_,m2,J,by simp}
 let no:∀{x:D} {p:Prop},aG x=fF->aG x=bU->p:=λh z=>by rw[h]at z;cases z
 let I:¬aO [D.str k,i,c]=bU:=by rw[wg];simp[t,u]
 let J:¬aO [D.str l,d,j]=bU:=by rw[wg];simp[v,y]
 intro r hm;simp only[w9,QZ,Rt,RH]at hm;rcases hm with rfl|rfl|rfl|rfl|rfl|rfl|rfl|rfl|rfl|rfl|rfl|rfl|rfl|rfl
 all_goals show{?_,?_,?_,?_,by simp}
 all_goals dsimp only
 all_goals first
  |show hh
  |show nj
  |(show d6 (by simp[eh]) ?_ ?_<;>simp[dv,E,G])
  |(show xT (by simp[eh]) ?_<;>simp[dv,E,G])
  |skip
 all_goals simp only[List.forall_mem_cons,Rt,false_imp_iff,implies_true,Wq]
 all_goals repeat' apply And.intro
 all_goals first
  |show hl
  |show hr
  |show hg
  |show A0
  |show lF (by simp[kF,eh]) (by first|show vM|show tf|show vX|show ue _|show Q|show T) (by first|show vM|show tf|show vX|show ue _|show Q|show T)
  |show OT (by simp[kF,eh]) (by first|show vM|show tf|show vX|show Q|show T)
  |show no (by first|assumption|rfl)
  |show λ_=>{_,qN,by rw[wg];decide+kernel,j7}
  |show λ_=>{_,qN,by rw[wg];decide+kernel,li}
  |show λ_=>{_,j7,by rw[wg];decide+kernel,j7}
  |show λ_=>{_,j7,by rw[wg];decide+kernel,li}
  |show λ_=>{_,li,by rw[wg];decide+kernel,j7}
  |show λ_=>{_,li,by rw[wg];decide+kernel,li}
  |show λ_=>e Z8 Z8 _ A
  |show λ_=>e Z8 Z8 _ B
  |show λz=>absurd z I
  |show λz=>absurd z J
  |(intro z;rw[wg]at z;show absurd z Z9)
  |skip
 all_goals intro _
 all_goals repeat' apply And.intro
 all_goals first
  |show no (by first|assumption|rfl)
  |show λ_=>{_,qN,by rw[wg];decide+kernel,j7}
  |show λ_=>{_,qN,by rw[wg];decide+kernel,li}
  |show λ_=>{_,j7,by rw[wg];decide+kernel,j7}
  |show λ_=>{_,j7,by rw[wg];decide+kernel,li}
  |show λ_=>{_,li,by rw[wg];decide+kernel,j7}
  |show λ_=>{_,li,by rw[wg];decide+kernel,li}
  |show λ_=>e Z8 Z8 _ Z8
def lH (w:Str)(xs:List D):bA:=(.str w::xs,[])
def yk{c:ZZ}(f:eC b)(h:(w,c.length)∈eh)(e:∀x∈c,x∈b):dD b^lH w c:=by
 show{(λa d=>nomatch d),{w,c,A2,h,λx q=>.inl^e x q},λy g q=>?_,(λa d=>nomatch d),Rk _};rcases QZ.mp g with z|z
 .rw[z,(ka^Q2 _ h).2.1]at q;cases q
 .rw[f.nb y^e y z]at q;cases q
theorem yx:∀{a:ZZ},bV a->D.f8 a=0
 |[],_=>by simp[D.f8]
 |x::r,h=>by
  let b:=h x QQ;let c:=yx (a:=r) λy d=>h y^QM _ d
  rw[D.f8,c];cases x<;>first|rfl|(simp[D.sc]at b)
theorem uB:∀{l m:ZW},(∀a∈l,bV a)->(∀a∈m,bV a)->ia (l.map D.tup)^m.map D.tup=bU/\D.f8^l.map D.tup<=1
 |[],m,_,_=>{by simp[ia],by simp[D.f8]}
 |a::l,m,h,k=>by
  let d:=h a QQ;let e:D.f8^(a::l).map D.tup<=1:=by
   rw[RB,D.f8,D.cT,yx d];show Nat.max_le.mpr {QU _,(uB (l:=l) (m:=[]) (λx c=>h x^QM _ c) λx c=>nomatch c).2}
  cases m with
  |nil=>show{by simp[ia],e}
  |cons b m=>
   show{?_,e};rw[RB,RB,ia,(nE d^k b QQ).1];show(uB (l:=l) (m:=m) (λx c=>h x^QM _ c) λx c=>k x^QM _ c).1
def Pa {r s:bA}(b:bV r.1)(c:∀a∈r.2,bV a)(d:bV s.1)(e:∀a∈s.2,bV a):cD (aR r)^aR s=bU/\(aR r).cT<=40:=by
 let{f,g}:=uB c e;unfold aR cB;show{?_,?_}
 .rw[cD,ia,(nE b d).1,ia,cD,f]
  simp[ia]
 .rw[D.cT,D.f8,D.cT,yx b,D.f8,D.cT,D.f8]
  simp only[Nat.max_def];split<;>split<;>omega
def P7(h:aR r=aR s):r=s:=by
 unfold aR cB at h;injection h with h
 injection h with d c;injection d with d;injection c with c _;injection c with c;have:r.2=s.2:=(Vv λa b e=>by injection e).mp c;show Prod.ext d this
theorem dD.sc(b:eC pool)(h:dD pool r):bV r.1/\∀a∈r.2,bV a:={(h.hd.sc b).1,λa c x d=>((h.at_ a c).at_.ok x d).1}
def Qf {r:bA}(c:bV r.1)(d:∀a∈r.2,bV a):(aR r).gx=bU:=uP λx b=>by
 simp only[QZ,Rt,RH]at b;rcases b with rfl|rfl
 .show iM c
 .show uP λy e=>by
   let{a,f,rfl}:=Q6.mp e;show iM^d a f
def yU:bA:=([.str "mark",.str "Xy"],[[.str "mark",.str "X"],[.str "road",.str "X",.str "Xy"]])
def tY (pool:List D)(r:bA):Prop:=r=yU\/(∃x∈pool,∃y∈pool,r=lH "road" [x,y])\/∃x∈pool,r=lH "mark" [x]
structure gG (pool:List D)(rs:List bA):Prop where
 ok:∀r∈rs,dD pool r
 p4:pool.length=10->∀r∈rs,tY pool r
def gG.snoc(h:gG a b)(d:dD a r)(f:a.length=10->tY a r)(g:r∉b):gG a (b++[r]):=by
 show{λx c=>?_,λe x c=>?_}
 .rcases Rc.mp c with z|z
  .show h.ok x z
  .rw[Rg.mp z];show d
 .rcases Rc.mp c with z|z
  .show h.p4 e x z
  .rw[Rg.mp z];show f e
def Dj (ds:List D):Prop:=∃seed pool a b c,ds=[.int seed,.lst pool,.int a,.int b,.int c]/\eC pool
def Dv (ds:List D)(d:D):Prop:=∃seed pool a b c,∃rs:List bA,ds=[.int seed,.lst pool,.int a,.int b,.int c]/\d=.lst^rs.map aR/\rs.length=14/\(∀r∈rs,dD pool r)/\rs[2]?=!yU
def Fa (ds:List D):Prop:=∃ms:List Int,ds=[.lst^ms.map D.int]/\ms.length<=1000
def El (ds:List D)(d:D):Prop:=∃(ms:List Int) (rs:List bA),ds=[.lst^ms.map D.int]/\d=.lst^rs.map aR/\gG (gJ ms) rs/\rs.length<=30
def NH {xs:List V}(k n:Nat):iY xs (!(k:Int)) (!((k+n:Nat):Int))=(xs.drop k).take n:=by
 unfold iY;rw[HT.sU,HT.sU];by_cases h:k<=xs.length
 .rw[T8 h]
  by_cases h2:k+n<=xs.length
  .rw[T8 h2,TJ]
  .rw[U4 Z4,Rm Z8,Rm^by rw[Uu];omega]
 .rw[U4 (show xs.length<=k by omega),TZ^QU _,TZ Z4,Wl,Wl]
def M7 {G:Hp}{σ:St}{ta:TE}{K:kc}{k n m:Nat}{l:ZZ}(hm:m=k+n)(ha:ag ta G σ^.lst l):ag (xo (Gz K) ta (vg^tC^.int (k:Int))^vg^tC^.int (m:Int)) G σ^.lst^(l.drop k).take n:=
 λM H s lv Q q=>ha M H s lv _ λx H1 s1 rx=>{(k:Int),A2,(m:Int),A2,by
  let{a,vs,rfl,h1,h2}:=rx.el;show{a,vs,A2,aU.of (ay h1).2,λp hp=>?_};rw[hm,NH];show q _ _ (s1.trans^c9 hp _)^rP (lv.same s1) hp^(h2.drop k).take n}
end FL
namespace FL
open PySem L2
section
variable {B:Hp}{M0:List vb}{δ:List Sl}{E:Ends}{te:TE}{d1 d2:D}
def LD{K:kc}(h:∀G a,aA G a^δ.map Sl.dat->ag te G a^.tup [d1,d2])(k:aP B M0 ((δ.set i^.d d1).set i'^.d d2) E.nx):aP B M0 δ^dX te (pf K 2 (ki (cp i)^ki (cp i') pi)) E:=λc a H b=>
 (h _ a b.jE).at b.fJ λv e s r=>pc r λj l f g=>k c _ e^((b.grow s).set i f).set i' g
def c8.Pn(d:n<=1000)(h:∀G c,bN G c δ->dF t G c [.int 1,.int ((n+1:Nat):Int)]):c8 B M0 δ (Ab t)^(List.range n).map λ(k:Nat)=>D.int (1+k):=by
 have:=c8.Jz (B:=B) (M0:=M0) (a:=1) (b:=((n+1:Nat):Int)) {by decide,by decide} {by omega,by omega} h;rw[show(((n+1:Nat):Int)-1).toNat=n by omega]at this;show this
end
structure oy (pool:List D)(rules:List bA)(facts:`j)(x:aS)(r:bA)(V:Str->D):Prop where
 at_:rules[x.2.1]?=some r
 rk:dD pool r
 pk:eC pool
 GB:eM facts V (cu r.2) x.2.2
 sc:∀b∈ba [] (cu r.2),(V b).sc=bU
 gs:O5.iB (r.2.filter aO)^ax V^ba []^cu r.2=bU
 hd:x.1=r.1.map (aX V)
 fd:pG x.1
def yc:List D->D->Prop:=λds d=>∃(x:aS) (pool:List D) (rules:List bA) (facts:`j) (r:bA) (V:Str->D),ds=[cm x,.lst^rules.map aR,cR facts]/\oy pool rules facts x r V/\d=.bl bU
def io (a:List D):List Str:=((a.tail.filter aG).map D.name)
def Mb {c:ZW}:cL^c.flatMap io:=λb d=>by
 let{a,_,h}:=RY.mp d;let{x,e,rfl}:=Q6.mp h;have:=(Q4.mp e).2;rw[<-jD this];show this
def OS{b:ZW}(d:a∈b)(e:aG^a.headD .aw=fF)(c:x∈a)(h:aG x=bU):x.name∈b.flatMap io:=by
 show RY.mpr {a,d,Q6.mpr {x,Q4.mpr {?_,h},A2}};cases a with
 |nil=>cases c
 |cons y r=>
  rcases QZ.mp c with z|z
  .have:aG y=fF:=e;rw[z,this]at h;cases h
  .show z
def JC (V:Str->D)(L:ZY)(n:Str):ax V L++[(n,V n)]=ax V (L++[n]):=by unfold ax;rw[Rl];rfl
def CC {b c:Type}(f:b->List c){l:List b}{j:Nat}{a:b}(h:l[j]?=!a):(l.take (j+1)).flatMap f=(l.take j).flatMap f++f a:=by
 rw[Rs,h,UT];simp
def Ib {a:ZZ}{j:Nat}{x:D}(h:a[j]?=!x):((a.take (j+1)).filter aG).map D.name=((a.take j).filter aG).map D.name++(if aG x=bU then [x.name]else []):=by
 rw[Rs,h,R7,Rl];congr 1;by_cases e:aG x=bU
 .simp[e]
 .simp[e]
def MA {as:ZW}(h:∀a∈as,a.length<=10):(as.flatMap io).length<=10*as.length:=by
 induction as with
 |nil=>simp
 |cons a r b=>
  let d:=b λx c=>h x^QM _ c
  let e:=h a QQ;let f:(io a).length<=10:=by
   unfold io;rw[QP];show Rh (Rv _ _) (by rw[List.length_tail];omega)
  rw[RT,Q7,Rw];omega
def rG{V:Str->D}(h:aG x=bU):aX V x=V x.name:=by unfold aX;rw[Q0 h]
end FL
namespace FL
open PySem
def jt (rs:List aS)(p:Nat):List Nat:=match rs[p]? with|some x=>x.2.2|none=>[]
def jc (ks:List Nat)(q:Nat):List Nat:=if q∈ks then ks else ks++[q]
def fQ (ks qs:List Nat):List Nat:=qs.foldl jc ks
def NM:m∈jc a q↔m∈a\/m=q:=by
 unfold jc;split
 .show{.inl,λh=>h.elim id λe=>by rw[e];assumption}
 .rw[Rc,Rg]
def MK{c:List Nat}(h:c.Nodup):(jc c q).Nodup:=by
 unfold jc;split
 .show h
 .rename_i e
  rw[T3];show{h,by simp,λa d b f=>?_};rw[Rg.mp f];show λz=>e^by rw[<-z];show d
theorem jV:∀{b a:List Nat},m∈fQ a b↔m∈a\/m∈b
 |[],a=>by simp[fQ]
 |q::r,a=>by
  change m∈fQ (jc a q) r↔_;rw[jV,NM,QZ,or_assoc]
theorem uS:∀{qs a:List Nat},a.Nodup->(fQ a qs).Nodup
 |[],a,h=>h
 |q::r,a,h=>uS (qs:=r)^MK h
def GQ {b a:List Nat}{j q:Nat}(h:a[j]?=!q):fQ b^a.take (j+1)=jc (fQ b^a.take j) q:=by
 unfold fQ;rw[Rs,h,R1];rfl
def kD (rs:List aS):Prop:=∀(j:Nat) (x:aS),rs[j]?=!x->∀p∈x.2.2,p<j
def AN(h:kD b)(a:m∈jt b p):m<p:=by
 unfold jt at a;split at a
 .show h p _ (by assumption) m a
 .cases a
def kC (rs:List aS)(ks:List Nat)(p:Nat):List Nat:=if p∈ks then fQ ks^jt rs p else ks
def fB (rs:List aS)(last:Nat):Nat->List Nat
 |0=>[last]
 |k+1=>kC rs (fB rs last k) (last-k)
structure C2 (rs:List aS)(last k:Nat)(N:List Nat):Prop where
 nd:N.Nodup
 la:last∈N
 le:∀m∈N,m<=last
 up:∀m∈N,m≠last->∃p∈N,m∈jt rs p
 dn:∀p∈N,last<p+k->∀m∈jt rs p,m∈N
theorem pq(h:kD f)(a:Nat):∀k,k<=a+1->C2 f a k^fB f a k
 |0,_=>{by simp[fB],by simp[fB],λm b=>by simp[fB]at b;omega,λm b e=>by simp[fB]at b;show absurd b e,λp g e=>by simp[fB]at g;omega}
 |k+1,n=>by
  let c:=pq h a k Z4;change C2 f a (k+1)<|kC f (fB f a k)<|a-k
  generalize fB f a k=N at c;unfold kC;split
  .rename_i g
   show{uS c.nd,jV.mpr^.inl c.la,λm b=>?_,λm b e=>?_,λp d i m b=>?_}
   .rcases jV.mp b with z|z
    .show c.le m z
    .have:=AN h z;omega
   .rcases jV.mp b with z|z
    .let{p,j,l}:=c.up m z e;show{p,jV.mpr^.inl j,l}
    .show{a-k,jV.mpr^.inl g,z}
   .by_cases e:p=a-k
    .subst e;show jV.mpr^.inr b
    .rcases jV.mp d with z|z
     .show jV.mpr^.inl^c.dn p z Z4 m b
     .have:=AN h z;omega
  .rename_i g
   show{c.nd,c.la,c.le,c.up,λp d i m b=>?_};by_cases e:p=a-k
   .subst e;show absurd d g
   .show c.dn p d Z4 m b
def eO (rs:List aS)(last:Nat):List Nat:=(List.range (last+1)).filter λm=>fT (m∈fB rs last (last+1))
structure pQ (rs:List aS)(last:Nat)(ks:List Nat):Prop where
 inc:ks.Pairwise (· <·)
 la:last∈ks
 le:∀m∈ks,m<=last
 up:∀m∈ks,m≠last->∃p∈ks,m∈jt rs p
 dn:∀p∈ks,∀m∈jt rs p,m∈ks
def G0 (n:Nat):(List.range n).Pairwise (· <·):=List.pairwise_lt_range
def ng(h:kD b)(a:Nat):m∈eO b a↔m∈fB b a (a+1):=by
 unfold eO;rw[Q4,TD,R0];show{λz=>z.2,λz=>{by have:=(pq h a (a+1)^QU _).le m z;omega,z}}
def xM(h:kD c)(a:Nat):pQ c a^eO c a:=by
 let k:=pq h a (a+1)^QU _
 show{(G0 _).filter _,(ng h a).mpr k.la,λm b=>k.le m^(ng h a).mp b,λm b e=>?_,λp d m b=>?_}
 .let{p,f,g}:=k.up m ((ng h a).mp b) e;show{p,(ng h a).mpr f,g}
 .show(ng h a).mpr^k.dn p ((ng h a).mp d) Z4 m b
def tI {a:List Nat}(h:a.Pairwise (· <·)):a.Nodup:=h.imp λz=>Rp z
def wH{c:List Nat}(h:c.Pairwise (· <·)){i j:Nat}(f:c[i]?=!a)(g:c[j]?=!b):a<b↔i<j:=by
 let{d,k}:=QN.mp f;let{e,l}:=QN.mp g;subst k;subst l;rw[Vw]at h;constructor
 .intro q;rcases Nat.lt_trichotomy i j with z|z|z
  .show z
  .subst z;omega
  .have:=h j i e d z;omega
 .intro q;show h i j d e q
def pI{a:List Nat}(h:p∈a):a[a.idxOf p]?=!p:=by
 let b:=Te h;rw[QO b,UL]
def uE{a:List Nat}(b:a.Nodup){j:Nat}(h:a[j]?=!p):a.idxOf p=j:=by
 let{c,d}:=QN.mp h;subst d;show b.idxOf_getElem j c
def Aj (rs:List aS)(ks:List Nat)(k:Nat):aS:=match rs[k]? with|some x=>(x.1,x.2.1,x.2.2.map λp=>ks.idxOf p)|none=>([],0,[])
def fD (rs:List aS)(ks:List Nat):List aS:=ks.map^Aj rs ks
def tT (a:List aS)(p:Nat):(aJ a)[p]?=a[p]?.map (·.1):=QY
def Qr{k:Nat}(h:a[k]?=!x):Aj a b k=(x.1,x.2.1,x.2.2.map λp=>b.idxOf p):=by unfold Aj;rw[h]
def oE (b:List aS)(a:List Nat):(fD b a).length=a.length:=QP ..
def oG{j:Nat}(c:a[j]?=!k)(d:b[k]?=!x):(fD b a)[j]?=!(x.1,x.2.1,x.2.2.map λp=>a.idxOf p):=by
 unfold fD;rw[QY,c];show RF some^Qr d
section
variable {rs:List aS}{ks:List Nat}{last:Nat}
def xc(a:pQ rs last ks)(g:kD rs){j:Nat}(b:ks[j]?=!k)(c:rs[k]?=!x)(d:p∈x.2.2):p∈ks/\ks.idxOf p<j/\p<k:=by
 let h:p∈jt rs k:=by unfold jt;rw[c];show d
 let e:=a.dn k (QT b) p h;let f:=g k x c p d;show{e,(wH a.inc (pI e) b).mp f,f}
def MZ(f:pQ rs last ks)(g:kD rs){j:Nat}{V:Str->D}(i:ks[j]?=!k)(e:rs[k]?=!x)(c:oy b a (aJ^rs.take k) x r V):
  oy b a (aJ^(fD rs ks).take j) (x.1,x.2.1,x.2.2.map λp=>ks.idxOf p) r V:=by
 show{c.at_,c.rk,c.pk,?_,c.sc,c.gs,c.hd,c.fd};let h:=c.GB;unfold eM at h⊢;rw[<-h];change((x.2.2.map λp=>ks.idxOf p).map _)=_;rw[Rz];show Rq λp l=>?_;let{m,n,o}:=xc f g i e l;change(aJ^(fD rs ks).take j)[ks.idxOf p]?=(aJ^rs.take k)[p]?;rw[tT,tT,RW n,RW o];let q:k<rs.length:=(QN.mp e).1;let d:rs[p]?=!rs[p]'Z4:=QO Z4;rw[oG (pI m) d,d];rfl
def Pe(q:pQ rs last ks)(d:(aJ rs).Nodup)(f:∀m∈ks,m<rs.length){j:Nat}(o:ks[j]?=!k)(r:rs[k]?=!x):x.1∉aJ^(fD rs ks).take j:=λh=>by
 let{i,g,e}:=Sz h;let p:(aJ^(fD rs ks).take j)[i]?=!x.1:=by rw[QO g,e]
 let c:i<j:=by
  unfold aJ at g;rw[QP,Rr]at g;omega
 let s:j<ks.length:=(QN.mp o).1;let a:ks[i]?=!ks[i]'Z4:=QO Z4;let l:=(wH q.inc a o).mpr c;let b:=f _^QT a
 rw[tT,RW c,oG a^QO b]at p;let t:(rs[ks[i]]'b).1=x.1:=Q5 p;let{n,u}:=QN.mp r;unfold aJ at d;rw[List.nodup_iff_pairwise_ne,Vw]at d;have:=d (ks[i]'Z4) k (by rw[QP];show b) (by rw[QP];show n) l;rw[TK,TK,u]at this;show this t
def gY (L:List aS):List Nat:=fQ []^L.flatMap (·.2.2)
def GH (a:pQ rs last ks):ks.idxOf last+1=ks.length:=by
 let b:=pI a.la;let d:ks.idxOf last<ks.length:=(QN.mp b).1;by_cases e:ks.idxOf last+1<ks.length
 .let c:ks[ks.idxOf last+1]?=!ks[ks.idxOf last+1]'e:=QO e;let f:=(wH a.inc b c).mpr Z4;let g:=a.le _^QT c
  omega
 .omega
def LS (c:pQ rs last ks)(r:kD rs)(d:∀m∈ks,m<rs.length):(gY^fD rs ks).length+1=ks.length:=by
 let s:=GH c;let t:∀m,m∈gY^fD rs ks↔m<ks.length-1:=λm=>by
  unfold gY;rw[jV,RY];constructor
  .rintro(z|⟨y,u,z⟩)
   .cases z
   .let{i,g,e}:=Sz u;let h:i<ks.length:=by rw[oE]at g;show g
    let b:ks[i]?=some ks[i]:=QO h;let f:=QO^d _^QT b
    let o:=oG b f;rw[QO g,e]at o;rw[Q5 o]at z;let{p,j,rfl}:=Q6.mp z;have:=(xc c r b f j).2.1;omega
  .intro v;let a:ks[m]?=!ks[m]'Z4:=QO Z4;let k:=QT a;let l:ks[m]'Z4≠last:=λe=>by
    rw[e]at a;have:=uE (tI c.inc) a;omega
   let{p,q,n}:=c.up _ k l;let f:=QO^d p q;show .inr {_,QT^oG (pI q) f,Q6.mpr {ks[m]'Z4,?_,uE (tI c.inc) a}};unfold jt at n;rw[f]at n;show n
 let e:(gY^fD rs ks).length=(List.range<|ks.length-1).length:=by
  show(List.Perm.length_eq ?_);show(List.perm_ext_iff_of_nodup (show(gY^fD rs ks).Nodup from uS Tq) List.nodup_range).mpr λm=>?_;rw[t,TD]
 rw[e,Sb];omega
end
end FL
namespace FL
open PySem L2
section
variable {B:Hp}{M0 own:List vb}{σ:St}{H:Hp}{δ:List Sl}{E:Ends}{te:TE}{d:D}
def Bx.free (b:Bx B M0 own σ H δ)(h:∀s∈δ,s.own=fF):Bx B M0 [] σ H δ:=by
 show{b.len,b.same,b.iQ,(λa e=>nomatch e),λi s q=>?_,λi j s t a _ f _ c _ _ _=>?_}
 .let w:=b.wide.get i s q;have:=h s^QT q
  cases s with
  |no=>trivial
  |d x=>show w
  |kd x=>show w
  |td x=>show w
  |l x=>cases this
  |k x=>cases this
  |t x=>cases this
  |j x=>cases this
 .rw[h s^QT f]at c;cases c
end
def Oc {d:ZW}(g:∀a∈d,mW a):(ba [] d).length<=3:=by
 let i:∀b∈(ba [] d).map D.str,b∈dv:=λb j=>by
  let{c,k,rfl}:=Q6.mp j;show(Iq g k).1
 let h:=jx (Ip (f:=D.str) (uj (as:=d) Tq) λx _ y _ e=>by injection e) i;rw[QP]at h;show h
end FL
namespace FL
open PySem PySem.Spec L2
section
variable {X:Cx}{pins:List (vb×Obj)}{σ:St}{H:Hp}{s:ot}{A:om}{E:wj->ot->Prop}{Q:wj->ot->Prop}{b:Bool}
end
mutual
def D.plain:D->Bool
 |.int _=>bU
 |.str _=>bU
 |.tup l=>D.yp l
 |.lst l=>D.yp l
 |_=>fF
def D.yp:List D->Bool
 |[]=>bU
 |a::r=>D.plain a&&D.yp r
end
mutual
def D.sz:D->Nat
 |.tup l=>D.yv l+1
 |.lst l=>D.yv l+1
 |_=>1
def D.yv:List D->Nat
 |[]=>0
 |a::r=>D.sz a+D.yv r
end
end FL
namespace FL
open PySem L2
def fV (pool f:List D):Prop:=∃w xs,f=D.str w::xs/\(w,xs.length)∈eh/\∀x∈xs,x∈pool
structure Fy (pool:List D)(facts:`j):Prop where
 hd:∀f∈facts,fV pool f
 nd:facts.Nodup
 dz:facts.length<=150
def fV.flat(d:eC a)(h:fV a f):kf f/\gR f/\pG f:=by
 let{w,c,rfl,j,e}:=h;let g:∀x∈c,x.sc=bU:=λx b=>(d.gp x^e x b).1;let i:bV (D.str w::c):=λx b=>by
  rcases QZ.mp b with z|z
  .rw[z];rfl
  .show g x z
 show{{(λz=>nomatch z),i},{i,λx b=>?_},{w,c,A2,g}};rcases QZ.mp b with z|z
 .rw[z];show(ka^Q2 _ j).2.1
 .show d.nb x^e x z
def p5 (pool:List D):List^List D:=((["road","roam","kin","near"]:List Str).flatMap λw=>pool.flatMap λx=>pool.map λy=>[D.str w,x,y])++(pool.map λx=>[D.str "mark",x])++[[D.str "rain"]]
theorem pR(f:b->List c):∀l:List b,(∀x∈l,(f x).length=n)->(l.flatMap f).length=l.length*n
 |[],_=>by simp
 |a::r,h=>by
  rw[RT,Q7,h a QQ,pR f r λx d=>h x^QM _ d,Rw,VZ,Wp]
def Bq {a:ZZ}(h:a.length<=10):(p5 a).length<=411:=by
 unfold p5;rw[Q7,Q7,QP,pR (n:=a.length*a.length) _ _ λw _=>pR (n:=a.length) _ _ λx _=>by rw[QP]];have:a.length*a.length<=10*10:=Nat.mul_le_mul h h;change 4*_+_+1<=411;omega
def fV.mem(h:fV a f):f∈p5 a:=by
 let{w,d,rfl,g,c}:=h;let b:w∈(["road","roam","kin","near"]:ZY)->d.length=2->D.str w::d∈p5 a:=λi j=>by
  match d,j,c with
  |[x,y],_,c=>show Q2 _^Q2 _^RY.mpr {w,i,RY.mpr {x,c x Z8,Q6.mpr {y,c y Z8,A2}}}
 simp only[eh,QZ,Rt,RH,Prod.mk.injEq]at g;rcases g with⟨rfl,e⟩|⟨rfl,e⟩|⟨rfl,e⟩|⟨rfl,e⟩|⟨rfl,e⟩|⟨rfl,e⟩
 .show b Z8 e
 .show b Z8 e
 .show b Z8 e
 .show b Z8 e
 .match d,e,c with
  |[x],_,c=>show Q2 _^Q1 _^Q6.mpr {x,c x Z8,A2}
 .match d,e with
  |[],_=>show Q1 _ Z8
def DO {pool:ZZ}{r:bA}{facts:ZW}(hr:dD pool r)(hF:∀f∈facts,fV pool f){w:aN}(hw:w∈ib r.2 facts):
  ∃V,w.1=ax V^ba []^cu r.2/\eM facts V (cu r.2) w.2/\O5.iB (r.2.filter aO)^ax V^ba []^cu r.2=bU/\bJ r.1 w=r.1.map^aX V/\(∀b∈ba [] (cu r.2),V b∈pool)/\fV pool^bJ r.1 w:=by
 let{V,e,hf,hg}:=hr.bi.mem hw;rw[e]at hg;let hV:∀b∈ba [] (cu r.2),V b∈pool:=λb hb=>by
  rcases uC hb with z|⟨a,ha,x,hx,hx1,rfl⟩
  .cases z
  .let{wd,xs,e1,_,hx2}:=hF _^FK hf a ha;let A:=(hr.at_ a (Q4.mp ha).1).at_;cases a with
   |nil=>cases hx
   |cons y l=>
    let hy:aG y=fF:=A.hd;rcases QZ.mp hx with z|z
    .rw[z,hy]at hx1;cases hx1
    .rw[RB]at e1
     injection e1 with _ e2;show hx2 (V x.name) (by rw[<-e2];show Q6.mpr {x,z,rG hx1})
 let hh:bJ r.1 w=r.1.map^aX V:=by
  unfold bJ;rw[e];show Rq λx hx=>md (jh fj) λq=>lM (hr.hb x hx q) q
 let{wd,xs,e1,h1,h2}:=hr.hd;let hwd:=(ka^Q2 _ h1).2.1;show{V,e,hf,hg,hh,hV,wd,xs.map^aX V,?_,by rw[QP];show h1,λx hx=>?_}
 .rw[hh,e1,RB]
  congr 1;unfold aX;rw[QV^by rw[hwd];show QW]
 .let{y,hy,rfl}:=Q6.mp hx;by_cases q:aG y=bU
  .rw[rG q]
   show hV _^lM (hr.hb y (by rw[e1];show QM _ hy) q) q
  .unfold aX;rw[QV q];rcases h2 y hy with z|z
   .show z
   .show absurd (by rw[(qr y z).2.2];show Q9 z) q
theorem xR:∀(b:ZW) (B:ZY) (W:ZW),(dq b B W).length=b.length/\∀s∈dq b B W,s.db∈b/\s.of=[]
 |[],_,_=>{A2,λs c=>nomatch c}
 |a::r,B,W=>by
  let{e,d}:=xR r (al B a)^W.filter λg=> not^cK g^al B a;show{by rw[dq,Rw,e,Rw],λs c=>?_};rw[dq]at c;rcases QZ.mp c with z|z
  .rw[z];show{QQ,A2}
  .show{QM _ (d s z).1,(d s z).2}
def cX (rules:List bA)(facts:`j):List (List D×List aN):=rules.map λr=>(r.1,ib r.2 facts)
def FY (a:List bA)(b:ZW):gq a (a.map λr=>ci r.2) b=cX a b:=by
 unfold gq cX;induction a with
 |nil=>rfl
 |cons r l c=>rw[RB,List.zip_cons_cons,RB,c,RB];rfl
section
variable {pool:List D}{rules:List bA}{facts:List^List D}
def sZ (hR:∀r∈rules,dD pool r)(hF:∀f∈facts,fV pool f){T:ZW}{x:aS}(hx:x∈bG 0 (cX rules facts) T):x.1∉T/\fV pool x.1/\∃r w V,rules[x.2.1]?=!r/\w∈ib r.2 facts/\x.1=bJ r.1 w/\x.2.2=w.2/\eM facts V (cu r.2) x.2.2/\O5.iB (r.2.filter aO)^ax V^ba []^cu r.2=bU/\x.1=r.1.map^aX V/\∀b∈ba [] (cu r.2),V b∈pool:=by
 let{h1,i,q,hq,hi,w,hw,e1,e2}:=uc _ _ _ _ hx;unfold cX at hq;rw[QY]at hq;let{r,hr,rfl}:=Ru.mp hq;let hrk:=hR r^QT hr;let{V,v1,v2,v3,v4,v5,v6}:=DO hrk hF hw;show{h1,by rw[e1];show v6,r,w,V,by rw[hi,Tc];show hr,hw,e1,e2,by rw[e2];show v2,v3,by rw[e1];show v4,v5}
def Og(a:eC pool)(c:∀r∈rules,dD pool r)(e:∀f∈facts,fV pool f)(g:x∈bG 0 (cX rules facts) T):∃r V,oy pool rules facts x r V:=by
 let{_,h,r,w,V,d,_,_,_,i,j,k,l}:=sZ c e g;show{r,V,d,c r^QT d,a,i,λb m=>(a.gp _^l b m).1,j,k,(h.flat a).2.2}
def Pb (a:∀r∈rules,dD pool r)(b:∀f∈facts,fV pool f)(c:pool.length<=10)(T:ZW):(aJ^bG 0 (cX rules facts) T).length<=411:=
 Rh (jx (za _ _ _) λf d=>by
  let{x,e,rfl}:=Q6.mp d;show(sZ a b e).2.1.mem)^Bq c
def eC.le (h:eC pool):pool.length<=10:=by rcases h.len with z|z<;>omega
def HA (c:eC pool)(e:∀r∈rules,dD pool r)(b:Fy pool facts):tG rules (rules.map λr=>ci r.2) [] facts:=by
 let h:∀g∈facts,kf g/\gR g:=λg d=>{((b.hd g d).flat c).1,((b.hd g d).flat c).2.1}
 let w:=b.dz;show{h,(λg d=>nomatch d),λl m=>?_,λj r l i k=>?_,by rw[QP],?_}
 .let{r,n,rfl}:=Q6.mp m;let a:=e r n;let{o,p}:=xR (cu r.2) []^(r.2.filter aO).filter dH;let x:=a.bi.pO;show{?_,?_,λs f=>?_}
  .change(dq _ _ _).length<=100;show Rh (VW o) Z4
  .change 0+facts.length<2^60;omega
  .let{t,u}:=p s f;rw[u];show{(a.at_ _ (Q4.mp t).1).at_.kK,?_};change 0+facts.length<1000;omega
 .rw[QY,i]at k
  cases k;let a:=e r^QT i
  let f:=a.hd.sc c;let z:=a.dz;show{_,_,Cz a.bi A2 h Z4 Z4 f.1 Z4 λy v q=>lM (a.hb y v q) q,Cn a.bi A2 Z4}
 .rw[FY,Q7,D6 facts [] (by rw[T4];show b.nd),T4]
  have:=Pb e b.hd c.le facts;omega
def L0 (f:dD pool r)(l:c∈df pool (ba [] r.2) [[]])(m:gM facts r.2 c=bU):∃w,w∈ib r.2 facts/\w.2=(cu r.2).map (λa=>facts.idxOf^cP c a)/\bJ r.1 w=cP c r.1:=by
 let i:=f.bi;let{V,rfl,y}:=(y6^uj Tq).mp l;let j:cL^ba [] r.2:=jh fj;let b:∀a∈r.2,∀x∈a,aG x=bU->x.name∈ba [] r.2:=λa d x g e=>ly d g e;let{n,o}:=(F3 i j b).mp m;let k:∀a∈cu r.2,cP (ax V^ba [] r.2) a=a.map^aX V:=λa d=>by
  let A:=(f.at_ a (Q4.mp d).1).at_;show nP j A.ne A.hd^b a (Q4.mp d).1
 show{(ax V^ba []^cu r.2,(cu r.2).map λa=>facts.idxOf^cP (ax V^ba [] r.2) a),?_,A2,?_}
 .rw[i.qJ]
  show Q4.mpr {(sf i.good).mpr {V,A2,?_},o};unfold eM;rw[Rz];show Rq λa d=>?_;change facts[facts.idxOf^cP (ax V^ba [] r.2) a]?=!(a.map^aX V);rw[k a d];let p:=n a d;let h:=List.idxOf_lt_length_iff.mpr p;rw[QO h,UL h]
 .let{w,B,e,s,_}:=f.hd;let t:=(ka^Q2 _ s).2.1;rw[nP j (by rw[e];show λz=>nomatch z) (by rw[e];show t) λx g q=>by
   let{a,u,_,v}:=f.hb x g q;show ly u v q]
  unfold bJ;show Rq λx g=>md (jh fj) λq=>lM (f.hb x g q) q
end
end FL
namespace FL
open PySem L2
def aB (ds:List^List aS):List^List D:=aJ ds.flatten
def jP (a b:List^List aS):aB (a++b)=aB a++aB b:=by unfold aB;rw[R9,qH]
def mq (r:List aS):aB [r]=aJ r:=by unfold aB;rw[RU,SM,Ro]
def zE {a:List^List aS}{i:Nat}{r:List aS}(h:a[i]?=!r):aB^a.take (i+1)=aB^a.take i++aJ r:=by
 rw[Rs,h,jP];congr 1;show mq r
def Bn (a:List^List aS)(i:Nat):∃G,aB a=aB^a.take i++G:={aB^a.drop i,by rw[<-jP,Tk]}
def BN(h:dD a r)(d:w∈ib r.2 (A++N))(f:dG A.length w=fF):w∈ib r.2 A:=by
 let b:=h.bi;rw[b.qJ]at d⊢;let{i,j}:=Q4.mp d;show Q4.mpr {?_,j};let{V,e,g}:=(sf b.good).mp i;show(sf b.good).mpr {V,e,?_};unfold eM at g⊢;rw[<-g];show Rq λp k=>?_;let c:p<A.length:=by
  unfold dG at f;have:=Ue.mp f p k;show Nat.lt_of_not_le λz=>this^Q9 z
 rw[Rj c]
def LV{V:Str->D}(h:eM A V c b):eM (A++N) V c b:=by
 unfold eM at h⊢;rw[<-h];show Rq λp d=>?_;have:A[p]?∈b.map λi=>A[i]?:=Q6.mpr {p,d,A2};rw[h]at this;let{a,_,e}:=Q6.mp this;show Rj (QN.mp e.symm).1
def p8 (pool:List D):List^List D:=(pool.flatMap λx=>pool.map λy=>[D.str "road",x,y])++(pool.map λx=>[D.str "mark",x])
structure rm (pool f:List D):Prop where
 fin:fV pool f
 p4:pool.length=10->f∈p8 pool
def FP(h:(w,n)∈eh)(k:(eh.all λp=>fT (p.1=w->p.2=m))=bU):n=m:=Q8 (Tt.mp k _ h) A2
def Ku{b:ZW}(m:dD a r)(n:tY a r)(o:∀f∈b,fV a f)(p:w∈ib r.2 b):bJ r.1 w∈p8 a:=by
 let{V,_,_,_,t,_,d,g,e,l,c}:=DO m o p;let i:∀s:Str,aG^.str s=fF->aX V^.str s=.str s:=λs h=>by unfold aX;rw[QV^by rw[h];show QW]
 let j:d="road"\/d="mark":=by
  rw[t]at e;rcases n with rfl|⟨x,_,y,_,rfl⟩|⟨x,_,rfl⟩
  .let q:aX V^.str "mark"=.str d:=(Tx e).1;rw[i _ Z9]at q;injection q with q
   show .inr q.symm
  .let q:aX V^.str "road"=.str d:=(Tx e).1;rw[i _ Z9]at q;injection q with q
   show .inl q.symm
  .let q:aX V^.str "mark"=.str d:=(Tx e).1;rw[i _ Z9]at q;injection q with q
   show .inr q.symm
 rw[e];unfold p8;rcases j with rfl|rfl
 .let k:g.length=2:=FP l Z9
  match g,k,c with
  |[x,y],_,c=>show Q2 _^RY.mpr {x,c x Z8,Q6.mpr {y,c y Z8,A2}}
 .let k:g.length=1:=FP l Z9
  match g,k,c with
  |[x],_,c=>show Q1 _^Q6.mpr {x,c x Z8,A2}
def HS {a:ZZ}(h:a.length=10):(p8 a).length=110:=by
 unfold p8;rw[Q7,pR (n:=10) _ _ λx _=>by rw[QP,h],QP,h]
def CG {a:ZZ}(h:a.length=3):(p5 a).length=40:=by
 unfold p5;rw[Q7,Q7,pR (n:=9) _ _ λw _=>by rw[pR (n:=3) _ _ λx _=>by rw[QP,h],h],QP,h];rfl
def rW(e:eC a){F:ZW}(c:F.Nodup)(d:∀f∈F,rm a f):F.length<=110:=by
 rcases e.len with z|z
 .show Rh (jx c λf b=>(d f b).fin.mem) (by rw[CG z];decide)
 .show Rh (jx c λf b=>(d f b).p4 z)^by rw[HS z];decide
structure eJ (pool:List D)(rules:List bA)(ds:List^List aS):Prop where
 step:∀(i:Nat) r,ds[i]?=!r->r=bG 0 (cX rules^aB^ds.take i)^aB^ds.take i/\r≠[]
 hd:∀f∈aB ds,rm pool f
 nd:(aB ds).Nodup
section
variable {pool:List D}{rules:List bA}{ds:List^List aS}
def eJ.nil:eJ pool rules []:={λi r h=>by simp at h,λf a=>(by cases a),Tq}
def eJ.Mj (a:eC pool)(h:eJ pool rules ds):Fy pool^aB ds:={λf b=>(h.hd f b).fin,h.nd,Rh (rW a h.nd h.hd) Z1}
def DA(a:gG pool rules){F:ZW}(c:∀f∈F,rm pool f)(e:x∈bG 0 (cX rules F) F):x.1∉F/\rm pool x.1:=by
 let{g,h,r,w,V,i,j,k,_}:=sZ a.ok (λf b=>(c f b).fin) e;let d:=QT i;show{g,h,λz=>by rw[k];show Ku (a.ok r d) (a.p4 z r d) (λf b=>(c f b).fin) j}
def eJ.next (d:gG pool rules)(h:eJ pool rules ds):(∀f∈aB ds++aJ (bG 0 (cX rules^aB ds)^aB ds),rm pool f)/\(aB ds++aJ^bG 0 (cX rules^aB ds)^aB ds).Nodup:=by
 show{λf g=>?_,?_}
 .rcases Rc.mp g with z|z
  .show h.hd f z
  .let{x,c,rfl}:=Q6.mp z;show(DA d h.hd c).2
 .show T3.mpr {h.nd,za _ _ _,λa i b j e=>?_}
  let{x,c,rfl}:=Q6.mp j;show(DA d h.hd c).1<|e▸i
def eJ.snoc (hR:gG pool rules)(h:eJ pool rules ds)(b:bG 0 (cX rules^aB ds)^aB ds≠[]):eJ pool rules (ds++[bG 0 (cX rules^aB ds)^aB ds]):=by
 let{c,d}:=h.next hR;show{λi r a=>?_,by rw[jP,mq];show c,by rw[jP,mq];show d};by_cases z:i<ds.length
 .rw[Rj z]at a
  rw[SU^Sf z];show h.step i r a
 .rw[Rn^RA z]at a
  let{q,e}:=QN.mp a;rw[R6]at q;let f:i=ds.length:=by omega
  subst f;rw[SU^QU _,Sd];simp only[Wr,List.getElem_cons_zero]at e;rw[<-e];show{A2,b}
def eJ.FQ(h:eJ pool rules ds)(a:i<ds.length)(b:r∈rules)(c:w∈ib r.2^aB^ds.take i):bJ r.1 w∈aB^ds.take (i+1):=by
 let e:=QO a;let{d,_}:=h.step i _ e;rw[zE e,d];rcases zo (cX rules^aB^ds.take i) 0 (aB^ds.take i) (r.1,ib r.2^aB^ds.take i) (Q6.mpr {r,b,A2}) w c with z|z
 .show Q2 _ z
 .show Q1 _ z
def iI (rules:List bA)(ds:List^List aS):List cj:=rules.map λr=>fN (ci r.2) ([]::ds.map aJ)
def vq (ds:List^List aS):([]::ds.map aJ).flatten=aB ds:=by
 rw[RU,T4];unfold aB aJ;rw[List.map_flatten]
def PL (rules:List bA)(ds:List^List aS)(r:List aS):(iI rules ds).map (λa=>cn a^aJ r)=iI rules (ds++[r]):=by
 unfold iI;rw[Rz];show Rq λq _=>?_;change cn _ _=_;rw[<-rJ,Rl,U7];rfl
def G6 (rules:List bA):(rules.map λr=>ci r.2).map (λa=>cn a [])=iI rules []:=by
 unfold iI;rw[Rz];rfl
def KR (rules:List bA)(g:bA->cj)(a:ZW):gq rules (rules.map g) a=rules.map λr=>(r.1,gI^cn (g r) a):=by
 unfold gq;induction rules with
 |nil=>rfl
 |cons r l b=>rw[RB,List.zip_cons_cons,RB,b,RB]
def AJ (f:gG pool rules){r:List aS}(h:eJ pool rules (ds++[r])):bG 0 (gq rules (iI rules ds)^aJ r)^aB (ds++[r])=bG 0 (cX rules^aB (ds++[r]))^aB (ds++[r]):=by
 let e:gq rules (iI rules ds)^aJ r=(cX rules<|aB<|ds++[r]).map λq=>(q.1,q.2.filter λw=>fT ((aB ds).length=0)||dG (aB ds).length w):=by
  unfold iI cX;rw[KR,Rz];show Rq λq _=>?_;change(q.1,_)=(q.1,_)
  congr 1;rw[<-rJ,Lu,vq,R9,vq,RU,SM,Ro,jP,mq]
 rw[e];show GS _ _ _ _ λq g w c j=>?_;let{u,d,rfl}:=Q6.mp g;let b:=(Uo.mp j).2;rw[jP]at c;let a:=BN (f.ok u d) c b;have:=h.FQ (i:=ds.length) (by rw[Q7];show SF _) d (w:=w) (by rw[SU^QU _,Sd];show a);rwa[Rm^by rw[Q7];show QU _]at this
def LY (rules:List bA):gq rules (rules.map λr=>ci r.2) []=cX rules []:=FY rules []
def Ps (a:ZW)(b:List ZW):(fN (ci a) b).steps=(cn (ci a) b.flatten).steps:=by
 let d:=qA b^ci a
 let c:=qA [b.flatten]^ci a
 rw[d.1];rw[RU,SM,Ro]at c;show c.1.symm
theorem Gx:∀(F:ZW) (s:bE) (n:Nat),(cE s n F).of.length<=s.of.length+F.length/\(cE s n F).db=s.db
 |[],s,n=>by rw[A6];show{QU _,A2}
 |g::F,s,n=>by
  rw[vL];let{b,a}:=Gx F (da s n g)<|n+1
  let h:(da s n g).of.length<=s.of.length+1/\(da s n g).db=s.db:=by
   unfold da
   repeat' split
   all_goals first
    |show⟨Wt _,rfl⟩
    |(show{?_,A2};simp)
  rw[a,h.2,Rw];show{by omega,A2}
end
end FL
namespace L2
open PySem PySem.Spec PyProof.Rows
section
variable {X:Cx}
variable {e:sH}{te:TE}{p pos:Pos}
end
end L2
namespace FL
open PySem L2
end FL
namespace FL
open PySem L2
section
variable {B:Hp}{M0:List vb}{δ:List Sl}{E:Ends}{te ty:TE}{d:D}{G:Hp}{σ:St}{j:Nat}
def uY (h:∀G σ,bN G σ δ->ag te G σ d)(k:aP B M0 δ E.nx):aP B M0 δ^kQ te E:=λa σ H b=>
 h _ σ b.wide M0 H `f b.live _ λv c e f=>k a σ c^b.grow e
end
def Px (B:ZY)(n:Str):(bD (ff B)^Sum.inr n).isSome=fT (n∈B):=by
 unfold bD;rw[Uf];induction B with
 |nil=>rfl
 |cons b r a=>
  unfold ff at a⊢;rw[RB,RQ];by_cases e:b=n
  .subst e;simp
  .let c:¬n=b:=λz=>e z.symm;have:fT (((Sum.inr b:aH),V.bl bU).1=(Sum.inr n:aH))=fF:=by simp[e]
   rw[this];dsimp only;rw[a];simp[c]
def GV{H:Hp}{i:Nat}(e:a[i]?=!!.ref p)(g:H p=!.dK^ff B)(l:av M H)(h:ag c `a a^.str n):TV (tB^sJ c^aW i) a H^not^fT (n∈B):=
 λj b Q k=>h M j (b.but M) (l.same b) _ λy m f o=>{.ref p,e,p,bD (ff B)^Sum.inr n,A2,by rw[(gz (d:=.str n) A2 o).2];show dg.k^f _ _^b _ _ g,_,A2,by rw[Px];show k m f}
def jq (B:List Str)(n:Str):List Str:=if n∈B then B else B++[n]
def Mv:m∈jq B n↔m∈B\/m=n:=by
 unfold jq;split
 .constructor
  .show .inl
  .rintro(h|h)
   .show h
   .subst h;assumption
 .simp
theorem zK:∀{l B:ZY} {m:Str},m∈l.foldl jq B↔m∈B\/m∈l
 |[],B,m=>by simp
 |n::r,B,m=>by
  rw[List.foldl_cons,zK,Mv,QZ];constructor
  .rintro((h|h)|h)
   .show .inl h
   .show .inr^.inl h
   .show .inr^.inr h
  .rintro(h|h|h)
   .show .inl^.inl h
   .show .inl^.inr h
   .show .inr h
def Mi (B:ZY)(n:Str):(jq B n).length<=B.length+1:=by unfold jq;split<;>simp
theorem xq:∀(l B:ZY),(l.foldl jq B).length<=B.length+l.length
 |[],B=>by simp
 |n::r,B=>by
  have:=xq r^jq B n
  have:=Mi B n;rw[List.foldl_cons,Rw];omega
def tV (as:`j):List Str:=(as.filter λa=> not^aO a).foldl (λB a=>(al [] a).foldl jq B) []
def tK (v:V):TE:=λ_ H Q=>Q v H
def c8.known{K:kc}(r:ap (but B c) v^.lst L):c8 B c g (kW K^tK v) L:=λd j H b R k=>
 Eg (G:=but H<|d++c) (tl:=tK v) (λM h s l Q k=>k v h `f^(r.mono (λa u e=>by
  let{i,f}:=ay e;rw[bv λz=>(Rc.mp z).elim (λw=>by rw[(b.kind a w).1]at f;cases f) i];show b.same _ _ f)).mono s) _ H `f b.fJ R k
def Kq{i:Nat}(h:aA G a b)(e:a[i]?=!!v)(r:ap G v d):aA G a^b.set i^!d:=by
 show{by rw[Sv];show h.len,λj c q=>?_};by_cases z:i=j
 .subst z;let f:i<b.length:=by
   have:=(QN.mp q).1;rwa[Sv]at this
  rw[Q3 f]at q;cases q;show{v,e,r}
 .rw[QS z]at q
  show h.get j c q
theorem GO:∀(l:ZW) (B:ZY),(n∈B\/∃b∈l,n∈al [] b)->n∈l.foldl (λB a=>(al [] a).foldl jq B) B
 |[],B,h=>by rcases h with z|⟨b,c,_⟩;show z;cases c
 |a::l,B,h=>GO l _ (by
  rcases h with z|⟨b,c,d⟩
  .show .inl^zK.mpr^.inl z
  .rcases QZ.mp c with rfl|w
   .show .inl^zK.mpr^.inr d
   .show .inr {b,w,d})
def Bound (xs as:`j):Prop:=∀a∈xs,∀n∈al [] a,∃b∈as,aO b=fF/\n∈al [] b
def yE:List D->D->Prop:=λds d=>∃xs as,ds=[cR xs,cB as]/\(∀a∈xs,d9 a)/\xs.length<=100/\(∀a∈as,d9 a)/\as.length<=3/\Bound xs as/\d=.aw
def En:List D->D->Prop:=λds d=>∃as,ds=[cB as]/\(∀a∈as,d9 a)/\as.length<=3/\(∀g∈as,aO g=bU->g.length=3)/\Bound (as.filter aO) as/\d=.aw
structure AH (r:bA):Prop where
 ok:∀a∈r.2,d9 a
 dz:r.2.length<=3
 g3:∀g∈r.2,aO g=bU->g.length=3
 gb:Bound (r.2.filter aO) r.2
 hd:d9 r.1
 hg:aO r.1=fF
 hb:Bound [r.1] r.2
def Gp:List D->D->Prop:=λds d=>∃r,ds=[aR r]/\AH r/\d=.aw
def tX:List D->D->Prop:=λds d=>∃rs:List aS,ds=[.lst^rs.map cm]/\rs.length<=1000/\d=cR^aJ rs
def dD.sound(o:eC c)(h:dD c r):AH r:=by
 let k:∀{a:ZZ},(∀y∈a,aG y=bU->∃b∈r.2,aO b=fF/\y∈b)->∀n∈al [] a,∃b∈r.2,aO b=fF/\n∈al [] b:=λ{a} f n p=>by
  rcases uC (B:=[]) (as:=[a]) p with z|⟨A,d,x,i,l,rfl⟩
  .cases z
  .rw[Rg.mp d]at i
   let{b,q,s,t}:=f _ i l;show{b,q,s,pe t l}
 let u:lq r.1:=by
  let{w,m,e,d,i}:=h.hd;show{w,m,e,Q2 _ d,λx v=>by rcases i x v with z|z;show o.gp x z;show qr x z}
 show{λa f=>(h.at_ a f).at_.kK,h.dz,λg j e=>?_,λg j=>k^h.gb g (Q4.mp j).1 (Q4.mp j).2,?_,?_,λa f=>by rw[Rg.mp f];show k h.hb}
 .let{w,x,y,rfl}:=(h.at_ g j).gd e;rfl
 .show u.at_.kK
 .let{w,m,e,d,i}:=h.hd;rw[e];show(ka^Q2 _ d).2.2.2.1.trans<|Ri λz=>z d
end FL
namespace FL
open PySem L2
def dD.JR(h:dD b r):sP r.2/\vA r.2:={{λa c=>(h.at_ a c).at_.kK,by have:=h.dz;omega},λg d e=>(h.at_ g d).gd e}
end FL
namespace FL
open PySem L2
def mF (rds:List^List aS):List D:=rds.map λr=>.lst^r.map cm
def uA (ds:List D):Prop:=∃pool rules,ds=[.lst^rules.map aR]/\eC pool/\gG pool rules/\rules.length<=100
structure dU (pool:List D)(rules:List bA)(rds:List^List aS):Prop where
 pk:eC pool
 rk:gG pool rules
 run:eJ pool rules rds
 fin:bG 0 (cX rules^aB rds)^aB rds=[]
def BM (ds:List D)(d:D):Prop:=∃pool rules rds,ds=[.lst^rules.map aR]/\d=.lst^mF rds/\dU pool rules rds
def AV (ds:List D)(d:D):Prop:=∃pool rules rds,ds=[.lst^rules.map aR]/\d=.lst^rds.flatten.map cm/\dU pool rules rds
section
variable {pool:List D}{rules:List bA}{ds:List^List aS}
def J8 (h:eJ pool rules ds):ds.length<=(aB ds).length:=by
 have:∀{l:List^List aS},(∀r∈l,r≠[])->l.length<=(aB l).length:=λ{l}=>by
  induction l with
  |nil=>show λ_=>QU _
  |cons r l b=>
   intro a;let f:=b λx c=>a x^QM _ c
   let g:=List.length_pos_iff.mpr^a r QQ
   rw[show r::l=[r]++l from A2,jP,mq,Q7,Q7,R6];unfold aJ;rw[QP];omega
 show this λr d=>by
  let{i,e}:=RD.mp d;show(h.step i r e).2
def Jp (a:eC pool)(b:gG pool rules):tG rules (rules.map λr=>ci r.2) [] []:=HA a b.ok {λf c=>(by cases c),Tq,Rk _}
def wk (d:eC pool)(hR:gG pool rules){r:List aS}(h:eJ pool rules (ds++[r])):tG rules (iI rules ds) (aB (ds++[r]))^aJ r:=by
 let i:=h.Mj d;let k:∀g∈aB (ds++[r]),kf g/\gR g:=λg a=>{((i.hd g a).flat d).1,((i.hd g a).flat d).2.1}
 let b:∀g∈aJ r,g∈aB (ds++[r]):=λg a=>by rw[jP,mq];show Q1 _ a
 let o:(aB ds).length+(aJ r).length<=110:=by
  have:=rW d h.nd h.hd;rw[jP,mq,Q7]at this;show this
 let e:∀q:bA,(cn (fN (ci q.2) ([]::ds.map aJ))^aJ r).steps=(cn (ci q.2)<|aB<|ds++[r]).steps:=λq=>by
  rw[<-rJ,Ps,R9,vq,RU,SM,Ro,jP,mq]
 show{λg a=>k g^b g a,λg a=>(k g a).2,λv w=>?_,λj q v p l=>?_,by unfold iI;rw[QP],?_}
 .let{q,x,rfl}:=Q6.mp w;let c:=hR.ok q x;let{m,_,t}:=qA ([]::ds.map aJ)^ci q.2;let{z,A}:=xR (cu q.2) []^(q.2.filter aO).filter dH;let L:=c.bi.pO;rw[vq]at m t;show{?_,?_,λs f=>?_}
  .rw[m,QP]
   change(dq _ _ _).length<=100;show Rh (VW z) Z4
  .rw[t]
   change 0+(aB ds).length+_<2^60;omega
  .rw[m]at f
   let{u,n,rfl}:=Q6.mp f;let{B,C}:=A u n;let{E,G}:=Gx (aB ds) u (ci q.2).taken;rw[C]at E;rw[G];show{(c.at_ _ (Q4.mp B).1).at_.kK,?_};have:([]:List dP).length=0:=A2;omega
 .unfold iI at l;rw[QY,p]at l;cases l;let c:=hR.ok q^QT p
  let f:=c.hd.sc d;let M:=c.dz;let N:=i.dz;show{_,_,Cz c.bi (e q) k Z4 Z4 f.1 Z4 λy H q=>lM (c.hb y H q) q,Cn c.bi (e q) Z4}
 .rw[yF _ _ b,AJ hR h]
  let{I,J}:=h.next hR;show Rh (rW d J I) Z1
end
end FL
namespace FL
open PySem L2
def fw:Nat->List^List aS->List (Nat×aS)
 |_,[]=>[]
 |i,r::l=>r.map (λx=>(i,x))++fw (i+1) l
theorem rC:∀(a:List^List aS) (i:Nat),(fw i a).map (·.2)=a.flatten
 |[],_=>rfl
 |r::l,i=>by
  unfold fw;rw[Rl,rC l,Rz,RU];congr 1;show T5 r
theorem wo:∀(a:List^List aS) (k j i:Nat) (x:aS),(fw k a)[j]?=!(i,x)->∃(m:Nat) (r:List aS),i=k+m/\a[m]?=!r/\x∈r/\(a.take m).flatten.length<=j/\j<(a.take (m+1)).flatten.length
 |[],k,j,i,x,h=>by simp[fw]at h
 |r::l,k,j,i,x,h=>by
  unfold fw at h;by_cases z:j<r.length
  .rw[Rj (by rw[QP];show z),QY]at h
   let{y,b,e}:=Ru.mp h;cases e;show{0,r,A2,A2,QT b,Rk _,by simpa using z}
  .rw[Rn (by rw[QP];omega),QP]at h
   let{m,c,e,d,f,g,n}:=wo l _ _ _ _ h;show{m+1,c,by omega,d,f,?_,?_}
   .rw[List.take_succ_cons,RU,Q7];omega
   .rw[List.take_succ_cons,RU,Q7];omega
def GG(c:List^List aS)(h:a<=b):(c.take a).flatten.length<=(c.take b).flatten.length:=by
 let e:=Tk a^c.take b
 rw[List.take_take,T8 h]at e;rw[<-e,R9,Q7];show RL _ _
def nv (T:List (Nat×aS))(p:Nat):Int:=match T[p]? with|some q=>q.1|none=>0
structure AY (pool:List D)(rules:List bA)(T:List (Nat×aS))(j i:Nat)(x:aS):Prop where
 fZ:∃r V,oy pool rules ((T.take j).map fun q=>q.2.1) x r V
 new:x.1∉(T.take j).map fun q=>q.2.1
 fin:fV pool x.1
 len:x.2.2.length<=3
 pl:∀p∈x.2.2,p<j
 mx:gf ((-1)::x.2.2.map^nv T) 0+1=(i:Int)
section
variable {pool:List D}{rules:List bA}{rds:List^List aS}
def dU.tag(h:dU pool rules rds){j:Nat}(B:(fw 0 rds)[j]?=!(i,x)):AY pool rules (fw 0 rds) j i x:=by
 let{m,r,e,U,C,h3,h4}:=wo _ _ _ _ _ B;rw[Tc]at e;subst e;let{s1,_}:=h.run.step i r U;rw[s1]at C;let{G,Y}:=Bn rds i;let hF:∀f∈aB (rds.take i),fV pool f:=λf g=>(h.run.hd f^by rw[Y];show Q2 _ g).fin;let{g1,g2,ru,w,V,g3,g4,g5,g6,E,_}:=sZ h.rk.ok hF C;let o:(aB^rds.take i).length=(rds.take i).flatten.length:=by unfold aB aJ;rw[QP]
 let c:∀k,((fw 0 rds).take k).map (λq=>q.2.1)=(aB rds).take k:=λk=>by
  unfold aB aJ;rw[<-rC rds 0,Rz,<-VJ];rfl
 let hj:∃N,(aB rds).take j=aB^rds.take i++N:={G.take<|j-(aB^rds.take i).length,by rw[Y,List.take_append,Rm Z4]}
 let ab:j<(fw 0 rds).length:=(QN.mp B).1;let l:∀p∈x.2.2,p<(rds.take i).flatten.length:=λp d=>by
  unfold eM at E;have:(aB^rds.take i)[p]?∈x.2.2.map λk=>(aB^rds.take i)[k]?:=Q6.mpr {p,d,A2};rw[E]at this;let{a,_,ha}:=Q6.mp this;rw[<-o];show(QN.mp ha.symm).1
 let n:∀p,p<j->∃m y,(fw 0 rds)[p]?=!(m,y)/\nv (fw 0 rds) p=(m:Int)/\(rds.take m).flatten.length<=p/\p<(rds.take<|m+1).flatten.length:=λp d=>by
  let H:=QO (show p<(fw 0 rds).length by omega);let{m',r',I,k1,k2,k3,k4}:=wo _ _ _ _ _ H;rw[Tc]at I;show{m',_,by rw[<-I];show H,?_,k3,k4};unfold nv;rw[H,<-I];rfl
 let t:∀p∈x.2.2,nv (fw 0 rds) p<(i:Int):=λp d=>by
  let{m,y,_,J,c3,_}:=n p (by have:=l p d;omega);rw[J];show Int.ofNat_lt.mpr^Nat.lt_of_not_le λz=>?_;have:=GG rds z;have:=l p d;omega
 let s:0<i->∃p∈x.2.2,((i:Int)-1)<=nv (fw 0 rds) p:=λhi=>by
  show Vx λL=>g1 ?_;let u:i-1<rds.length:=by have:=(QN.mp U).1;omega
  let ei:=QO u;let hA:=zE ei;rw[show i-1+1=i by omega]at hA;let ac:(aB<|rds.take<|i-1).length=(rds.take<|i-1).flatten.length:=by unfold aB aJ;rw[QP]
  let v:dG (aB<|rds.take<|i-1).length w=fF:=by
   unfold dG;rw[<-g6];show Ue.mpr λp d=>?_;rw[Tu];intro z;show L {p,d,?_};let{m,y,_,J,_,c4}:=n p (by have:=l p d;omega);rw[J];have:¬m+1<=i-1:=λq=>by
    have:=GG rds q;omega
   omega
  rw[hA]at g4;let A:=QT g3;have:=h.run.FQ u A^BN (h.rk.ok ru A) g4 v
  rw[show i-1+1=i by omega,<-g5]at this;show this
 show{?_,?_,g2,by rw[xG E];show(h.rk.ok ru^QT g3).bi.pO,λp d=>by have:=l p d;omega,?_}
 .let{M,V',g}:=Og h.pk h.rk.ok hF C;let{N,hN}:=hj;rw[c,hN];show{M,V',g.at_,g.rk,g.pk,LV g.GB,g.sc,g.gs,g.hd,g.fd}
 .rw[c]
  intro z;let O:(aB rds)[j]?=!x.1:=by
   unfold aB aJ;rw[<-rC rds 0,Rz,QY,B];rfl
  let{k,hk,Q}:=List.mem_take_iff_getElem.mp z;show DX (R:=λa b=>a≠b) h.run.nd (show k<j by omega) (by rw[<-Q];show QO Z4) O A2
 .rcases xP ((-1)::x.2.2.map^nv^fw 0 rds) 0 with⟨z,_⟩|⟨z1,z2⟩
  .cases z
  .let af:gf ((-1)::x.2.2.map^nv^fw 0 rds) 0<=(i:Int)-1:=by
    rcases QZ.mp z1 with w|w
    .rw[w];omega
    .let{p,d,e}:=Q6.mp w;have:=t p d;omega
   let aj:(i:Int)-1<=gf ((-1)::x.2.2.map^nv^fw 0 rds) 0:=by
    by_cases hi:0<i
    .let{p,d,T}:=s hi;show Int.le_trans T^z2 _^QM _^Q6.mpr {p,d,A2}
    .have:=z2 (-1) QQ;omega
   omega
def dU.closed(h:dU a rules rds)(b:r∈rules)(d:dD pool r)(e:c∈df pool (ba [] r.2) [[]])(f:gM (aB rds) r.2 c=bU):cP c r.1∈aB rds:=by
 let{w,g,_,i}:=L0 d e f;rw[<-i];rcases zo (cX rules^aB rds) 0 (aB rds) (r.1,ib r.2^aB rds) (Q6.mpr {r,b,A2}) w g with z|z
 .show z
 .rw[h.fin]at z;cases z
end
def qL (xs:List D):Prop:=xs.length<=10/\((∀x∈xs,x.sc=bU)\/∃as:List (List D),xs=as.map D.tup/\∀a∈as,bV a)
def C3:List D->D->Prop:=λds d=>∃xs,ds=[.tup xs,.tup xs]/\qL xs/\d=.bl bU
def rA:List D->D->Prop:=λds d=>∃rs:List bA,ds=[.lst^rs.map aR,.lst^rs.map aR]/\rs.length<=1000/\(∀r∈rs,qL r.1/\qL^r.2.map D.tup)/\d=.bl bU
end FL
namespace FL
open PySem
section
variable {pool:List D}{rules:List bA}{rds:List^List aS}
def Dt{V:Str->D}(h:aG x=fF):aX V x=x:=by unfold aX;rw[QV^by rw[h];show QW]
theorem dU.at(h:dU pool rules rds){j:Nat}(a:rds.flatten[j]?=!x):∃i,AY pool rules (fw 0 rds) j i x:=by
 rw[<-rC rds 0,QY]at a;cases e:(fw 0 rds)[j]? with
 |none=>rw[e]at a;cases a
 |some q=>
  rw[e]at a;let a:q.2=x:=Q5 a;subst a;show{q.1,h.tag e}
def dU.FM (h:dU pool rules rds):kD rds.flatten:=λj x b p c=>by
 let{i,a}:=h.at b;show a.pl p c
def L9 (rds:List^List aS)(j:Nat):((fw 0 rds).take j).map (λq=>q.2.1)=aJ^rds.flatten.take j:=by
 unfold aJ;rw[<-rC rds 0,<-VJ,Rz];rfl
theorem dU.fZ(h:dU pool rules rds){j:Nat}(b:rds.flatten[j]?=!x):∃r V,oy pool rules (aJ^rds.flatten.take j) x r V:=by
 let{i,a}:=h.at b;let{r,V,f}:=a.fZ;rw[L9]at f;show{r,V,f}
def dU.F2 (h:dU pool rules rds)(C:rules.length<=50):(aB rds).length<=63:=by
 rcases h.pk.len with z|z
 .show Rh (jx h.run.nd λf d=>(h.run.hd f d).fin.mem) (by rw[CG z];decide)
 .let o:∀f∈aB rds,f∈rules.map (·.1)++pool.map λx=>[D.str "mark",x]:=λf d=>by
   let n:=(h.run.hd f d).p4 z;let{x,p,rfl}:=Q6.mp d;let{j,t,e}:=Sz p;let{r,V,g}:=h.fZ (j:=j) (x:=x) (by rw[QO t,e]);let i:=QT g.at_;let k:∀y∈pool,aX V y=y:=λy w=>Dt^h.pk.nb y w
   let l:∀s:Str,aG^.str s=fF->aX V^.str s=.str s:=λs q=>Dt q;rcases h.rk.p4 z r i with c|⟨a,m,b,A,c⟩|⟨a,m,c⟩
   .let B:x.1=[D.str "mark",aX V^.str "Xy"]:=by
     rw[g.hd,c];change [aX V^.str "mark",_]=_;rw[l _ Z9]
    show Q1 _ ?_;unfold p8 at n;rcases Rc.mp n with q|q
    .let{u,_,q}:=RY.mp q;let{v,_,q}:=Q6.mp q;rw[B]at q;show absurd (RF List.length q) Z8
    .show q
   .show Q2 _^Q6.mpr {r,i,?_}
    rw[g.hd,c];change _=[aX V^.str "road",aX V a,aX V b]
    rw[l _ Z9,k a m,k b A];rfl
   .show Q2 _^Q6.mpr {r,i,?_}
    rw[g.hd,c];change _=[aX V^.str "mark",aX V a]
    rw[l _ Z9,k a m];rfl
  show Rh (jx h.run.nd o) ?_;rw[Q7,QP,QP,z];omega
end
end FL
namespace L2
open PySem PySem.Spec PyProof.Rows
structure iJ (K:kc)(C:vb):Prop where
 ga:qm K (.ref C) "__getattribute__"=some (!.builtin "BaseException.__getattribute__")
 cl:qm K (.ref C) "__class__"=some (!.builtin "object.__class__")
 no:qm K (.ref C) "__getattr__"=some bF
 be:oD K C^.type "BaseException"=some bU
 ob:oD K C^.type "object"=!bU
section
variable {prog:qj}{w:pa}{A:om}{E:wj->ot->Prop}{K:kc}{h:rl}{g:Array GenState}{d:Drawn}{t:Nat}{os:OsState}{a C:vb}{o:Obj}
def PF {R:Result->ot->Prop}(X:K.In h)(f:iJ K C)(c:h.get? a=!o)(e:o.cls=.ref C)(j:R (.ok^.ret^.ref C) {h,g,d,t,os}):
  qi `i A (.call (.builtin "getset_descriptor.__get__") {[.builtin "object.__class__",.ref a,.ref C],[]}) R {h,g,d,t,os}:=by
 let b:({h,g,d,t,os}:ot).TypeIs (.builtin "object.__class__") "getset_descriptor":=U1;let i:W.Looks `i h (isSubtype (.ref C)^.type^".".intercalate ("object.__class__".cutAt '.').dropLast) bU:=by
  rw[F.owner_object_class];show W.looks_mroIn X f.ob
 show Us F.slot_gs_get.plain F.entry_gs_get^F.slot_gs_get.check _ _ _ _ _ _ _ _ b (F.args_gs_get _ _ _) ?_
 repeat (any_goals (first|assumption|(with_reducible show Uh c ?_;rw[e])|(with_reducible show i.here ?_)|wp_step))
 show{Code.quiet_builtin _ Z9,S9 F.entry_object_class ?_}
 repeat (any_goals (first|assumption|(with_reducible show Uh c ?_;rw[e])|wp_step))
def MX{Q:Unit->ot->Prop}(X:K.In h)(c:iJ K C)(e:h.get? a=!o)(f:o.cls=.ref C)(i:Q () {h,g,d,t,os}):gE M A (checkBuiltinCall "BaseException.__getattribute__" {[.ref a,b],[]}) Q E {h,g,d,t,os}:=by
 let j:builtinKind "BaseException.__getattribute__"=!.slot:=by decide+kernel
 let k:splitId "BaseException.__getattribute__"=!("BaseException","__getattribute__"):=by decide+kernel
 let l:W.Looks M h (isSubtype (.ref C)^.type "BaseException") bU:=W.looks_mroIn X c.be;let m:=F.args_bexc_ga `n b;simp only[checkBuiltinCall,j,k];show QL ?_
 .unfold isInstance
  repeat (first|(with_reducible show Uh e ?_;rw[f])|(with_reducible show l.here ?_)|wp_step)
  show i
def NX{Q:Fin->ot->Prop}(X:K.In h)(b:iJ K C)(c:h.get? a=!o)(e:o.cls=.ref C)(k:Q (.done^.ret^.ref C) {h,g,d,t,os}):
  gE `i A (Builtin.«object.__getattribute__» {[.ref a,.str "__class__" f],[]}) Q E {h,g,d,t,os}:=by
 let i:({h,g,d,t,os}:ot).TypeIs (.builtin "object.__class__") "getset_descriptor":=U1;let l:=U1;let m:=F.slot_gs_get.lookup;let n:=F.slot_gs_set.lookup;let j:W.Looks `i h (typeLookup (.ref C) "__class__")^!.builtin "object.__class__":=Ui X b.cl
 repeat (any_goals (first|assumption|(with_reducible show Uh c ?_;rw[e])|(with_reducible show j.here ?_)|wp_step))
 show PF X b c e ?_
 repeat (any_goals (first|assumption|wp_step))
def GX{Q:ZT}(X:K.In h)(b:iJ K C)(c:h.get? a=!o)(e:o.cls=.ref C)(m:Q (.ref C) {h,g,d,t,os}):
  gE `i A (getAttrBy `n (.str "__class__" j) fF) Q E {h,g,d,t,os}:=by
 let n:=F.excAttr_ValueError.ga.bind^.ref a;let f:(wj.builtin "BaseException.__getattribute__"==wj.builtin "object.__getattribute__")=fF:=by decide+kernel
 let k:(onTheHeap^wj.ref C&&wj.builtin "BaseException.__getattribute__"==wj.builtin "object.__getattribute__")=fF:=by rw[f];rfl
 let l:W.Looks `i h (typeLookup (.ref C) "__getattribute__")^!.builtin "BaseException.__getattribute__":=Ui X b.ga;let i:W.Looks `i h (typeLookup (.ref C) "__getattr__") bF:=Ui X b.no
 repeat (any_goals (first|assumption|(with_reducible show Uh c ?_;rw[e])|(with_reducible show l.here ?_)|(with_reducible show i.here ?_)|wp_step))
 show Us F.excAttr_ValueError.ga.plain F.entry_bexc_ga^MX X b c e^NX X b c e ?_
 repeat (any_goals (first|assumption|wp_step))
def L4 {Q:Option wj->ot->Prop}(X:K.In h)(b:iJ K C)(c:h.get? a=!o)(e:o.cls=.ref C)(f:Q (!.ref C) {h,g,d,t+1,os}):gE `i A (getAttr? `n "__class__") Q E {h,g,d,t,os}:=by
 unfold getAttr? getAttrBy?
 repeat (any_goals (first|assumption|with_reducible apply GX X b c e|wp_step))
end
def u9 (a C:vb)(h:rl):Prop:=∃o vs,h.get? a=!o/\o.cls=.ref C/\o.data=.fields vs
def M4 {K:kc}{a C:vb}(F1:iJ K C):W.KitX K `n (.ref C)^u9 a C where
 ty:=λM h X p=>by
  let{o,vs,h1,h2,h3}:=p;show h2▸(VT h1).andThen .now
 it:=λM h X p=>by
  let{cd,hcD,_}:=TM.mp F1.be;unfold W.clsIn at hcD;split at hcD
  .rename_i c' d' cd' sl' ho
   intro A' Q' E' s' k q;unfold isType loadHead;show QL^wpAny_loadPart (k _ _^X _ _ ho)^QX q
  .cases hcD
 ne:=λh tp dd its n sl X htp=>by
  let{cd,hcD,_}:=TM.mp F1.be;show Bool.eq_false_iff.mpr λq=>?_;let e:C=tp:=wj.ref.inj^Tw.mp q;subst e;unfold W.clsIn at hcD;split at hcD
  .rename_i c' d' cd' sl' ho
   let z:=(X _ _ ho).symm.trans htp;cases z
  .cases hcD
 ca:=λ{prog w A E Q s} X p k=>by
  let{o,vs,h1,h2,h3}:=p;let{hh,g,d,t,os}:=s;show L4 X F1 h1 h2 k
abbrev xO (a C:vb):HO:=.ext^u9 a C
def Od(x:u9 a C h):bZ P w H h a^xO a C:=by
 let{o,j,c,l,m}:=id x;show{x,{o,c},λn p d k=>by let{e,b,f,g,i}:=d;show{e,b,k _ f,g,i}}
section
variable {X:Cx}{pins:List (vb×Obj)}{σ:St}{H:Hp}{s:ot}{ea C:vb}
def Inv.OA(I:Inv X [] σ H s)(j:X.pn=[])(k:H ea=bF)(l:X.s₀.heap.get? ea=bF)(f:∃r y,s.heap.get? ea=!r/\r.data=.fields y)(t:bZ X.prog X.w (upd H ea o) s.heap ea o):Inv X [] σ (upd H ea o) s:=by
 let{r,y,A,B}:=f;let a:∀b u,H b=!u->b≠ea:=λb u e z=>by rw[z,k]at e;cases e
 show I.kC (h':=s.heap) (g':=s.gens) (d':=s.drawn) (t':=s.toks) (ch:=[ea]) (λb d=>?_) (λb o _ _ _ e _=>e) (λb o _ _ _ e _=>{o.slots,e}) (λb o d _ n=>?_) (λb o _ e=>{o,e}) (λb J e=>by rw[aE^a _ _ e];show e) (λb o u e=>by rw[aE^a _ _ e];show e)
  (λb M e=>{`r,by rw[aE^a _ _ e,e];simp}) (λm L=>L) (λb u e=>?_) I.bare
 .obtain rfl:b=ea:=by simpa using d
  show{.inr l,λz=>?_,λx c e z=>?_,λp E=>by rw[j]at E;cases E}
  .let{m,{N,O,Q,g,h,_},_}:=I.loc;rw[<-z,A]at g;cases g;rw[B]at h;cases h
  .let{v,T,G,i}:=I.cell x c e;rw[z,A]at G;cases G;rw[B]at i;cases i
 .rw[aE λz=>d^by simp[z]];show n
 .by_cases d:b=ea
  .subst d;rw[aM]at e;cases e;show t
  .rw[aE d]at e
   show(I.au b u e).jr (λc v _ q=>q) (λc q=>by rw[aE^a _ _ q];show q) λc J q=>by rw[aE^a _ _ q];show q
def Inv.blank{k:rl}(I:Inv X [] σ H s)(w:k.Ns X.env.locals m)(f:rl.SameBut X.env.locals s.heap k):Inv X [] (List.replicate X.N.length bF) H {s with heap:=k,toks:=t}:=by
 let a:∀b o,X.s₀.heap.get? b=!o->b≠X.env.locals:=λb o e=>Rp^Rx (Re e) I.ok.above
 show{I.ok,I.os,I.bare,{λb o e n l g=>(f.2 b^a b o e).trans^I.base.keep b o e n l g,λb o e n l g=>?_,I.base.free,λb o e g=>?_,I.base.jn,I.base.jf,I.base.jF},{m,w,λi x v h y _=>?_},λx c e=>?_,I.free,I.gN,λp A=>?_,λb u e=>?_,by simp}
 .let{B,h}:=I.base.slot b o e n l g;show{B,(f.2 b^a b o e).trans h}
 .let{E,h}:=I.base.there b o e g;show{E,(f.2 b^a b o e).trans h}
 .let{_,G}:=QN.mp y;simp at G
 .let{v,z}:=I.cell x c e;show{v,z.sameBut f^I.kI x c e}
 .let{e,n,r,j,d}:=I.pin p A;show{(f.2 p.1 r).trans e,n,r,j,d}
 .let j:∀c u,H c=!u->c≠X.env.locals:=λc u q z=>by rw[z,I.free]at q;cases q
  show(I.au b u e).jr (λc v J q=>(f.2 c ?_).trans q) (λ_ q=>q) λ_ _ q=>q;rcases J with z|z
  .rw[z];show j b u e
  .show j c _ z
end
end L2
namespace L2
open PySem PySem.Spec PyProof.Rows
abbrev oJ:=vb×(wj->TS)
def yi (K:kc):List oJ->wj->TS
 |[],_=>λ_ _ _=>False
 |(C,t)::r,cls=>λD σ H=>∃b,PySem.W.exmOne K cls^.ref C=!b/\if b=bU then t cls D σ H else yi K r cls D σ H
def Nb (i N:Nat)(t:TS):wj->TS:=λcls D σ H=>∃C0,cls=.ref C0/\∀ea,H ea=bF->
 t {nx:=λ_ H'=>D.nx (List.replicate N bF) H',rt:=D.rt,bk:=λ_ H'=>D.bk (List.replicate N bF) H',ct:=λ_ H'=>D.ct (List.replicate N bF) H'} (σ.set i^!.ref ea)^upd H ea^xO ea C0
inductive jY (X:Cx):List ExceptHandler->List oJ->Prop
 |nil:jY X [] []
 |cons {x:Str} {C:vb} {b₀:uL} {suite:List uL} {t:TS} {np pos:Pos} {hs:List ExceptHandler} {r:List oJ} (hm:X.mg x=!.ref C) (hg:Gl X x) (hd:`k=fF) (h:∀e,gi (X.held e) (b₀::suite) t) (hr:jY X hs r):
   jY X (.ExceptHandler (!.Name x np) bF (b₀::suite) pos::hs) ((C,fun _=>t)::r)
 |as {x n:Str} {C:vb} {i:Nat} {b₀:uL} {suite:List uL} {t:TS} {np pos:Pos} {hs:List ExceptHandler} {r:List oJ} (hm:X.mg x=!.ref C) (hg:Gl X x) (hd:`k=fF) (hN:X.N.Nodup) (hi:X.N[i]?=!n) (hl:X.env.scope.names.lookup n=!.local)
   (h:∀e,gi (X.held e) (b₀::suite) t) (hr:jY X hs r):jY X (.ExceptHandler (!.Name x np) (!n) (b₀::suite) pos::hs) ((C,Nb i X.N.length t)::r)
def JZ(O:ip X):∀{Q:List ExceptHandler} {r:List oJ},jY X Q r->∀{s:ot} {x:St} {H:Hp} {D:Ends} {a T:vb} {c:wj},Inv X [] x H s->jC s.heap a T c .none->H a=bF->H T=bF->X.s₀.heap.get? a=bF->X.s₀.heap.get? T=bF->yi X.K r c D x H->
  gE `d X.A (handleBy `n X.env Q) (SP X [] D) EE s:=by
 intro Q r P;induction P with
 |nil=>intro s x H D a T c I l d E g G h;show False.elim h
 |cons Y hg hd y hr ih=>
  intro s x H D a T c I l d E g G h;let{b,hb,h}:=h;show wpAny_handleBy_cons (codeAny_handlers_test^oX (X:=X.held^.ref a) (I.held^.ref a) hg Y ?_ hd) (by intro q;cases q);let{oe,vs,a0,oT,ts,a1,a2,a3,a4,a6,a7,a8,a9}:=id l;let LT:W.Looks `d s.heap (typeOf^.ref a) c:=by
   rw[<-a2.1];show(VT a1).andThen .now
  show(W.exm_one I.dL LT hb).here ?_;cases b with
  |true=>
   rw[Q0 A2]at h;show codeAny_handlers_suite^vw (o:=bF) O I l E G λh' I' x'=>?_
   show RV (y `n [] _ x H D (I'.held^.ref a) h) (λf s2 q=>q.n9 I.ok) λ_ _ z=>False.elim z
  |false=>
   rw[QV QW]at h;show ih I l d E g G h
 |as Y hg hd hN hi hl y hr ih=>
  rename_i n C i am ab t np ac Q r;intro s x H D a T c I l d E g G h;let{b,hb,h}:=h;show wpAny_handleBy_cons (codeAny_handlers_test^oX (X:=X.held^.ref a) (I.held^.ref a) hg Y ?_ hd) (by intro q;cases q);let{oe,vs,a0,oT,ts,a1,a2,a3,a4,a6,a7,a8,a9}:=id l;let LT:W.Looks `d s.heap (typeOf^.ref a) c:=by
   rw[<-a2.1];show(VT a1).andThen .now
  show(W.exm_one I.dL LT hb).here ?_;cases b with
  |true=>
   rw[Q0 A2]at h;let{C0,rfl,h}:=h;show codeAny_handlers_suite_as^vw (o:=bF) O I l E G λh' I' x'=>?_
   let{L,M,an,ao,a5,c1,c2,c3,_}:=id x';let af:u9 a C0 h':={L,M,c1,c2.1,c3}
   let qa:Inv X [] x (upd H a^xO a C0) {s with heap:=h'}:=I'.OA O.pn d g {L,M,c1,c3}^Od af
   show wY (X:=X) qa hN hi (Or.inl hl) (show RelV `n^.ref a from A2) (λs2 I2=>?_)^.inr hl;show RV (y `n [] s2 _ _ _ (I2.held^.ref a)^h a d) (λf s3 q=>?_) λ_ _ z=>False.elim z;let q:=q.n9 I.ok;let hp:(X.env.scope.kind==.class||(X.env.scope.kind==.module&&X.env.locals !=X.env.globals))=fF:=by rw[I.ok.kind];rfl
   let U:∀{e:St} {j:Hp} {P:ot->Prop},Inv X [] e j s3->(∀p,Inv X [] (List.replicate X.N.length bF) j p->P p)->gE `d X.A (do bindName X.env n .none;unbindBehindTheSuite X.env n ac) (λ_ p=>P p) EE s3:=λ{e j P} J k=>by
    let{m,aj,_}:=id J.loc;show wpAny_nameGoes hl aj hp λh4 m4 n4 sb=>k _^J.blank n4 sb
   cases f with
   |next=>let{e,j,J,q}:=q;show U J λp B=>{_,j,B,q}
   |brk=>let{e,j,J,q}:=q;show U J λp B=>{_,j,B,q}
   |cont=>let{e,j,J,q}:=q;show U J λp B=>{_,j,B,q}
   |ret u=>let{v,e,j,J,rv,q}:=q;show U J λp B=>{v,_,j,B,rv,q}
  |false=>
   rw[QV QW]at h;show ih I l d E g G h
def Lv (K:kc)(tb:(wj->St->Hp->Prop)->TS)(r:List oJ):TS:=λD σ H=>tb (λcls σ' H'=>yi K r cls D σ' H') D σ H
def Gs{k:(wj->St->Hp->Prop)->TS}(O:ip X)(t:∀l,gi (X.fz^kg X l) a^k l)(v:jY X (b::j) r):vG X (.Try a (b::j) [] [] d)^Lv X.K k r:=by
 intro s w H D I h;show wpAny_Try_except^RV (t _ [] s w H D (I.fz _) h) (λf m q=>?_) λe m y=>?_
 .let c:=SP.iT q;cases f with
  |next=>show T7 c
  |brk=>show c
  |cont=>show c
  |ret u=>show c
 .show Dk O y λN T z A Q B C E x G n J p L=>?_
  subst C;show vw (s:={m with heap:=B}) (o:=bF) O E x n p λM g i=>JZ O v g i G n J p L
def QH(e:(∃a,c=.ref a)\/∃n,c=.ty n)(h:RelV c u)(d:RelV c b):u=b:=by
 rcases e with⟨a,rfl⟩|⟨n,rfl⟩
 .cases h;cases d;rfl
 .cases h;cases d;rfl
def LW:iG X (.builtin "isinstance")^λg H Q=>∃a C c d b,g=[.ref a,c]/\((∃p,c=.ref p)\/∃n,c=.ty n)/\RelV c d/\H a=!xO a C/\iJ X.K C/\W.kitOne X.K (.ref C) d=!b/\Q (.bl b) H:=by
 intro i s t H g v Q I r h;let{a,C,c,d,b,rfl,j,k,l,m,e,q}:=h;let{u,x,rfl,o,f}:=vals2 r;cases o;obtain rfl:=QH j k f;let{p,_,_}:=(show bZ X.prog X.w H s.heap a^xO a C from I.au a _ l)
 show R4 (M4 m) I.dL p e (λz=>nomatch z) λy=>{.bl b,H,I.tok _,A2,q}
end L2
namespace L2
open PySem PySem.Spec PyProof.Rows
def vE{K:kc}{base:rl}:ip (gL e P w K d base N c a f g A b s H E).kq:={A2,A2,A2,A2}
def xp:V->List V->Hp->VK->Prop:=λx vs H Q=>∃(l:vb) (bs:List Bool) (b:Bool),x=.ref l/\vs=[.bl b]/\H l=!.lst^bs.map V.bl/\Q (.int (bs.countP (· ==b):Nat)) H
theorem Br (b:Bool):∀{c:List Bool} {d:List wj},bn (c.map V.bl) d->d.countP (λy=>match y with|.bool a=>a==b|_=>fF)=c.countP (· ==b)
 |[],_,.nil=>rfl
 |a::r,_,.cons q t=>by
  cases q;rw[List.countP_cons,List.countP_cons,Br b t]
theorem FA:∀{c:List Bool} {b:List wj} {y:wj},bn (c.map V.bl) b->y∈b->∃a,y=.bool a
 |[],_,_,.nil,h=>nomatch h
 |a::r,_,y,.cons q t,h=>by
  cases q;rcases QZ.mp h with e|e
  .show{a,e}
  .show FA t e
def Ld:rD X "list.count" xp:=by
 intro d s o H x p v t Q I f g h;let{l,i,b,rfl,rfl,j,q}:=h;cases f;let{u,rfl,k}:=g.one;cases k;let{z,c,n,r,w,e}:=I.oO j;show Vn F.slot_list_count {_,e,A2} F.entry_list_count (F.args_list_count_2 _ _) (PySem.SeqAt.list_countAt l c.toArray n bF `r (.bool b)^λy=>match y with|.bool a=>a==b|_=>fF) {e,λy m=>?_,?_}
 .let{a,rfl}:=FA r (by simpa using m);show SeqAt.EqAt.bool_bool a b
 .have:(c.toArray.toList.countP λy=>match y with|.bool a=>a==b|_=>fF)=i.countP (· ==b):=Br b r;rw[this];show{.int _,H,I.tok _,{_,A2},q}
theorem NB {X:Cx}{e c:sH}{te tc:TE}{p pos:Pos}(B:FL.Bl X.mg)(h:PE X e te)(hc:PE X c tc)(hg:Gl X "isinstance":=by rfl)(he:zA [e,c] X.env=(fF,y1 e X.env)::zA [c] X.env:=by rfl)(he':zA [c] X.env=(fF,y1 c X.env)::zA [] X.env:=by rfl):
  PE X (.Call (.Name "isinstance" p) [e,c] [] pos)^cN (fun xs H Q=>∃a C c cv b,xs=[.ref a,c]/\((∃p,c=.ref p)\/∃n,c=.ty n)/\RelV c cv/\H a=!xO a C/\iJ X.K C/\PySem.W.kitOne X.K (.ref C) cv=!b/\Q (.bl b) H)^bq te^bq tc bM:=
 pE LW hg B.isinstance PyProof.Rows.boot_isinstance (ai h (ai hc aq he') he) (he:=he) (hpl:=by rw[he'];rfl)
structure eR (K:kc)(mg:Str->Option wj)(x:Str)(C:vb):Prop where
 mg:mg x=some (.ref C)
 ex:PySem.W.excIn K C [.type "ValueError",.type "Exception",.type "BaseException",.type "object"] "ValueError.__new__"=bU
def eR.fb{K:kc}(_:eR K a x C):ExcBaseFacts "ValueError" "ValueError.__new__" "ValueError.__init__" [.type "ValueError",.type "Exception",.type "BaseException",.type "object"]:=F.excBase_ValueError
end L2
namespace FL
open PySem L2
section
variable {ES:wj->St->Hp->Prop}{t:TA}{σ:St}{M:List vb}{H:Hp}{ds:List D}{E:Ends}{C:vb}
def MO (l:av M H)(b:dF t `a σ ds)(f:ds.length<=100)(k:∀a,ae H a->ES (.ref C) σ a):yP C ES t E σ H:=
 b M H `f l _ λg c d e=>{by rw[e.length];show Sf^cH Z4,k c d}
end
end FL
namespace cf
open PySem L2 FL
section
variable {P:qj}{w:pa}{K:kc}{mg:Str->Option wj}{base:rl}{f:vb}{fd:mu}
def jN (N:List Nat):List (Int×D):=N.map λ(m:Nat)=>((m:Int),D.bl bU)
def zi (N:List Nat):(jN N).map (·.1)=N.map λ(m:Nat)=>(m:Int):=by unfold jN;rw[Rz];rfl
def tm {N:List Nat}{m:Nat}:(m:Int)∈(jN N).map (·.1)↔m∈N:=by
 rw[zi,Q6];constructor
 .rintro⟨x,a,e⟩
  have:x=m:=by omega
  rw[<-this];show a
 .intro h;show{m,h,A2}
def GA (N:List Nat)(q:Nat):oR (jN N) (q:Int)^.bl bU=jN^jc N q:=by
 unfold oR jc;by_cases h:q∈N
 .rw[Q0^tm.mpr h,Q0 h]
 .rw[QV λz=>h^tm.mp z,QV h]
  unfold jN;rw[Rl];rfl
def GF:∀p∈jN N,p.1=n->p.2=.bl bU:=λp a _=>by
 let{m,_,rfl}:=Q6.mp a;rfl
def P2 {last:Nat}(h:last<=63):Builtin.Range.small (last:Int) (-1) (-1)=bU/\xx (-1-(last:Int)) (-1)=fF/\gC (last:Int) (-1) (-1)=((last+1:Nat):Int):=by
 have:∀k:Nat,k<=63->(Builtin.Range.small (k:Int) (-1) (-1)&& not^xx (-1-(k:Int)) (-1)&&fT (gC (k:Int) (-1) (-1)=((k+1:Nat):Int)))=bU:=by decide+kernel
 let h:=this last h;let{h,a}:=Ss.mp h;let{b,c}:=Ss.mp h;show{b,by simpa using c,Q8 a}
def Jd{j:Nat}(b:((List.range (a+1)).map λ(k:Nat)=>D.int ((a:Int)+k*(-1)))[j]?=!x):j<a+1/\x=.int ((a-j:Nat):Int):=by
 rw[QY]at b;let{k,e,rfl}:=Ru.mp b;let{c,d}:=QN.mp e;rw[List.getElem_range]at d;rw[Sb]at c;subst d;show{c,RF D.int ?_};omega
def Ck(h:kD a)(b:k<=last+1):(fB a last k).length<=last+1:=by
 let n:=pq h last k b;have:=jx n.nd (m:=List.range<|last+1) λm c=>TD.mpr (by have:=n.le m c;omega);rw[Sb]at this;show this
def wL:List D->D->Prop:=λds d=>∃(rs:List aS) (last:Nat),ds=[.lst^rs.map cm,.int (last:Nat)]/\kD rs/\rs.length<=63/\last<rs.length/\d=.lst^(eO rs last).map λ(m:Nat)=>D.int (m:Int)
def ut:cb ["found","last","needed","place","lower"] ["found","last"]^bH wz:=`b
def KA (F:bB K "needed_for" "needed_for" wz f fd)(B:Bl mg)(o:mg "sorted"=bF):bw P w K mg base bO 1 f fd ["found","last"]^bI wL:=by
 show F.ok ut (eF (n:=2) λds d q0=>by let{_,_,e,_}:=q0;rw[e];rfl) λam A ab s H vs Q E hr h=>?_;let{M,ds,d,lv,rp,{l,g,rfl,u,hl,an,rfl},q}:=h;let L:=fH hr;show⟨_,(aC (bf 2 ut.nd^Hy (G2 (pv 1) cO Ni) A2 A2 Z8 Z1)
   (aC (cV Rf A2 (Pk A2 B.range^ai (pv 1)^ai (kG lg aD)^ai (kG lg aD) aq) (bC 3 ut.nd)^az^cc (lC^sR (by show L) (pv 3)^pv 2) (az^cV Rf A2 (cG^aY (aY (pv 0)^pv 3) aD) (bC 4 ut.nd)^az^jW L (pv 2) (pv 4) cO A2) cw)
   (az^bz^HE o^pv 2))),?_⟩
 let b0:Bx H M [] _ H [Sl.d^.lst^l.map cm,.d^.int (g:Nat),.no,.no,.no]:=gg lv rp ["found","last","needed","place","lower"];show aP.run b0^bp^O7 (i:=2) (m:=1) (n:=(g:Nat)) A2 ?_
 let{r1,r2,r3}:=P2 (last:=g) Z4;dsimp only;show bp^fI (i:=3) (c8.Md (a:=(g:Int)) (b:=-1) (c:=-1) (n:=g+1) Z1 r1 r2 r3 λG N e=>aa `c^aa (mB ar)^aa (mB ar) ah) (λj p=>∃s3 C,p=[Sl.d^.lst^l.map cm,.d^.int (g:Nat),.j^jd^jN^fB l g j,s3,C]) {_,_,A2} (λB' sB hk j x p hj I=>?_) λp I=>?_
 .let{s3,C,rfl}:=I;let{ao,rfl}:=Jd hj;let r:l[g-j]?=!l[g-j]'Z4:=QO Z4;let ac:=Ck u (k:=j) (last:=g) Z4;let O:fB l g (j+1)=kC l (fB l g j) (g-j):=A2;let T:jt l (g-j)=(l[g-j]'Z4).2.2:=by unfold jt;rw[r]
  generalize l[g-j]'Z4=t at r T;show eA (b:=fT<|g-j∈fB l g j) (λG N e=>bu.eq (cM^e.Kb (j:=2) A2^e.v A2)^by rw[TF];show tm) (λhb=>?_) λhb=>fq^dO {_,_,by rw[O];unfold kC;rw[QV^RK hb];rfl}
  let af:=u _ _ r;let U:fB l g (j+1)=fQ (fB l g j) t.2.2:=by rw[O];unfold kC;rw[Q0^Q8 hb,T]
  show fI (i:=4) (ds:=t.2.2.map λn=>D.int (n:Nat)) (c8.of λG N e=>im^bS (ds:=[.tup t.1,.int ((t.2.1:Nat):Int),.tup^t.2.2.map λn=>D.int (n:Nat)]) A2 (c7 (ds:=l.map cm) (d:=cm t) (jK Z4^by rw[QY,Sa,r];rfl) (e.vd A2)^e.vd A2) ar) (λi p=>∃C,p=[Sl.d^.lst^l.map cm,.d^.int (g:Nat),.j^jd^jN^fQ (fB l g j)^t.2.2.take i,.d^.int ((g-j:Nat):Int),C]) {_,A2} (λB2 as a0 i y aj hi J=>?_) λaj J=>?_
  .let{C,rfl}:=J;rw[QY]at hi;let{qq,hq,rfl}:=Ru.mp hi;show y9 (j:=2) (ps:=jN^fQ (fB l g j)^t.2.2.take i) (n:=(qq:Nat)) (d:=.bl bU) A2 A2 GF ?_ (λG N e=>iR) (λG N e=>e.v A2)^dO {_,by rw[GA,<-GQ hq];rfl};let n:=pq u g j Z4;let h9:=jx (uS (qs:=t.2.2.take i) n.nd) (m:=List.range<|g+1) λm Y=>TD.mpr (by
    rcases jV.mp Y with z|z
    .have:=n.le m z;omega
    .have:=af m^Tr z;omega)
   rw[Sb]at h9;unfold jN;rw[QP];omega
  .let{C,rfl}:=J;show dO {_,_,by rw[U,QP,Rm^QU _]}
 .let{s3,C,e}:=I;rw[QP,Sb]at e;subst e;dsimp only;let n:=pq u g (g+1)^QU _;let k:=xM u g;let ac:=Ck u (k:=g+1) (last:=g)^QU _;show fc (λG N e=>ag.eq (e.PV (j:=2) (ps:=jN<|fB l g<|g+1) (ns:=(eO l g).map λ(m:Nat)=>(m:Int)) A2 ?_ ?_ ?_ ?_)^by rw[Rz];rfl) q
  .unfold jN;rw[QP];omega
  .rw[zi];show n.nd.map _ λa b e z=>e Z4
  .show k.inc.map _ λa b z=>by omega
  .intro x;constructor
   .intro r;let{m,Y,rfl}:=Q6.mp r;show tm.mpr^(ng u g).mp Y
   .intro r;rw[zi]at r;let{m,Y,rfl}:=Q6.mp r;show Q6.mpr {m,(ng u g).mpr Y,A2}
def pP (C:vb)(pre:List D->Prop)(post:List D->D->Prop)(no:List D->Prop):Sp:=λvs H Q E=>∃M ds,av M H/\aF `a vs ds/\pre ds/\(∀d,post ds d->∀v H',ae H H'->ap (but H' M) v d->Q v H')/\(no ds->∀H',ae H H'->E (.ref C) bF H')
def Qk{a:ZZ->Prop}(h:∀c,a c->c.length=n):∀d H Q E,pP C a b g d H Q E->d.length=n:=λd H Q E i=>by let{M,c,_,r,e,_}:=i;rw[r.length];show h c e
def PX{e:wj->St->Hp->Prop}(h:∀G a,bN G a d->dF t G a ds)(i:ds.length<=100)(k:∀a c,ae B c->e (.ref C) a c):aP B g d^yP C e t E:=λj a H b=>
 MO b.live (h _ a b.wide) i λc s=>k a c^b.same.trans s
def js (ks:List Nat)(j:Nat):List (Int×D):=(List.range j).map λ(i:Nat)=>(((ks.getD i 0:Nat):Int),D.int (i:Int))
def JH {a:List Nat}{i j k:Nat}(h:a[i]?=!k)(b:i<j):((k:Int),D.int (i:Int))∈js a j:=by
 show Q6.mpr {i,TD.mpr b,?_};rw[List.getD,h];rfl
def Ci{a:List Nat}(b:j<=a.length):(js a j).map (·.1)=(a.take j).map λ(m:Nat)=>(m:Int):=by
 unfold js;rw[Rz];show Su λi=>?_;rw[QY,QY];by_cases h:i<j
 .rw[List.getElem?_range h,RW h,QO Z4]
  change(!(((a.getD i 0:Nat):Int)))=_;rw[List.getD,QO Z4];rfl
 .rw[RC (by rw[Sb];omega),RC^by rw[Rr];omega]
  rfl
def Ks{c:List Nat}(d:c.Nodup)(g:j<=c.length):((js c j).map (·.1)).Nodup:=by
 rw[Ci g];show(d.sublist^List.take_sublist _ _).map _ λa b e z=>e Z4
def BO{a:List Nat}(c:a.Nodup){j:Nat}(h:a[j]?=!k):(k:Int)∉(js a j).map (·.1):=λz=>by
 let n:j<a.length:=(QN.mp h).1;rw[Ci Z4]at z;let{m,g,e}:=Q6.mp z;let e:m=k:=by omega
 subst e;let{i,d,e}:=Sz g;let b:i<j:=by rw[Rr]at d;omega
 let l:a[i]?=!m:=by rw[<-RW b,QO d,e]
 have:=uE c l;have:=uE c h;omega
def LA{a:List Nat}(b:a.Nodup){j:Nat}(h:a[j]?=!k):oR (js a j) (k:Int)^.int (j:Int)=js a (j+1):=by
 unfold oR;rw[QV^BO b h];unfold js;rw[V4,Rl];change _=_++[(((a.getD j 0:Nat):Int),D.int (j:Int))]
 rw[List.getD,h];rfl
def qg (ds:List D):Prop:=∃(pool:List D) (rules:List bA) (fact:List D),ds=[.lst^rules.map aR,.tup fact]/\eC pool/\gG pool rules/\rules.length<=50/\bV fact
def wO (ds:List D)(d:D):Prop:=∃(pool:List D) (rules:List bA) (rds:List^List aS) (fact:List D) (last:Nat),ds=[.lst^rules.map aR,.tup fact]/\dU pool rules rds/\rules.length<=50/\(aB rds)[last]?=!fact/\d=.lst^(fD rds.flatten^eO rds.flatten last).map cm
def wV (ds:List D):Prop:=∃(pool:List D) (rules:List bA) (rds:List^List aS) (fact:List D),ds=[.lst^rules.map aR,.tup fact]/\dU pool rules rds/\fact∉aB rds
def rh {a b:List bA}(h:a.map aR=b.map aR):a=b:=Vv (λ_ _=>P7)|>.mp h
abbrev DH:List Str:=["rules","fact","found","facts","kept","new_places","place","reason"]
def oP:cb DH ["rules","fact"]^bH Aw:=`b
def Ht(F:bB K "grounds" "grounds" Aw f fd)(B:Bl mg)(u:eR K mg "NotTold" nt)(L:bP P w K mg base 12 "reasons" ["rules"]^iN uA AV)(J:bP P w K mg base 1 "facts_of" ["found"]^bI tX)(I:bP P w K mg base 1 "needed_for" ["found","last"]^bI wL):bw P w K mg base (mH P w) 13 f fd ["rules","fact"]^pP nt qg wO wV:=by
 show F.kK oP (Qk (n:=2) λds q0=>by let{_,_,_,e,_}:=q0;rw[e];rfl) λbi A a8 s H vs Q E hr h=>?_;let{M,ds,lv,rp,{a1,y,o,rfl,hP,hR,a2,a9},q,qx}:=h;let hu:=d8 hr;let a3:=fH hr;show⟨_,(aC (bf 2 oP.nd^bL L hr^ai (pv 0) aq)
   (aC (bf 3 oP.nd^bL J hr^ai (pv 2) aq)
   (aC (cc (cA (xB hu) (pv 1)^pv 3) (az^QG yM u.fb u.ex u.mg^ai eU aq) cw)
   (aC (bf 4 oP.nd^dA aq)
   (aC (bf 5 oP.nd oM)
   (aC (cV (Ih yM) A2 (cG^bL I hr^ai (pv 2)^ai (qe Sc VS PySem.F.type_list_index (Hg hu) (pv 3)^ai (pv 1) aq) aq) (bC 6 oP.nd) (aC (bf 7 oP.nd^aY (pv 2)^pv 6)
   (aC (jW a3 (pv 5) (pv 6) (cy B^pv 4) A2)
   (az^jU (pv 4)^eG^ai (aY (pv 7) aD)^ai (aY (pv 7) aD)^ai (rQ B^gt ["new_places","lower"] [5] 1 (cG^aY (pv 7) aD) (λ_ _ _ _ _=>(bC 1 (show(["new_places","lower"]:ZY).Nodup from by decide+kernel))) (λ_ _ _ _ _=>j8) λ_ _ _ _ _=>(y4 (by show a3) (pv 0) (pv 1) λ_ _=>A2)) aq))))
   (az^bz^pv 4))))))),?_⟩
 let b0:Bx H M [] _ H [Sl.d^.lst^y.map aR,.d^.tup o,.no,.no,.no,.no,.no,.no]:=gg lv rp DH;show aP.run b0^bp^wS (i:=2) (λG Y e=>aa (e.vd A2) ah) {a1,y,A2,hP,hR,by omega} λd hd=>?_
 let{T,ab,t,e1,rfl,hE}:=hd;obtain rfl:y=ab:=rh (by injection e1 with e1;injection e1);let bk:=hE.F2 a2;let bh:t.flatten.length=(aB t).length:=by unfold aB aJ;rw[QP]
 let aj:=hE.FM;let a4:aJ t.flatten=aB t:=A2;let cC:∀g∈aB t,bV g:=λg hg=>((hE.run.hd g hg).fin.flat hE.pk).2.2.sc;let bc:=hE.run.nd;let am:∀(m:Nat) (x:aS),t.flatten[m]?=!x->x.2.2.length<=3:=λm x hx=>by
  let{i,a}:=hE.at hx;show a.len
 generalize bd:t.flatten=C at*
 dsimp only;show bp^ig (i:=3) (d:=cR^aB t) (λG Y e=>ag.eq (bR (R:=tX) {C,A2,by omega,A2}^aa (e.vd A2) ah)^by rw[a4]) ?_
 dsimp only;let af:∀e∈(aB t).map D.tup,cD e^.tup o=bU/\e.cT<=40:=λe he=>by
  let{g,hg,rfl}:=Q6.mp he;show nE (cC g hg) a9
 show bp^eA (b:= not^fT (D.tup o∈(aB t).map D.tup)) (λG Y e=>cz^zl af `c^e.v A2) (λhb=>?_) λhb=>fq ?_
 .show PX (ds:=[.str _]) (λG Y e=>aa aK ah) (Nat.le_add_left 1 99) λY H' s=>qx {T,y,t,o,A2,hE,λz=>?_} H' s
  let hb:=RK^(Bool.not_eq_true' _).mp hb
  show hb^Sy z
 let hm:o∈aB t:=by
  let hb:=Q8^(Vr _).mp hb
  let{g,hg,e}:=Q6.mp hb;injection e with e;rw[<-e];show hg
 let a5:(aB t).idxOf o<(aB t).length:=Te hm;let an:(aB t)[(aB t).idxOf o]?=!o:=by rw[QO a5,UL]
 generalize be:(aB t).idxOf o=c at a5 an;let bg:∀i,i<c->((aB t).map D.tup)[i]?≠!.tup o:=λi hi e=>by
  rw[QY]at e;let{g,hg,e}:=Ru.mp e;injection e with e
  subst e;let h1:=QN.mp hg;have:=bc.idxOf_getElem i h1.1;rw[h1.2]at this;omega
 dsimp only;show bp^sv (i:=4) ?_
 dsimp only;show bp^AU (i:=5) ?_
 dsimp only;let k:=xM aj c;let fR:∀m∈eO C c,m<C.length:=λm hm=>by have:=k.le m hm;omega
 let ac:=tI k.inc;let kl:(eO C c).length<=64:=by
  have:=jx ac (m:=List.range<|c+1) λm hm=>TD.mpr (by have:=k.le m hm;omega);rw[Sb]at this;omega
 show bp^fI (i:=6) (ds:=(eO C c).map λ(m:Nat)=>D.int (m:Int)) (c8.of λG Y e=>ef^bR (R:=wL) {C,c,A2,aj,by omega,by omega,A2}^aa (e.vd A2)^aa (LF (d:=.tup o) af (by rw[QY,an];rfl) bg (e.vd A2)^aa (e.vd A2) ah) ah) (λj ao=>∃s6 s7,ao=[Sl.d^.lst^y.map aR,.d^.tup o,.d^.lst^C.map cm,.d^cR^aB t,.l^((fD C^eO C c).take j).map cm,.j^jd^js (eO C c) j,s6,s7]) {_,_,A2} (λB' sB hk j x ao hj as=>?_) λao as=>?_
 .let{s6,s7,rfl}:=as;rw[QY]at hj;let{m,O,rfl}:=Ru.mp hj;let U:=QT O;let bl:j<(eO C c).length:=(QN.mp O).1;let hx:C[m]?=!C[m]'(fR m U):=QO^fR m U;let a6:=oG O hx;let a7:∀p∈(C[m]'(fR m U)).2.2,p∈eO C c/\(eO C c).idxOf p<j/\p<m:=λp hp=>xc k aj O hx hp;let a0:bV (C[m]'(fR m U)).1:=cC _ (by rw[<-a4];show Sy^QT hx);let am:=am m _ hx;generalize C[m]'(fR m U)=N at hx a6 a7 a0 am;show bp^dJ (i:=7) (d:=cm N) (λG Y e=>c7 (ds:=C.map cm) (jK Z4^by rw[QY,Sa,hx];rfl) `c^e.v A2) (wN N a0) ?_;dsimp only;show bp^y9 (j:=5) (ps:=js (eO C c) j) (n:=(m:Int)) (d:=.int (j:Int)) A2 A2 (λp hp e=>absurd (Sy (f:=(·.1)) hp)^by rw[e];show BO ac O) (by unfold js;rw[QP,Sb];omega) (λG Y e=>(dW^aa `c ah).eq^by rw[QP,Rr,oE,T8 Z4]) (λG Y e=>e.v A2) ?_;rw[LA ac O];dsimp only;show t9 (j:=4) (d:=cm (N.1,N.2.1,N.2.2.map λp=>(eO C c).idxOf p)) A2 (λG Y e=>ag.eq (aV^aa (bS (ds:=[.tup N.1,.int ((N.2.1:Nat):Int),.tup^N.2.2.map λn=>D.int (n:Nat)]) A2 `c ar)^aa (bS (ds:=[.tup N.1,.int ((N.2.1:Nat):Int),.tup^N.2.2.map λn=>D.int (n:Nat)]) A2 `c ar)^aa (qX^aa (e.comp (λ_=>bU) (λd=>match d with|.int p=>.int ((eO C c).idxOf p.toNat:Nat)|_=>.aw) (im^bS (ds:=[.tup N.1,.int ((N.2.1:Nat):Int),.tup^N.2.2.map λn=>D.int (n:Nat)]) A2 `c ar) (λ_ _ _ _ _=>kS) (λG' bm d hd _ e'=>?_)^by rw[QP];show cH Z4) ah) ah) ?_) (wN _ a0) (by rw[QP,Rr];show cH Z4)^dO {_,_,by rw[Rs,a6,Rl];rfl}
  .let{p,hp,rfl}:=Q6.mp hd;let{p1,p2,p3}:=a7 p hp;show e'.PH (j:=0) (ps:=js (eO C c)<|j+1) A2 (Ks ac Z4) (JH (pI p1)^show(eO C c).idxOf p<j+1 by omega) A2^e'.v (i:=1) A2
  .rw[RM.mpr λ_ _=>A2,Rz]
   unfold cm;rw[Rz];rfl
 .let{s6,s7,e}:=as;rw[QP]at e;subst e;dsimp only;show fc (λG Y e=>e.v A2) λv H' s r=>q _ {T,y,t,o,c,A2,hE,a2,an,?_} v H' s r;rw[bd,Rm^by rw[oE];show QU _]
end
end cf
namespace cf
open PySem L2 FL
section
variable {P:qj}{w:pa}{K:kc}{mg:Str->Option wj}{base:rl}{f:vb}{fd:mu}
structure Bf (pool:List D)(rules:List bA)(L:List aS)(fact:List D):Prop where
 fZ:∀(j:Nat) (x:aS),L[j]?=!x->∃r V,oy pool rules (aJ^L.take j) x r V
 new:∀(j:Nat) (x:aS),L[j]?=!x->x.1∉aJ (L.take j)
 sc:∀x∈L,bV x.1
 dz:∀x∈L,x.2.2.length<=3
 len:L.length<=64
 rest:(gY L).length+1=L.length
 lst:∃L' x,L=L'++[x]/\x.1=fact
def ze:List D->D->Prop:=λds d=>∃(pool:List D) (rules:List bA) (L:List aS) (fact:List D),ds=[.lst^L.map cm,.lst^rules.map aR,.tup fact]/\Bf pool rules L fact/\d=.bl bU
def Mh {L:List aS}{j:Nat}{x:aS}(h:L[j]?=!x):gY^L.take (j+1)=fQ (gY^L.take j) x.2.2:=by
 unfold gY fQ;rw[CC _ h,R1]
theorem ye:∀(b a:List Nat),(fQ a b).length<=a.length+b.length
 |[],a=>QU _
 |q::r,a=>by
  have:=ye r^jc a q
  let c:(jc a q).length<=a.length+1:=by
   unfold jc;split
   .omega
   .rw[Q7,R6];show QU _
  change(fQ (jc a q) r).length<=_;rw[Rw];omega
def Mu {L:List aS}(d:∀x∈L,x.2.2.length<=3):(gY L).length<=3*L.length:=by
 let e:∀(L:List aS),(∀x∈L,x.2.2.length<=3)->(L.flatMap (·.2.2)).length<=3*L.length:=λL=>by
  induction L with
  |nil=>intro _;show Rk _
  |cons x r g=>
   intro h;let a:=h x QQ;let b:=g λy i=>h y^QM _ i
   rw[RT,Q7,Rw];omega
 let c:=ye (L.flatMap (·.2.2)) [];rw[SI,Tc]at c;show Rh c^e L d
abbrev Dz:List Str:=["_law_found","_law_rules","_law_fact","_law_facts","_law_rested","_law_reason","_law_place"]
def sr:cb Dz ["_law_found","_law_rules","_law_fact"]^bH yw:=`b
def IK (F:bB K "_law_leads_up" "_law_leads_up" yw f fd)(B:Bl mg)(a:bP P w K mg base 3 "_law_follows" ["_law_reason","_law_rules","_law_ahead"]^bI yc):bw P w K mg base bO 4 f fd ["_law_found","_law_rules","_law_fact"]^bI ze:=by
 show F.ok sr (eF (n:=3) λds d q0=>by let{_,_,_,_,e,_}:=q0;rw[e];rfl) λan A ab s H vs Q E hr h=>?_;let{M,ds,d,lv,rp,{N,o,L,m,rfl,g,rfl},q}:=h;let hu:=d8 hr;let ac:=fH hr;show⟨_,(aC (cc (fM (d7^cS^gS B (pv 0) B.list T0)^iw^cA (fA^by show hu) (cy B^pv 0) aD).pt (az^bz cO) cw)
   (aC (bf 3 sr.nd^dA aq)
   (aC (bf 4 sr.nd oM)
   (aC (cV Rf A2 (cG^pv 0) (bC 5 sr.nd) (aC (cc (fM (d7^cS^bL a hr^ai (pv 5)^ai (pv 1)^ai (pv 3) aq)^iw^cA (zG hu) (aY (pv 5) aD)^pv 3).pt (az^bz cO) cw)
   (aC (jU (pv 3)^aY (pv 5) aD)
   (az^cV Rf A2 (cG^aY (pv 5) aD) (bC 6 sr.nd)^az^jW ac (pv 4) (pv 6) cO A2))))
   (az^bz^jI (gQ (fA^by show hu) (BP B^pv 4)^cU vD (cy B^pv 0) aD)^lR^gQ (fA^by show hu) (aY (pv 3)^kG lg aD)^pv 2))))),?_⟩
 let b0:Bx H M [] _ H [Sl.d^.lst^L.map cm,.d^.lst^o.map aR,.d^.tup m,.no,.no,.no,.no]:=gg lv rp Dz;let ao:=g.len;let as:=g.rest;show aP.run b0 ?_;show gP (λG t e=>fy (b:=fF) (c:=fF) (bu.eq (dY^cM^Ml^e.v A2) A2) λ_=>bu.eq (cz^jR (dW (K:=K) (l:=L.map cm)^aa `c ah) ar)^Ri (by rw[QP];omega)) ?_;show bp^sv (i:=3) ?_
 dsimp only;show bp^AU (i:=4) ?_
 dsimp only;show bp^fI (i:=5) (ds:=L.map cm) (c8.of λG t e=>ef^e.vd A2) (λj p=>∃s5 u,p=[Sl.d^.lst^L.map cm,.d^.lst^o.map aR,.d^.tup m,.l^(aJ^L.take j).map D.tup,.j^jd^jN^gY^L.take j,s5,u]) {_,_,A2} (λB' sB hk j y p hj C=>?_) λp C=>?_
 .let{s5,u,rfl}:=C;rw[QY]at hj;let{x,I,rfl}:=Ru.mp hj;let O:=QT I;let T:=g.sc x O;let a0:=g.dz x O;let{r,V,af}:=g.fZ j x I;let aj:=g.new j x I;let V1:∀{d:D} {G:Hp} {t:St} {δ:List Sl} {i:Int},bN G t δ->(δ[5]?).bind Sl.jw=!cm x->dI [D.tup x.1,.int ((x.2.1:Nat):Int),.tup^x.2.2.map λn=>D.int (n:Nat)] i=!d->ag (bT (eP K) (aW 5)^tC (.int i)) G t d:=λe h k=>bS k (e.v h) ar;let a1:(aJ^L.take j).length<=64:=by unfold aJ;rw[QP,Rr];omega
  let a2:(gY^L.take j).length<=192:=by have:=Mu (L:=L.take j) λx I=>g.dz x^Tr I;rw[Rr]at this;omega
  show gP (λG t e=>fy (b:=fF) (c:=fF) (bu.eq (dY^cM^bR (R:=yc) (d:=.bl bU) {x,N,o,_,r,V,A2,af,A2}^aa `c^aa `c^aa `c ah) A2) λ_=>bu.eq (cz^P4 (d:=.tup x.1) (es:=(aJ^L.take j).map D.tup) (λe he=>?_) (V1 (d:=.tup x.1) e A2 A2)^e.v A2)^Ri λz=>?_) ?_
  .let{f,hf,rfl}:=Q6.mp he;let{y,hy,rfl}:=Q6.mp hf;show nE (g.sc y^Tr hy) T
  .let{f,hf,e}:=Q6.mp z;injection e with e;show aj (by rw[<-e];show hf)
  show bp^t9 (j:=3) (d:=.tup x.1) A2 (λG t e=>V1 (d:=.tup x.1) e A2 A2) (iM T) (by rw[QP];show cH Z4) ?_
  dsimp only;show fI (i:=6) (ds:=x.2.2.map λn=>D.int (n:Nat)) (c8.of λG t e=>im^bS (ds:=[D.tup x.1,.int ((x.2.1:Nat):Int),.tup^x.2.2.map λn=>D.int (n:Nat)]) A2 (e.vd A2) ar) (λi p=>∃u,p=[Sl.d^.lst^L.map cm,.d^.lst^o.map aR,.d^.tup m,.l<|(aJ^L.take j).map D.tup++[.tup x.1],.j^jd^jN^fQ (gY^L.take j)^x.2.2.take i,.d^cm x,u]) {_,A2} (λB2 a3 a4 i y am hi J=>?_) λam J=>?_
  .let{u,rfl}:=J;rw[QY]at hi;let{qq,hq,rfl}:=Ru.mp hi;let a5:(fQ (gY^L.take j)^x.2.2.take i).length<=195:=by
    have:=ye (x.2.2.take i)^gY^L.take j
    rw[Rr]at this;omega
   show y9 (j:=4) (ps:=jN^fQ (gY^L.take j)^x.2.2.take i) (n:=(qq:Nat)) (d:=.bl bU) A2 A2 GF (by unfold jN;rw[QP];omega) (λG t e=>iR) (λG t e=>e.v A2)^dO {_,by rw[GA,<-GQ hq];rfl}
  .let{u,rfl}:=J;show dO {_,_,by rw[Mh I,QP,Rm^QU _,Rs,I];unfold aJ;simp only[Rl];rfl}
 .let{s5,u,e}:=C;rw[QP,Rm^QU _]at e;subst e;let{L',x,hL,U}:=g.lst;let Y:bV m:=by rw[<-U];show g.sc x (by rw[hL];show Q1 _ QQ)
  let hc:=nE Y Y;dsimp only;show fc (λG t e=>ag.eq (fh (jR (e.Km (j:=4) A2)^tZ (dW (K:=K) (l:=L.map cm)^aa `c ah) ar) λ_=>jO (d1:=.tup m) (d2:=.tup m) hc.1 hc.2 (c7 (ds:=(aJ L).map D.tup) (i:=-1) ?_ `c^mB ar)^e.v A2)^RF D.bl ?_) q
  .rw[hL,<-U]
   unfold aJ;rw[Rl,Rl];show Kx _ _
  .rw[Q9 A2,Uz]
   unfold jN;rw[QP,QP];show Q9 Z4
end
end cf
namespace L2
open PySem PySem.Spec PyProof.Rows PySem.W
section
variable {prog:qj}{w:pa}{A:om}{E:wj->ot->Prop}{s:ot}
def DR (h:rl)(d:vb)(es:Array DictEntry)(ep:Nat):Prop:=∃o,h.get? d=!o/\o.ExactDict/\o.data=.dict es ep
def DR.ty(x:DR s.heap d a b):s.TypeIs (.ref d) "dict":=by
 let{o,c,e,_}:=x;show{o,c,e.1}
def DR.at{a:rl}(x:DR h d b c)(k:∀o,h.get? d=!o->a.get? d=!o):DR a d b c:=let⟨o,e,r⟩:=x;{o,k o e,r}
def Nk{Q:ZT}(lo:(d==uU)=fF)(x:DR s.heap d e f)(q:Q (.ref s.heap.objs.size) {s with heap:=s.heap.push {cls:=.type "dict_keyiterator",data:=.fields^List.toArray [.ref d,.int 0 0,.int e.size 0,.int f 0]}}):gE `i A (pyIter^.ref d) Q E s:=by
 let c:=x.ty;let{o,g,h,b}:=x;show wpAny_pyIter_slot c V0^Sg V0 c PySem.F.entry_dict_iter ?_ (PySem.F.args_dict_iter_1 _)
 unfold Builtin.«dict.__iter__» Builtin.Dict.dictSlotNone Builtin.Dict.showsAll;show QL^QL^UX c^QX ?_
 show QL (m:=Builtin.Dict.addrOf^.ref d)^QX (a:=d) ?_
 rw[QV^by rw[lo];show QW];show QL^QX^QL^Ug g b^QL^V5 g b ?_
 show QL^RS^QX {_,A2,"dict_keyiterator",_,{_,Ra _ A2,A2},R3.lookup,?_}
 simpa[rawInt]using q
def Iw{a:Array DictEntry}{Q:Option wj->ot->Prop}(k:s.heap.IsKeyIter I d i a.size e)(x:DR s.heap d a e)(n:i<a.size)
  (q:∀g,g.IsKeyIter I d (i+1) a.size e->rl.SameBut I s.heap g->Q (some a[i].key) {s with heap:=g}):gE `i A (pyNext^.ref I) Q E s:=by
 let b:=k.typeIs;let{o,h,p,f}:=k;let{u,l,_,m}:=x;let r:¬((wj.ref d==wj.none)=bU):=QW;let j:¬((i:Int)<0):=by omega
 unfold pyNext;show QL^VF^RO (name:=Str.ofString "__next__") b R3^Sg R3 b UB ?_ (Uv _)
 show QL^QX^QL^QL^QL^SW b^QX^QL^wpAny_fieldsOf h f ?_
 simp only[show Builtin.Dict_items.ownsTuple "dict_keyiterator"=fF by decide,TR,Ux];change gE _ _ (if(wj.ref d==wj.none)=bU then _ else _) _ _ s;rw[QV r];show QL^QX^QL^Ug l m ?_
 rw[QV Z8];show QL^QX^QL^V5 l m ?_
 rw[QV Z8];show QX ?_;simp only[j,Ux,Sa,Vy n];show QL^QL^SW b^QX^QL^wpAny_isOneOf_keyiter b ?_
 change gE _ _ (setField (.ref I) 1 (rawInt<|(i:Int)+1)>>=_) _ _ s;show QL^UQ h f Z8 ?_
 let c:(s.heap.update I^Obj.mapFields (·.setIfInBounds 1 (rawInt<|(i:Int)+1))).IsKeyIter I d (i+1) a.size e:={_,SE _ h^UY^Tj f _,(Obj.cls_mapFields ..).trans p,by rw[Tj f];simp[rawInt]}
 show QL^So^QL^wpAny_isOneOf_keyiter (s:={s with heap:=s.heap.update I^Obj.mapFields (·.setIfInBounds 1 (rawInt<|(i:Int)+1))}) c.typeIs ?_
 change gE _ _ (pure a[i].key) _ _ _;show QX^QX {_,A2,QX<|q _ c<|SA ..}
def Hu{e:Array DictEntry}{Q:Option wj->ot->Prop}(r:A.handled=bF)(h:s.heap.IsKeyIter I d i e.size g)(x:DR s.heap d e g)(t:e.size<=i)
  (q:∀j,rl.ExtBut I s.heap j->Q bF {s with heap:=j}):gE `i A (pyNext^.ref I) Q E s:=by
 let c:=h.typeIs;let{o,k,y,l}:=h;let{u,n,_,p}:=x;let v:¬((wj.ref d==wj.none)=bU):=QW;let f:¬((i:Int)<0):=by omega
 unfold pyNext;show QL^VF^RO (name:=Str.ofString "__next__") c R3^Sg R3 c UB ?_ (Uv _)
 show QL^QX^QL^QL^QL^SW c^QX^QL^wpAny_fieldsOf k l ?_
 simp only[show Builtin.Dict_items.ownsTuple "dict_keyiterator"=fF by decide,TR,Ux];change gE _ _ (if(wj.ref d==wj.none)=bU then _ else _) _ _ s;rw[QV v];show QL^QX^QL^Ug n p ?_
 rw[QV Z8];show QL^QX^QL^V5 n p ?_
 rw[QV Z8];show QX ?_;simp only[f,Ux,Sa,Array.getElem?_eq_none t];show QL^QL^SW c^QX ?_
 change gE _ _ (setField (.ref I) 0 .none>>=_) _ _ s;show QL^UQ k l Z8 ?_
 change gE _ _ (newExc (.type "StopIteration") []>>=_) _ _ _;simp only[newExc,newTuple];show QL^QL^RS (QL (m:=firstArgMember _ _)^VB (a:=wj.none) (by simp only[firstArgMember];rfl)^RS ?_ (by size_fits)) (by size_fits)
 simp only[raiseNew];show QL^wpAny_handled ?_
 rw[show A.in1.handled=bF from r];show QL^QX^wpAny_throw ?_
 show QL^wpAny_isInstance (T:="StopIteration") (b:=bU) {_,Ra _ A2,A2} isSubtype_stop^QX^q _^((SA ..).extBut.push _).push _
def K9 (hh:A.handled=bF){I d:vb}(hne:d≠I)(es:Array DictEntry)(ep:Nat):Walks prog w A I [I,d] [I] es.size (λi v=>∃h:i<es.size,v=es[i].key) (λi h=>h.IsKeyIter I d i es.size ep/\DR h d es ep) where
 sub:=λb hb=>by rw[Rg.mp hb];show QQ
 frame:=λ_ _ _ st hk=>{st.1.at λo e=>hk I QQ o e,st.2.at λo e=>hk d (QM _ QQ) o e}
 item:=λi s Q E hi st hQ=>Iw st.1 st.2 hi λh' it' sm=>hQ _ h' s.toks {hi,A2} {it',st.2.at λo e=>sm.extBut d o hne e} λb o hb e=>sm.extBut b o (λz=>hb^by rw[z];show QQ) e
 done:=λs Q E st hQ=>Hu hh st.1 st.2 (QU _) λh' ex=>hQ h' s.toks λb o hb e=>ex b o (λz=>hb^by rw[z];show QQ) e
 self:=λ_ _ _ _ st hQ=>wpAny_pyIter_keyiter st.1 hQ
def NJ {d:vb}(lo:(d==uU)=fF)(es:Array DictEntry)(ep:Nat):KdlSrc prog w "dict" d d es.size (λi v=>∃h:i<es.size,v=es[i].key) (λh=>DR h d es ep) where
 type:=λ_ x=>x.ty
 there:=λ_ x=>let⟨_,ho,_⟩:=x;{Re ho,Re ho}
 keep:=λ_ _ x hk=>x.at λo e=>hk d (.inl A2) o e
 notList:=by decide
 notTuple:=by decide
 hint:=λ_ _ _ _ x hq=>kdl_hint_dict x.ty hq
 iter:=λ_ s hh x=>{_,_,(λ_ _ hq=>Nk lo x hq),K9 hh (Rp^let⟨_,ho,_⟩:=x;Re ho) es ep,{_,Ra _ A2,A2,A2},x.at λo e=>QR _ e}
end
end L2
namespace L2
open PySem
section
variable {X:Cx}{e e':sH}{te te':TE}{p pos:Pos}
end
end L2
namespace FL
open PySem L2
section
variable {pool:List D}{rules:List bA}{rds:List^List aS}
theorem eJ.any(b:gG pool rules)(h:eJ a rules rds):∀n,eJ pool rules^rds.take n
 |0=>eJ.nil
 |n+1=>by
  let c:=eJ.any b h n;cases e:rds[n]? with
  |none=>rw[Rs,e];change eJ _ _<|_++[];rw[Ro];show c
  |some r=>
   let{d,f}:=h.step n r e;rw[Rs,e];change eJ _ _<|_++[r]
   rw[d];show c.snoc b^by rw[<-d];show f
theorem dU.any(c:eC pool)(b:gG pool rules)(h:dU a rules rds):dU pool rules rds:={c,b,by have:=h.run.any b rds.length;rwa[Sd]at this,h.fin}
end
end FL
namespace FL
open PySem L2
def Hd{T c:ZW}(h:∀f∈T,f∈c)(b:eB T a=bU):eB c a=bU:=by
 unfold eB at b⊢;split
 .next e=>rw[Q0 e]at b;show b
 .next e=>
  rw[QV e]at b;split
  .next e2=>rw[Q0 e2]at b;show b
  .next e2=>
   rw[QV e2]at b;show Q9^h _^Q8 b
def FI{T d:ZW}(h:∀f∈T,f∈d)(e:gM T b c=bU):gM d b c=bU:=by
 unfold gM at e⊢;show Tt.mpr λa g=>Hd h^Tt.mp e a g
section
variable {pool:List D}{A B:List bA}{ra rb:List^List aS}
def dU.why(h:dU pool A ra){i:Nat}(C:ra[i]?=!r)(s:f∈aJ r):∃q∈A,∃c∈df pool (ba [] q.2) [[]],gM (aB^ra.take i) q.2 c=bU/\cP c q.1=f:=by
 let u:=h.rk;let{G,E}:=Bn ra i;let H:∀f∈aB (ra.take i),fV pool f:=λf s=>(h.run.hd f^by rw[E];show Q2 _ s).fin;let{x,o,rfl}:=Q6.mp s;rw[(h.run.step i r C).1]at o;let{g1,g2,k,w,V,I,g4,g5,g6,J,L,M,t}:=sZ u.ok H o;let m:=QT I;let d:=u.ok k m;let N:=d.bi;let v:cL^ba [] k.2:=jh fj;let n:∀a∈k.2,∀x∈a,aG x=bU->x.name∈ba [] k.2:=λa l x o e=>ly l o e;show{k,m,ax V^ba [] k.2,(y6^uj Tq).mpr {V,A2,λb O=>?_},(F3 N v n).mpr {λa l=>FK J a l,L},?_}
 .show t b ?_
  rcases uC O with z|⟨a,l,y,p,j,rfl⟩
  .cases z
  .by_cases g:aO a=bU
   .show lM (d.gb a l g y p j) j
   .show lM {a,l,by simpa using g,p} j
 .let{wd,xs,e,Q,_}:=d.hd;let T:=(ka^Q2 _ Q).2.1;rw[nP v (by rw[e];show λz=>nomatch z) (by rw[e];show T) λy p q=>by
   let{a,U,_,Y}:=d.hb y p q;show ly U Y q]
  show M.symm
theorem dU.least(h:dU pool A ra)(g:∀q∈A,∀c∈df pool (ba [] q.2) [[]],gM L q.2 c=bU->cP c q.1∈L):∀k,∀f∈aB (ra.take k),f∈L
 |0,f,a=>by cases a
 |k+1,f,a=>by
  let b:=dU.least h g k;cases e:ra[k]? with
  |none=>
   rw[Rs,e]at a;let a:f∈aB (ra.take k++[]):=a;rw[Ro]at a;show b f a
  |some r=>
   rw[zE e]at a;rcases Rc.mp a with z|z
   .show b f z
   .let{q,i,c,d,j,rfl}:=h.why e z;show g q i c d^FI b j
end
end FL
namespace FL
open PySem L2
section
variable {G:Hp}{σ:St}{ta tb tl te:TE}{tt:TT}{t:TA}{d:D}{ds:List D}{K:kc}{wi:TI}
def GZ{E:Ends}{caps:St->St}{p:D->Bool}{f:D->D}(l:av M H)(hE:aA `a σ δ)(hn:n<δ.length)(hw:Walk wi `a σ ds)
  (ht:∀B v d,ae `a B->d∈ds->ap B v d->bu tt B ((caps σ).set i^!v)^p d)
  (he:∀B v d,ae `a B->d∈ds->p d=bU->ap B v d->ag te B ((caps σ).set i^!v)^f d) (hz:ds.length<se)
  (k:∀q vs u h,(∀j:Nat,j≠n->u[j]?=σ[j]?)->u[n]?=!!.ref q->q∉M->h q=!.lst vs->aF (but h (q::M)) vs^(ds.filter p).map f->av (q::M) h->(∀b o,H b=!o->b≠q/\h b=!o)->aA (but h (q::M)) u^δ.set n bF->E.nx u h):
  dX (iU wi caps (cp i) tt te) (cp n) E σ H:=hw M H `f l _ λJ Y L ab C D N=>by
 let lf:D∉M:=(l.same L).fresh N;let ac:ae `a^but Y M:=L.but M;show{λj m τ h=>m=ds.length-j/\j<=ds.length/\(∀v,τ.set i (!v)=(caps σ).set i^!v)/\ae Y h/\∃s,h D=!.lst s/\aF (but h (D::M)) s^((ds.take j).filter p).map f,
  {ds.length,by simp,Rk _,λ_=>A2,c9 N _,[],aM,by simpa using aF.nil},?_}
 rintro j m τ h ⟨rfl,hj,af,O,s,w,Q⟩;let hs:ae (but Y M)^but h (D::M):=jA N O;let hl:av (D::M) h:=((l.same L).same O).cons w;by_cases I:j<ds.length
 .let hd:ds[j]?=some ds[j]:=QO I;let{go,gy}:=ab j _ (D::M) h hd hs hl;show .inr {go,λT g=>(∀v,T.set i (!v)=(caps σ).set i^!v)/\ae Y g/\∃s,g D=!.lst s/\aF (but g (D::M)) s^((ds.take<|j+1).filter p).map f,
   λT g q0=>by let{a,b,c}:=q0;show{ds.length-(j+1),by omega,A2,I,a,b,c},λx g hy=>?_}
  let{z,rx}:=gy x g hy;let hm:ds[j]∈ds:=Sr I;let sG:ae `a^but g (D::M):=ac.trans^hs.trans^z.but _;let U:=hl.same z;change tt (τ.set i^!x) g _;rw[af x];let tk:(ds.take<|j+1).filter p=(ds.take j).filter p++(if p ds[j]=bU then [ds[j]]else []):=by
   rw[Rs,hd,R7];congr 1;by_cases A:p ds[j]=bU
   .simp[A]
   .simp[A]
  show ht _ x _ sG hm rx (D::M) g `f U _ λH4 y=>?_;let r:∀v,((caps σ).set i^!x).set i (!v)=(caps σ).set i^!v:=λv=>by rw[Wk]
  by_cases A:p ds[j]=bU
  .rw[Q0 A]
   show he _ x _ (sG.trans^y.but _) hm A (rx.mono^y.but _) (D::M) H4 `f (U.same y) _ λv H5 s5 r5=>?_;let aj:H5 D=!.lst s:=s5 _ _^y _ _^z _ _ w
   let am:=Q.length;let an:(((ds.take j).filter p).map f).length<=j:=by
    rw[QP];have:=Rv p^ds.take j
    rw[Rr]at this;omega
   show{s,aj,by omega,r,?_,s++[v],aM,?_}
   .intro b o e;rw[aE^dy e N];show s5 _ _^y _ _^z _ _^O _ _ e
   .rw[eo QQ,tk,Q0 A,Rl]
    show(Q.mono^((z.trans y).trans s5).but _).snoc r5
  .rw[QV A]
   show{r,O.trans^z.trans y,s,y _ _^z _ _ w,?_};rw[tk,QV A,Ro];show Q.mono^(z.trans y).but _
 .let e:j=ds.length:=by omega
  subst e;rw[Rm^QU _]at Q;let ao:=hE.len;show .inl {C (D::M) h hs,k D s _ h (λj hj=>QS^RG hj) (Q3 Z4) lf w Q hl (λb o eb=>?_) ?_}
  .let e1:=L _ _ eb;show{dy e1 N,O _ _ e1}
  .let h2:aA (but h (D::M)) σ δ:={hE.len,λj d q=>let⟨v,a,b⟩:=(hE.same L).get j d q;{v,a,b.mono hs}}
   show h2.off n _
end
end FL
namespace FL
open PySem L2
section
variable {B:Hp}{M0:List vb}{δ:List Sl}{E:Ends}{wi:TI}{tt:TT}{te:TE}{t:TA}{ds:List D}
def HW{idx:List Nat}(p:D->Bool)(f:D->D)(x:D.je^(ds.filter p).map f=bU)(M:n<δ.length)(h:∀G w,bN G w δ->Walk wi G w ds)
  (O:∀m g d,d∈ds->bN m g^(idx.map (λj=>δ.getD j Sl.no)++List.replicate k Sl.no).set i^.d d->bu tt m g^p d)
  (Q:∀m g d,d∈ds->p d=bU->bN m g^(idx.map (λj=>δ.getD j Sl.no)++List.replicate k Sl.no).set i^.d d->ag te m g^f d) (T:ds.length<se)
  (U:aP B M0 (δ.set n^.l^(ds.filter p).map f) E.nx):aP B M0 δ^dX (iU wi (bo idx k) (cp i) tt te) (cp n) E:=λy w H b=>by
 let e:=b.wide;show GZ (δ:=δ.map λ_=>bF) b.live {by rw[QP];show b.len,λj d q=>by rw[QY]at q;cases e:δ[j]?<;>rw[e]at q<;>cases q} (by rw[QP];show M) (h _ w e) (λm v d s A r=>O m _ d A^e.caps s idx k i r) (λm v d s A Y r=>Q m _ d A Y^e.caps s idx k i r) T λq C g o o1 o2 hq h1 h2 l2 I E2=>?_;let J:g=w.set n^!.ref q:=by
  show Su λj=>?_;by_cases z:n=j
  .subst z;rw[o2,Q3^by rw[b.len];show M]
  .rw[o1 j^RG z,QS z]
 let ab:H q=bF:=by
  cases c:H q with
  |none=>rfl
  |some u=>show absurd A2 (I q u c).1
 let eH:o=upd (but o [q]) q^.lst C:=by
  funext a;by_cases z:a=q
  .rw[z,aM];show h1
  .rw[aE z,bv^by simpa using z]
 let N:Bx B M0 y w (but o [q]) δ:=b.grow λa u c=>by
  rw[bv^by simpa using(I a u c).1];show(I a u c).2
 let L:but o [q] q=bF:=by unfold FL.but;rw[Q0 Z8]
 rw[J,eH];show U _ _ _^N.new n L A2 {q,C,A2,QQ,aM,?_}
 let hr:aF (but (but o [q]) M0) C^(ds.filter p).map f:=by
  have:but (but o [q]) M0=but o (q::M0):=by
   funext a;unfold FL.but;by_cases z1:a=q<;>by_cases z2:a∈M0<;>simp[z1,z2]
  rw[this];show h2
 show aF.narrow N.kd x hr
def va (pre:List D->Prop)(post:List D->List (List D×D)->Prop):Sp:=λvs H Q _=>∃M ds,av M H/\aF `a vs ds/\pre ds/\∀ps a kvs H',post ds ps->ae H H'->but H' M a=!.dT kvs->dZ (but H' M) kvs ps->Q `n H'
def IV{a:ZZ->Prop}(d:∀ds,a ds->ds.length=n):∀c H Q E,va a b c H Q E->c.length=n:=λc H Q E e=>by let{M,ds,_,r,p,_}:=e;rw[r.length];show d ds p
def NC{j:Nat}(f:δ[j]?=!.t e)(k:∀a c d,ae B d->but d M0 a=!.dT c->dZ (but d M0) c e->E.rt `n d):aP B M0 δ^ph (aW j) E:=λg n H b=>by
 let{a,c,h,i,l,m}:=b.slot j _ f;show{.ref a,h,k a c H b.same (by rw[bv^b.out i];show l)^m.mono b.seen}
end
theorem C5(g:b->Bool):∀l:List b,D.je (l.map λa=>D.bl^g a)=bU
 |[]=>rfl
 |a::l=>by rw[RB,D.je,C5 g l];rfl
def OV(h:dD b r)(k:c∈df b (ba [] r.2) [[]]):fV b^cP c r.1:=by
 let{V,rfl,l}:=(y6^uj Tq).mp k;let{m,n,e,i,o}:=h.hd;let j:=(ka^Q2 _ i).2.1;let d:∀y∈r.1,aG y=bU->y.name∈ba [] r.2:=λy f q=>by
  let{a,p,_,s}:=h.hb y f q;show ly p s q
 rw[nP (jh fj) (by rw[e];show λz=>nomatch z) (by rw[e];show j) d,e,RB];show{m,n.map^aX V,?_,by rw[QP];show i,λx t=>?_}
 .congr 1;unfold aX;rw[QV^by rw[j];show QW]
 .let{y,f,rfl}:=Q6.mp t;let g:y∈r.1:=by rw[e];show QM _ f
  by_cases q:aG y=bU
  .rw[rG q]
   show l _^d y g q
  .unfold aX;rw[QV q];rcases o y f with z|z
   .show z
   .show absurd (by rw[(qr y z).2.2];show Q9 z) q
def yb (pool:List D)(rules:List bA)(T:`j):Prop:=∀q∈rules,∀c∈df pool (ba [] q.2) [[]],gM T q.2 c=bU->cP c q.1∈T
def CZ (ds:List D):Prop:=∃(pool:List D) (rules:List bA),ds=[.lst^rules.map aR,.lst pool]/\eC pool/\∀r∈rules,dD pool r
structure mV (pool:List D)(rules:List bA)(L:`j):Prop where
 nd:L.Nodup
 fin:∀f∈L,fV pool f
 low:∀T,yb pool rules T->∀f∈L,f∈T
def Bm (ds:List D)(ps:List (List D×D)):Prop:=∃(pool:List D) (rules:List bA),ds=[.lst^rules.map aR,.lst pool]/\mV pool rules^ps.map (·.1)/\yb pool rules^ps.map (·.1)
def mV.dz(c:eC a)(h:mV a b L):L.length<=411:=Rh (jx h.nd λf d=>(h.fin f d).mem)^Bq c.le
def mV.snoc(h:mV g d L)(l:r∈d)(m:dD g r)(k:c∈df g (ba [] r.2) [[]])(n:gM L r.2 c=bU)(o:cP c r.1∉L):mV g d (L++[cP c r.1]):=by
 show{T3.mpr {h.nd,by simp,λa p b q e=>o^by rw[Rg.mp q]at e;rw[<-e];show p},λf i=>?_,λT j f i=>?_}
 .rcases Rc.mp i with z|z
  .show h.fin f z
  .rw[Rg.mp z];show OV m k
 .rcases Rc.mp i with z|z
  .show h.low T j f z
  .rw[Rg.mp z];show j r l c k^FI (h.low T j) n
end FL
namespace L2
open PySem PySem.Spec PyProof.Rows PySem.W
section
variable {X:Cx}
abbrev wR (H:Hp):List (List aH×V)->List vb->Prop:=Paired λ(p:List aH×V) (b:vb)=>H b=!.tup^p.1.map kV
def zV:List V->Hp->VK->Prop:=λxs H Q=>∃a kvs,xs=[.ref a]/\Rd H a^.dT kvs/\∀bs:List vb,wR H kvs bs->∀l,H l=bF->Q (.ref l)^upd H l^.lst^bs.map V.ref
theorem GD:∀a:ZX,bn (a.map V.ref)^a.map wj.ref
 |[]=>.nil
 |b::r=>.cons A2^GD r
def Nh (x:X.calm=bU):iG X (.type "list") zV:=by
 intro v s σ H xs us Q I r h;let{a,i,rfl,e,q}:=h;let{u,rfl,y}:=Vf r;cases y;let{z,A,d,bK,o,k,B,C,E,G,l,J}:=(show bZ X.prog X.w H s.heap a^.dT i from zL I.au e)
 let m:=bK.length;let g:k.size=d.length:=by rw[<-RP,l,QP]
 show kdl_call (NJ A k B) (I.ok.hd x) {o,C,E,G} (by rw[g,<-m];show z) λL M b c N O f=>?_;let T:wR H i^d.map (·.2.1):=by
  clear m l g J z q e;induction bK with
  |nil=>show .nil
  |cons h t U=>show .cons h.2.1 U
 let Y:b.toList=(d.map (·.2.1)).map wj.ref:=by
  show List.ext_getElem (by rw[RP,QP,QP,f.1,g]) λj j1 j2=>?_;let hj:j<b.size:=by rw[<-RP];show j1
  let{n,ev}:=f.2 j b[j]^Vy hj;let p:j<d.length:=by omega
  rw[Wh,ev,TK,TK];let e2:k[j]=entryOfKey (tupleKind^dm X.prog X.w) d[j]:=by
   have:k.toList[j]'(by rw[RP];show n)=(d.map^entryOfKey^tupleKind^dm X.prog X.w)[j]'(by rw[QP];show p):=by simp only[l]
   rw[Wh,TK]at this;show this
  rw[e2];rfl
 let rv:bn ((d.map (·.2.1)).map V.ref) b.toList:=by rw[Y];show GD _
 show{.ref s.heap.objs.size,_,I.laid (t':=M) N (QU _)^show bZ X.prog X.w _ L _^.lst^(d.map (·.2.1)).map V.ref from{by rw[QP,QP,<-m];show z,b.toList,c,rv,by rw[U8];show O},A2,q _ T _^I.au.fresh^QU _}
variable {e:sH}{te:TE}{p pos:Pos}
def Kv (B:FL.Bl X.mg)(h:PE X e te)(hc:X.calm=bU:=by rfl)(hg:Gl X "list":=by rfl)(he:zA [e] X.env=(fF,y1 e X.env)::zA [] X.env:=by rfl):PE X (.Call (.Name "list" p) [e] [] pos)^cN zV^bq te bM:=
 pC (Nh hc) hg B.list T0 (ai h aq he) (he:=he)
end
end L2
namespace FL
open PySem L2
theorem Dw:∀{a:ZZ},bV a->aF G ((cx a).map kV) a
 |[],_=>.nil
 |d::r,h=>by
  let b:=h d QQ;show .cons ?_^Dw λx c=>h x^QM _ c;cases d with
  |int i=>show .int i
  |str x=>show .str x
  |_=>show absurd b^by simp[D.sc]
theorem Bp:∀{a:List (List aH×V)} {c:List (ZZ×D)} {d:ZX},wR H a d->dZ G a c->(∀b e,H b=!.tup e->G b=!.tup e)->aF G (d.map V.ref)^c.map λp=>D.tup p.1
 |_,_,_,.nil,.nil,_=>.nil
 |_,_,_,.cons h t,.cons f _ r,k=>.cons (.tup (k _ _ h)^Dw f)^Bp t r k
def Kt{q:List Sl}{E:Ends}{g:ZZ->Prop}{f:ZZ->List (ZZ×D)->Prop}(h:∀G m,aA G m^q.map Sl.dat->dF t G m ds)(J:g ds)(k:∀n,f ds n->aP B [] (q.set i^.d^.lst^n.map λp=>D.tup p.1) E.nx):
  aP B [] q^dX (cN zV^bq (ja (va g f) [] I t) bM) (cp i) E:=λj m H b=>
 h _ m b.jE _ H `f b.fJ _ λL H1 x M=>⟨j++[],ds,b.fJ.same x,by rw[Ro L];show M,J,λn a r y N O Q T=>⟨a,r,A2,Rd.of (ay Q).2,λU s l A=>by
  let u:=b.grow^x.trans O;let v:=u.fJ.fresh A;let w:ae y^upd y l^.lst^U.map V.ref:=c9 A _;show k n N j _ _^(u.grow w).set i^.lst (by rw[bv v];show aM)^Bp s (T.mono^w.but _) λc ws e=>?_;rw[bv]
  .show w _ _ e
  .intro z;rw[Ro]at z;let{o,C,Y}:=u.kd c z;rw[e]at C;cases C;cases Y⟩⟩
end FL
namespace cf
open PySem L2 FL
section
variable {P:qj}{w:pa}{K:kc}{mg:Str->Option wj}{base:rl}{f:vb}{fd:mu}
structure vT (K:kc)(nt bh bg lb nr L:vb):Prop where
 x:iJ K nt
 h:PySem.W.kitOne K (.ref nt)^.ref bh=some fF
 g:PySem.W.kitOne K (.ref nt)^.ref bg=some fF
 b:PySem.W.kitOne K (.ref nt)^.ref lb=some fF
 t:PySem.W.kitOne K (.ref nt)^.ref nt=some bU
 r:PySem.W.kitOne K (.ref nt)^.ref nr=some fF
 ve:PySem.W.kitOne K (.ref nt)^.type "ValueError"=some bU
 xl:PySem.W.exmOne K (.ref nt)^.ref L=some bU
 xt:PySem.W.exmOne K (.ref nt)^.ref nt=!bU
section
variable {G:Hp}{σ:St}{ta:TE}
def so{i:Nat}(e:σ[i]?=!!.ref d)(j:G d=!xO d C)(x:iJ K C)(m:W.kitOne K (.ref C)^.ref g=!b):
  ag (cN (λo H Q=>∃a C c h b,o=[.ref a,c]/\((∃p,c=.ref p)\/∃n,c=.ty n)/\RelV c h/\H a=!xO a C/\iJ K C/\W.kitOne K (.ref C) h=!b/\Q (.bl b) H)^bq (aW i)^bq (tC^.ref g) bM) G σ^.bl b:=
 λM H s l Q k=>{.ref d,e,d,C,.ref g,.ref g,b,A2,.inl {_,A2},A2,(ay^s _ _ j).2,x,m,k _ H `f^.bl b}
def Ix{i:Nat}(e:σ[i]?=!!.ref d)(h:G d=!xO d C)(x:iJ K C)(j:W.kitOne K (.ref C)^.type n=!b):
  ag (cN (λm H Q=>∃a C c g b,m=[.ref a,c]/\((∃p,c=.ref p)\/∃n,c=.ty n)/\RelV c g/\H a=!xO a C/\iJ K C/\W.kitOne K (.ref C) g=!b/\Q (.bl b) H)^bq (aW i)^bq (tC^.ty n) bM) G σ^.bl b:=
 λM H s l Q k=>{.ref d,e,d,C,.ty n,.type n,b,A2,.inr {_,A2},A2,(ay^s _ _ h).2,x,j,k _ H `f^.bl b}
theorem DD:∀{H:Hp} {a:List V} {c:List Bool},aF H a^c.map D.bl->a=c.map V.bl
 |H,_,[],.nil=>rfl
 |H,_,b::r,.cons q t=>by rw[q.ik,DD t];rfl
def Ol{c:List Bool}(h:ag ta G σ^.lst^c.map D.bl):ag (lp K "list" xp ta^bq (tC^.bl b) bM) G σ^.int (c.countP (· ==b):Nat):=
 λM H s l Q k=>h M H s l _ λv g i j=>by
  let{a,o,rfl,m,n}:=j.el;let d:=(ay m).2;let e:=DD n;subst e;show{.inl {A2,_,aU.of d},a,c,b,A2,A2,d,k _ g i^.int _}
end
theorem pJ {Y:Cx}{v:wj}{e c:sH}{te tc:TE}{p pos:Pos}(B:FL.Bl Y.mg)(h:PE (Y.held v) e te)(hc:PE (Y.held v) c tc)(hg:Gl (Y.held v) "isinstance":=by rfl)(he:zA [e,c] (Y.held v).env=(fF,y1 e (Y.held v).env)::zA [c] (Y.held v).env:=by rfl)(he':zA [c] (Y.held v).env=(fF,y1 c (Y.held v).env)::zA [] (Y.held v).env:=by rfl):
  PE (Y.held v) (.Call (.Name "isinstance" p) [e,c] [] pos)^cN (fun xs H Q=>∃a C c cv b,xs=[.ref a,c]/\((∃p,c=.ref p)\/∃n,c=.ty n)/\RelV c cv/\H a=!xO a C/\iJ Y.K C/\PySem.W.kitOne Y.K (.ref C) cv=!b/\Q (.bl b) H)^bq te^bq tc bM:=
 NB (X:=Y.held v) B h hc hg he he'
def Mx{Y:Cx}{c:Pos}(m:PE (Y.held v) o j)(h:PE (Y.held v) e k)(l:zA [e] (Y.held v).env=(fF,y1 e (Y.held v).env)::zA [] (Y.held v).env:=by rfl)(d:y0 o "count" (Y.held v).env^y1 o (Y.held v).env=y1 o (Y.held v).env:=by rfl)
  (i:((gA a^zA [e] (Y.held v).env).all (λx=> not x.1)&&(backToKw a^y2 [] (Y.held v).env).all (λx=>x.1.isSome)&&fT ([e].length+([]:List Keyword).length+(if([]:List Keyword).isEmpty then 0 else 1)<30))=bU:=by rfl)
  (g:(c.endLine==a.line)=bU:=by rfl) (b:(gA a^zA [] (Y.held v).env).any (·.1)=fF:=by rfl):
  PE (Y.held v) (.Call (.Attribute o "count" c) [e] [] a)^lp Y.K "list" xp j^bq k bM:=
 qe (X:=Y.held v) Sc PySem.F.slot_list_count PySem.F.type_list_count Ld m (ai h aq l) d i g l b
def Kj{c:ZZ->Prop}{b:ZZ->D->Prop}{j:ZZ->Prop}{E:Ends}{k:wj->St->Hp->Prop}(l:av M H)(m:dF t `a g e)(n:c e)(o:∀d,b e d->∀a,ae H a->E.nx g a)(p:j e->∀a,ae H a->k (.ref C) g a):kQ (yI (pP C c b j) k t) E g H:=
 m M H `f l _ λu x h q=>{M,e,l.same h,q,n,λd r v a i _=>o d r a^h.trans i,λs a i=>p s a^h.trans i}
def xI (ds:List D)(d:D):Prop:=∃(pool:List D) (rules:List bA) (rds:List^List aS) (fact:List D),ds=[.lst^rules.map aR,.tup fact]/\dU pool rules rds/\d=.bl^not^fT (fact∈aB rds)
abbrev qZ:List Str:=["_law_rules","_law_fact","e","_law_under"]
def vt:cb qZ ["_law_rules","_law_fact"]^bH xj:=`b
def Jm(F:bB K "_law_refuses" "_law_refuses" xj f fd)(B:Bl mg)(J:vT K I bh bg lb nr L)(m:eR K mg "BadHead" bh)(l:eR K mg "BadGuard" bg)(a:eR K mg "LooseBlank" lb)(j:eR K mg "LoomError" L)(o:eR K mg "NotTold" I)(G:eR K mg "NoRule" nr)(c:mg "ValueError"=bF)
  (p:tw P w K mg base 13 "grounds" ["rules","fact"]^pP I qg wO wV):bw P w K mg base bO 14 f fd ["_law_rules","_law_fact"]^iN qg xI:=by
 show F.AL vt (rK (n:=2) λds q0=>by let{_,_,_,e,_}:=q0;rw[e];rfl) λa1 A ac s H vs Q E hr h=>?_;let{M,ds,lv,rs,N,q}:=h;let{ao,O,U,rfl,af}:=id N;let hu:=d8 hr;show⟨_,(il (Gs vE (λ_=>(az^jy^Fn vE p hr^ai (pv 0)^ai (pv 1) aq))^jY.as (i:=2) j.mg A2 Z1 vt.nd A2 A2 (λ_=>(aC (bf 3 vt.nd^dA^ai (pJ B (pv 2)^nz (v:=.ref _) (by rfl) (by show m.mg) (by rfl))^ai (pJ B (pv 2)^nz (v:=.ref _) (by rfl) (by show l.mg) (by rfl))^ai (pJ B (pv 2)^nz (v:=.ref _) (by rfl) (by show a.mg) (by rfl)) aq)
   (aC (bf 3 vt.nd^cU qB (pv 3)^dA^ai (pJ B (pv 2)^nz (v:=.ref _) (by rfl) (by show o.mg) (by rfl))^ai (pJ B (pv 2)^nz (v:=.ref _) (by rfl) (by show G.mg) (by rfl)) aq)
   (az^bz^jI (pJ B (pv 2)^Gm (v:=.ty "ValueError") (by rfl) (by show c) PyProof.Rows.Boot.«ValueError» (by rfl))^lR^gQ (fA^by show hu) (Mx (pv 3) cO) aD)))) jY.nil)
   (GR (bz cO).z)),?_⟩
 let E0:=iA rs qZ;show Kj lv (aa (aI (i:=0) E0 A2)^aa (aI (i:=1) E0 A2) ah) N (λd hd H1 s1=>?_) λhn Y s2=>?_
 .let{u,k,T,y,a0,e1,hE,_,aj,_}:=hd;show q (.bl fF) (.bl fF) H1 {u,k,T,y,e1,hE,by rw[Q9^QT aj];rfl} s1^.bl fF
 let{u,k,T,y,e1,hE,am}:=hn;let q:∀v H',ae H H'->ap (but H' M) v^.bl bU->Q v H':=λv H' s' r'=>q (.bl bU) v H' {u,k,T,y,e1,hE,by rw[Ri am];rfl} s' r';let l2:=lv.same s2;let E2:=E0.same s2;show{bU,J.xl,?_};rw[Q0 A2];show{I,A2,λC ab=>?_};let s3:ae Y^upd Y C^xO C I:=c9 ab _;let l3:=l2.same s3;let an:C∉M:=l2.fresh ab;let E3:aA (but (upd Y C^xO C I) M) ((L2.start qZ vs).set 2^!.ref C) [!(.lst^O.map aR),!.tup U,bF,bF]:=(E2.same s3).off 2 _;let g3:but (upd Y C^xO C I) M C=!xO C I:=by rw[bv an];show aM
 let hl:=E2.len;let i3:((L2.start qZ vs).set 2^!.ref C)[2]?=!!.ref C:=Q3 (by rw[hl];simp);generalize upd Y C^xO C I=H3 at s3 l3 E3 g3;generalize (L2.start qZ vs).set 2 (!.ref C)=a2 at E3 i3;let x:=J.x;show gk (i:=3) (d:=.lst^[fF,fF,fF].map D.bl) l3 E3 (fE (aa (so i3 g3 x J.h)^aa (so i3 g3 x J.g)^aa (so i3 g3 x J.b) ah) (hz:=by change 3<=se;decide)) λa3 H4 o4 s4 l4 E4=>?_;let i4:=(o4 2 Z1).trans i3;let g4:=s4.but M _ _ g3;show gk (i:=3) (d:=.lst^[fF,fF,fF,bU,fF].map D.bl) l4 E4 (qo (xs:=[fF,fF,fF].map D.bl) (ys:=[bU,fF].map D.bl) (by change 5<=1000;decide) (aI (i:=3) E4 A2)^fE (aa (so i4 g4 x J.t)^aa (so i4 g4 x J.r) ah) (hz:=by change 2<=se;decide)) λa4 H5 o5 s5 l5 E5=>?_;let i5:=(o5 2 Z1).trans i4;let g5:=s5.but M _ _ g4;show eZ l5 (ag.eq (fh (Ix i5 g5 x J.ve) λ_=>jR (Ol (b:=bU)^aI (i:=3) E5 A2) ar) ?_) λv H6 s6 r6=>q v H6 (s2.trans^s3.trans^s4.trans^s5.trans s6) r6;decide
def IF{b:Nat}(v:dU s o c)(H:o.length<=50)(z:(aB c)[b]?=!t):Bf s o (fD c.flatten^eO c.flatten b) t:=by
 let T:=v.F2 H;let A:=v.FM;let B:aJ c.flatten=aB c:=A2;let I:=v.run.nd;let cC:∀g∈aB c,bV g:=λg U=>((v.run.hd g U).fin.flat v.pk).2.2.sc;let O:c.flatten.length=(aB c).length:=by unfold aB aJ;rw[QP]
 let J:∀(m:Nat) (x:aS),c.flatten[m]?=!x->x.2.2.length<=3:=λm x h=>by
  let{i,a}:=v.at h;show a.len
 let L:=λ{j:Nat} {x:aS} (h:c.flatten[j]?=!x)=>v.fZ h;generalize c.flatten=d at*
 let Y:b<(aB c).length:=(QN.mp z).1;let k:=xM A b;let fR:∀m∈eO d b,m<d.length:=λm M=>by have:=k.le m M;omega
 let G:=tI k.inc;let Q:(eO d b).length<=64:=by
  have:=jx G (m:=List.range<|b+1) λm M=>TD.mpr (by have:=k.le m M;omega);rw[Sb]at this;omega
 generalize eO d b=l at k fR G Q;let C:∀(j:Nat) (x:aS),(fD d l)[j]?=!x->∃(m:Nat) (y:aS),l[j]?=!m/\d[m]?=!y/\x=(y.1,y.2.1,y.2.2.map λp=>l.idxOf p):=λj x h=>by
  let N:j<l.length:=by rw[<-oE d l];show(QN.mp h).1
  let q:l[j]?=some l[j]:=QO N;let n:=QO^fR _^QT q
  let E:=oG q n;rw[h]at E;show{_,_,q,n,Q5 E}
 let u:∀x∈fD d l,∃(m:Nat) (y:aS),d[m]?=!y/\x=(y.1,y.2.1,y.2.2.map λp=>l.idxOf p):=λx h=>by
  let{j,N}:=RD.mp h;let{m,y,_,n,E}:=C j x N;show{m,y,n,E}
 show{λj x h=>?_,λj x h=>?_,λx h=>?_,λx h=>?_,by rw[oE];show Q,by rw[oE];show LS k A fR,?_}
 .let{m,y,q,n,rfl}:=C j x h;let{r,V,f}:=L n;show{r,V,MZ k A q n f}
 .let{m,y,q,n,rfl}:=C j x h;show(show y.1∉aJ^(fD d l).take j from Pe k (by rw[B];show I) fR q n)
 .let{m,y,n,rfl}:=u x h;show(show bV y.1 from cC y.1^by rw[<-B];show Sy^QT n)
 .let{m,y,n,rfl}:=u x h;change(y.2.2.map _).length<=3;rw[QP];show J m y n
 .let hi:=GH k;let q:=pI k.la;let n:d[b]?=!d[b]'Z4:=QO Z4;let E:=oG q n;show{(fD d l).take^l.idxOf b,((d[b]'Z4).1,(d[b]'Z4).2.1,(d[b]'Z4).2.2.map λp=>l.idxOf p),?_,?_}
  .let e:(fD d l).take (l.idxOf b+1)=fD d l:=Rm (by rw[oE];omega);show e.symm.trans ?_;rw[Rs,E];rfl
  .rw[<-B,tT,n]at z
   show Q5 z
end
end cf
namespace cf
open PySem L2 FL
section
variable {P:qj}{w:pa}{K:kc}{mg:Str->Option wj}{base:rl}{f:vb}{fd:mu}
def Gn{b:ZZ->Prop}{a:ZZ->D->Prop}(n:b c)(o:∀e,a c e->e=d)(h:dF t G i c):ag (ja (iN b a) [] m t) G i d:=
 λM H s l Q k=>h M H s l _ λx y j p=>{M,c,l.same j,by rw[Ro];show p,n,λe v q g r u=>k v q (j.trans r)^by rw[<-o e g];show u}
def Nt{g:ZZ->Prop}{a:ZZ->D->Prop}{q:ZZ->Prop}{m:List Sl}{E:Ends}{r:wj->St->Hp->Prop}(h:∀G c,aA G c^m.map Sl.dat->dF t G c j)(s:g j)(k:∀d,a j d->aP B l (m.set i^.d d) E.nx)(u:q j->aP B l m^λc H=>r (.ref C) c H):aP B l m^dX (yI (pP C g a q) r t) (cp i) E:=λe c H b=>
 h _ c b.jE _ H `f b.fJ _ λI J n x=>{e++l,j,b.fJ.same n,x,s,λd y v o p z=>k d y e _ o^(b.grow^n.trans p).set i z,λA o p=>u A e c o^b.grow^n.trans p}
def Kn (a:List Int):D.str "zed"∉gJ a:=λh=>by
 unfold gJ at h;split at h
 .let{k,_,e}:=Q6.mp h;cases e
 .let{d,_,b,g}:=fY (l:=mC<|a.getD 1 0%1000) (n:=4) (a.getD 0 0/4) Z1 A2;rw[<-g]at h;let c:¬(Str.ofString "zed"=Str.ofString "ashenashenashen"):=by decide+kernel
  let i:¬(Str.ofString "zed"=Str.ofString "ashenashxnashen"):=by decide+kernel
  let j:¬(Str.ofString "zed"=Str.ofString "qu"):=by decide+kernel
  unfold mC at b;simp only[QZ,Rt,RH]at b;rcases b with rfl|rfl|rfl|rfl<;>simp only[AB,QZ,Rt,RH,D.str.injEq,reduceCtorEq,false_or]at h
  .rcases h with z|z
   .show c z
   .show i z
  .show c h
  .show j h
def mQ:List D:=[.str "road",.str "zed",.int 2]
def Oq:bV mQ:=λx a=>by
 unfold mQ at a;simp only[QZ,Rt,RH]at a;rcases a with rfl|rfl|rfl<;>rfl
def LO{f:ZZ}(h:fV (gJ b) f):f≠mQ:=λe=>by
 let{w,g,a,_,c}:=h;rw[e]at a;unfold mQ at a;injection a with _ d;show Kn b^c _ (by rw[<-d];show QQ)
abbrev CT:List Str:=["_law_script","_law_rules","_law_facts","_law_pick","_law_fact","_law_there","_law_handed","_law_refused","_law_found"]
def iy:cb CT ["_law_script"]^bH oh:=`b
def MM(F:bB K "law" "law" oh f fd)(B:Bl mg)(KN:vT K nt bh bg lb nr L)(ab:eR K mg "NotTold" nt)(U:bP P w K mg base 1 "_law_mixed" ["_law_script"]^bI CH)(C:bP P w K mg base 2 "_law_pool_by" ["_law_script"]^bI w8)(t:bP P w K mg base 3 "_law_rules_by" ["_law_script"]^iN Fa El)(M:bP P w K mg base 1 "_law_at" ["_law_script","_law_k"]^bI sY)
  (Y:bP P w K mg base 3 "_law_least" ["_law_rules","_law_pool"]^va CZ Bm) (ac:tw P w K mg base 13 "grounds" ["rules","fact"]^pP nt qg wO wV) (I:bP P w K mg base 14 "_law_refuses" ["_law_rules","_law_fact"]^iN qg xI) (n:bP P w K mg base 3 "_law_stays" ["_law_handed","_law_rules"]^bI rA) (u:bP P w K mg base 4 "_law_leads_up" ["_law_found","_law_rules","_law_fact"]^bI ze):bw P w K mg base bO 16 f fd ["_law_script"]^uq K:=by
 show F.AL iy (λvs H Q E h=>?_) λb5 A bk s H vs Q E hr h=>?_
 .let{a,ns,rfl,_}:=h;rfl
 let{a,ns,rfl,hS,a0,q}:=h;let hu:=d8 hr;let b6:=fH hr;show⟨_,(il (bf 0 iy.nd^pN Fg (pv 0) sS^oA aD).z
   (il (bf 0 iy.nd^bL U hr^ai (pv 0) aq).z
   (il (bf 1 iy.nd^bL t hr^ai (pv 0) aq).z
   (il (bf 2 iy.nd^Kv B^bL Y hr^ai (pv 1)^ai (bL C hr^ai (pv 0) aq) aq).z
   (il (bf 3 iy.nd^cU lD (cU iL (bL M hr^ai (pv 0)^ai aD aq) aD)^cy B^pv 0).z
   (il (bf 4 iy.nd^eG^ai eU^ai eU^ai aD aq).z
   (il (bf 5 iy.nd^jI (gQ qP (cy B^pv 2) aD)^lR^gQ (gc^by show hu) (cU eY (bL M hr^ai (pv 0)^ai aD aq) aD) aD).z
   (il (cc (cS^pv 5) (az^bf 4 iy.nd^aY (pv 2)^cU vD (cU vD (cy B^pv 2) aD)^cU eY (pv 3)^cy B^pv 2) cw).z
   (il (bf 6 iy.nd^EU B^pv 1).z
   (il (bf 7 iy.nd cO).z
   (il (bf 8 iy.nd uM).z
   (il (Gs vE (λ_=>(az^bf 8 iy.nd^Fn vE ac hr^ai (pv 6)^ai (pv 4) aq))^jY.cons ab.mg A2 Z1 (λ_=>(az^bf 7 iy.nd cO)) jY.nil)
   (il (cc (cA (gc^by show hu) (bL I hr^ai (pv 6)^ai (pv 4) aq)^pv 7) (az^bz cO) cw).z
   (il (cc (fM (d7^cS^bL n hr^ai (pv 6)^ai (pv 1) aq)^fM (cS^pv 7)^iw^d7^cS^pv 5).pt (az^bz^jI (pv 7)^jI (wT^pv 5)^lR^bL n hr^ai (pv 6)^ai (pv 1) aq) cw).z
   (GR (bz^bL u hr^ai (pv 8)^ai (pv 1)^ai (pv 4) aq).z))))))))))))))),?_⟩
 show{_,A2,500,A2,a,_,A2,hS,λp hp=>?_};rw[Om a0];let E1:=OM (H:=H) (p:=p) (ns:=ns) CT a 8 A2;dsimp only;let b0:Bx _ [] [] _ _ [Sl.d^.lst^ns.map D.int,.no,.no,.no,.no,.no,.no,.no,.no]:=Bx.MI av.nil Z8 E1;show aP.Lz b0 ?_;clear b0 E1 hS;generalize upd H p^HO.lst^List.map V.int ns=H1;show bp^ig (i:=0) (d:=.lst^(oH ns).map D.int) (λG N e=>bR {ns,A2,a0,A2}^aa (e.vd A2) ah) ?_
 let bm:(oH ns).length<=63:=by rw[Im];show a0
 generalize oH ns=O at bm;clear a0;show bp^wS (i:=1) (ds:=[.lst^O.map D.int]) (λG N e=>aa (e.vd A2) ah) {O,A2,by omega} λd hd=>?_
 let{bs,j,he,rfl,a2,b7}:=hd;simp only[Ua,D.lst.injEq]at he;let em:O=bs:=(Vv λa b e=>by injection e).mp he.1;subst em;let hP:=FD O;let hR:=a2.ok;show bp^Kt (i:=2) (ds:=[.lst^j.map aR,.lst^gJ O]) (λG N e=>aa (e.vd A2)^aa (bR {O,A2,A2}^aa (e.vd A2) ah) ah) {gJ O,j,A2,hP,hR} λps a3=>?_;let{a4,a1,he,hL,hC}:=a3;simp only[Ua,D.lst.injEq]at he;let er:j=a1:=rh he.1;let ep:gJ O=a4:=he.2.1;subst er;subst ep;let bt:(ps.map (·.1)).length<=411:=hL.dz hP;let a3:(ps.map λp=>D.tup p.1)=(ps.map (·.1)).map D.tup:=by rw[Rz];rfl
 rw[a3];generalize ps.map (·.1)=T at hL hC bt;let aj:∀{l:ZZ} {y:List^List aS},dU l j y->∀f,f∈aB y↔f∈T:=λ{l y} hE f=>by
  let a8:=hE.any hP a2;constructor
  .intro hf;show a8.least hC y.length f (by rw[Sd];show hf)
  .intro hf;show hL.low (aB y) (λr hr c hc hs=>a8.closed hr (hR r hr) hc hs) f hf
 let a9:∀g∈T,bV g:=λg hg=>((hL.fin g hg).flat hP).2.2.sc;let am:∀r∈j,qL r.1/\qL^r.2.map D.tup:=λr hr=>by
  let hk:=hR r hr;let hs:=hk.hd.sc hP;show{{by omega,.inl hs.1},by rw[QP];have:=hk.dz;omega,.inr {r.2,A2,λa ha x hx=>((hk.at_ a ha).at_.kK.sc x hx).1}}
 dsimp only;show bp^dJ (i:=3) (d:=.int<|O.getD 1 0/5+(O.length:Int)) (λG N e=>nq (iF {by decide,by decide} (bR (lE O 1)^aa `c^aa ar ah) ar)^(dW (K:=K)^aa `c ah).eq (by rw[QP])) A2 ?_
 generalize O.getD 1 0/5+(O.length:Int)=dM;dsimp only;show bp^dJ (i:=4) (d:=.tup mQ) (λG N e=>aV (ds:=mQ) (aa aK^aa aK^aa ar ah) (hz:=by change 3<=se;decide)) A2 ?_
 dsimp only;show bp^dJ (i:=5) (d:=.bl<|fT ((0:Int)<((T.map D.tup).length:Int))&& not^fT (D.int (O.getD 1 0%5)=D.int 3)) (λG N e=>fh (qY (dW (K:=K)^aa `c ah) ar) λ_=>mT (d1:=.int<|O.getD 1 0%5) (d2:=.int 3) A2 (Rk _) (eW Z1 (bR (lE O 1)^aa `c^aa ar ah) ar) ar) A2 ?_
 let a5:(fT ((0:Int)<((T.map D.tup).length:Int))&& not^fT (D.int (O.getD 1 0%5)=D.int 3))=bU->0<T.length:=λh=>by
  have:=Q8 (Ss.mp h).1;rw[QP]at this;omega
 generalize (fT ((0:Int)<((T.map D.tup).length:Int))&& not^fT (D.int (O.getD 1 0%5)=D.int 3))=m at a5;dsimp only;show bp^Eo (λbc=>∃k,bV k/\((m=bU/\k∈T)\/(m=fF/\k=mQ))/\bc=[Sl.d^.lst^O.map D.int,.d^.lst^j.map aR,.d^.lst^T.map D.tup,.d^.int dM,.d^.tup k,.d^.bl m,.no,.no,.no]) (λG N e=>cM^e.v A2) (λhk hb=>?_) (λhk hb=>fq^hk _ {mQ,Oq,.inr {hb,A2},A2}) λbc hp=>?_
 .let b8:=a5 hb;let ca:=Ve dM (show(T.length:Int)≠0 by omega);let cd:=Int.emod_lt_of_pos dM (show(0:Int)<(T.length:Int)by omega);obtain ⟨f,a6,bx⟩:∃f,f∈T/\dI (T.map D.tup) ((T.length:Int)-1-dM%(T.length:Int))=!.tup f:=by
   let hi:((T.length:Int)-1-dM%(T.length:Int)).toNat<T.length:=by omega
   show{T[((T.length:Int)-1-dM%(T.length:Int)).toNat],Sr hi,jK Z4 ?_};rw[QY,QO hi];rfl
  show dJ (i:=4) (d:=.tup f) (λG N e=>c7 bx `c^tZ (tZ ((dW (K:=K)^aa `c ah).eq^by rw[QP]) ar)^eW Z4 `c^(dW (K:=K)^aa `c ah).eq (by rw[QP])) (iM^a9 f a6)^hk _ {f,a9 f a6,.inl {hb,a6},A2}
 let{k,b1,an,rfl}:=hp;let af:∀{l:ZZ} {y:List^List aS},dU l j y->(k∈aB y↔m=bU):=λ{l y} hE=>by
  rw[aj hE];rcases an with⟨h1,h2⟩|⟨h1,h2⟩
  .show{λ_=>h1,λ_=>h2}
  .show{λh=>absurd h2^LO^hL.fin k h,λh=>?_}
   rw[h1]at h;cases h
 let ao:qg [.lst^j.map aR,.tup k]:={gJ O,j,k,A2,hP,a2,by omega,b1}
 let as:∀d,xI [.lst^j.map aR,.tup k] d->d=.bl^not m:=λd h=>by
  let{l,o,y,J,e1,hE,rfl}:=h;simp only[Ua,D.lst.injEq,D.tup.injEq,Wq]at e1;obtain rfl:j=o:=rh e1.1;obtain rfl:k=J:=e1.2;have:=af hE;congr 2;rw[Ry,R0];show this
 clear an aj hL hC a5;dsimp only;show bp^ig (i:=6) (d:=.lst^j.map aR) (λG N e=>Hx^aa (e.vd A2) ah) ?_
 dsimp only;show bp^dJ (i:=7) (d:=.bl fF) (λG N e=>iR) A2 ?_
 dsimp only;show bp^dJ (i:=8) (d:=.aw) (λG N e=>JS) A2 ?_
 dsimp only;show bp^Nt (i:=8) (λG N e=>aa (e.vd A2)^aa (e.vd A2) ah) ao (λd hd=>?_) λhn=>?_
 .let{l,o,y,J,b4,e1,hE,_,bd,rfl}:=hd;simp only[Ua,D.lst.injEq,D.tup.injEq,Wq]at e1;obtain rfl:j=o:=rh e1.1;obtain rfl:k=J:=e1.2;let be:m=bU:=(af hE).mp^QT bd;subst be;let a7:=IF hE Z4 bd;dsimp only;show gP (λG N e=>bu.eq (cz^ED (a:=fF) (b:=fF) (Gn ao (λd' h=>as d' h)^aa `c^aa `c ah)^e.v A2) A2) ?_;show gP (λG N e=>fy (b:=fF) (c:=fF) (bu.eq (dY^cM^bR (R:=rA) (d:=.bl bU) {j,A2,by omega,am,A2}^aa `c^aa `c ah) A2) λ_=>fy (b:=fF) (c:=fF) (cM^e.v A2) λ_=>bu.eq (dY^cM^e.v A2) A2) ?_;show fc (λG N e=>bR (R:=ze) (d:=.bl bU) {l,j,_,k,A2,a7,A2}^aa `c^aa `c^aa `c ah) λv H' s r=>by rw[r.ik];show q H'
 .let{l,o,y,J,e1,hE,b2}:=hn;simp only[Ua,D.lst.injEq,D.tup.injEq,Wq]at e1;obtain rfl:j=o:=rh e1.1;obtain rfl:k=J:=e1.2;let bi:m=fF:=by
   cases m with
   |false=>rfl
   |true=>show absurd ((af hE).mpr A2) b2
  subst bi;show λb3 N H2 b=>{bU,KN.xt,?_}
  rw[Q0 A2];show dJ (i:=7) (d:=.bl bU) (λG N e=>iR) A2 ?_ b3 N H2 b;dsimp only;show gP (λG N e=>bu.eq (cz^ED (a:=bU) (b:=bU) (Gn ao (λd' h=>as d' h)^aa `c^aa `c ah)^e.v A2) A2) ?_;show bp^eA (b:=bU) (λG N e=>fy (b:=fF) (c:=bU) (bu.eq (dY^cM^bR (R:=rA) (d:=.bl bU) {j,A2,by omega,am,A2}^aa `c^aa `c ah) A2) λ_=>fy (b:=bU) (c:=bU) (cM^e.v A2) λz=>nomatch z) (λ_=>?_) λz=>nomatch z
  show fc (λG N e=>ag.eq (d':=.bl bU) (fh (b:=bU) `c λ_=>fh (b:=bU) (ag.eq (Ae (b:=fF)^e.v A2) A2) λ_=>bR (R:=rA) (d:=.bl bU) {j,A2,by omega,am,A2}^aa `c^aa `c ah) A2) λv H' s r=>by rw[r.ik];show q H'
end
end cf
namespace cf
open PySem L2 FL
section
variable {P:qj}{w:pa}{K:kc}{mg:Str->Option wj}{base:rl}{f:vb}{fd:mu}
def Gr:cb ["_law_found","_law_due","_law_k"] ["_law_found","_law_due"]^bH Af:=`b
def IW (F:bB K "_law_alike" "_law_alike" Af f fd)(B:Bl mg)(g:bP P w K mg base 1 "_law_whole" ["_law_found"]^bI qd):bw P w K mg base bO 2 f fd ["_law_found","_law_due"]^bI C3:=by
 show F.ok Gr (eF (n:=2) λN d O=>by let{_,e,_}:=O;rw[e];rfl) λT A t s H vs Q E I h=>?_;let{M,N,d,U,Y,{k,rfl,{hl,J},rfl},q}:=h;let u:=d8 I;show⟨_,(aC (cc (fM (d7^cS^gS B (pv 0) B.tuple RZ)^iw^cA (gc^by show u) (cy B^pv 0)^cy B^pv 1).pt (az^bz cO) cw)
   (aC (cV Rf A2 (og A2 B.range^ai (cy B^pv 1) aq) (bC 2 Gr.nd)^az^cc (cS^gS B (aY (pv 1)^pv 2) B.tuple RZ) (az^cc (fM (d7^cS^gS B (aY (pv 0)^pv 2) B.tuple RZ)^iw^cA (gc^by show u) (cy B^aY (pv 0)^pv 2)^cy B^aY (pv 1)^pv 2).pt (az^bz cO) cw)^az^cc (kz (d7^cS^gS B (aY (pv 0)^pv 2) B.str Ud)^kO^d7^cS^bL g I^ai (aY (pv 0)^pv 2) aq).pt (az^bz cO) cw)
   (az^bz^gQ (fA^by show u) (pv 0)^pv 1))),?_⟩
 let b0:Bx H M [] _ H [Sl.d^.tup k,.d^.tup k,.no]:=gg U Y ["_law_found","_law_due","_law_k"];show aP.run b0 ?_;show gP (λG p e=>fy (b:=fF) (c:=fF) (bu.eq (dY^cM^oZ^e.v A2) A2) λ_=>bu.eq (cz^lN (gv (K:=K)^aa `c ah)^gv (K:=K)^aa `c ah) Z8) ?_;show bp^fI (i:=2) (c8.sq (n:=k.length) Z4 λG p e=>aa (gv (K:=K)^aa `c ah) ah) (λ_ m=>∃s,m=[Sl.d^.tup k,.d^.tup k,s]) {_,A2} (λB' sB hk j z m hj y=>?_) λm y=>?_
 .let{s,rfl}:=y;let{r,rfl}:=mo 0 _ j z hj;let o:dI k (0+(j:Int))=some k[j]:=sk^QO r;let C:=Sr r;generalize k[j]=x at o C;show eA (λG p e=>cM^oZ^bS o `c^e.v A2) (λz=>?_) λz=>?_
  .obtain ⟨l,rfl⟩:∃l,x=.tup l:=by cases x<;>first|show⟨_,rfl⟩|cases z
   show eA (b:=fF) (λG p e=>fy (b:=fF) (c:=fF) (bu.eq (dY^cM^oZ^bS o `c^e.v A2) A2) λ_=>bu.eq (cz^lN (gv (K:=K)^aa (bS o `c^e.v A2) ah)^gv (K:=K)^aa (bS o `c^e.v A2) ah) Z8) (λz=>nomatch z) λ_=>fq^dO {_,A2}
  .let cC:x.sc=bU:=by
    rcases J with w|⟨as,rfl,_⟩
    .show w x C
    .let{a,_,rfl}:=Q6.mp C;cases z
   show eA (b:=fF) (λG p e=>bu.eq (mi (dY^cM^mh^bS o `c^e.v A2) λ_=>dY^cM^bR {x,A2,A2}^aa (bS o `c^e.v A2) ah)^BS cC) (λz=>nomatch z) λ_=>fq^dO {_,A2}
 .let{s,rfl}:=y;dsimp only;let L:cD (.tup k)^.tup k=bU/\(D.tup k).cT<=40:=by
   rcases J with w|⟨as,rfl,w⟩
   .show nE w w
   .let{e1,e2}:=uB w w;show{by rw[cD];show e1,by rw[D.cT];omega}
  show fc (λG p e=>ag.eq (jO L.1 L.2 `c^e.v A2)^by rw[Q9 A2]) q
def B4:cb ["_law_handed","_law_rules","_law_k"] ["_law_handed","_law_rules"]^bH x9:=`b
def N0 (F:bB K "_law_stays" "_law_stays" x9 f fd)(B:Bl mg)(a:bP P w K mg base 2 "_law_alike" ["_law_found","_law_due"]^bI C3):bw P w K mg base bO 3 f fd ["_law_handed","_law_rules"]^bI rA:=by
 show F.ok B4 (eF (n:=2) λU d Y=>by let{_,e,_}:=Y;rw[e];rfl) λab A I s H vs Q E J h=>?_;let{M,U,d,lv,rs,{g,rfl,hl,hx,rfl},q}:=h;let T:=d8 J;show⟨_,(aC (cc (cA (gc^by show T) (cy B^pv 0)^cy B^pv 1) (az^bz cO) cw)
   (aC (cV Rf A2 (og A2 B.range^ai (cy B^pv 1) aq) (bC 2 B4.nd) (aC (cc (fM (d7^cS^gS B (aY (pv 0)^pv 2) B.tuple RZ)^iw^cA (gc^by show T) (cy B^aY (pv 0)^pv 2) aD).pt (az^bz cO) cw)
   (aC (cc (d7^cS^bL a J^ai (aY (aY (pv 0)^pv 2) aD)^ai (aY (aY (pv 1)^pv 2) aD) aq) (az^bz cO) cw)
   (az^cc (d7^cS^bL a J^ai (aY (aY (pv 0)^pv 2) aD)^ai (aY (aY (pv 1)^pv 2) aD) aq) (az^bz cO) cw))))
   (az^bz cO))),?_⟩
 let b0:Bx H M [] _ H [Sl.d^.lst^g.map aR,.d^.lst^g.map aR,.no]:=gg lv rs ["_law_handed","_law_rules","_law_k"];show aP.run b0 ?_;show gP (λG o e=>bu.eq (cz^lN (dW (K:=K)^aa `c ah)^dW (K:=K)^aa `c ah) Z8) ?_;show bp^fI (i:=2) (c8.sq (n:=g.length) Z4 λG o e=>aa ((dW (K:=K)^aa `c ah).eq^by rw[QP]) ah) (λ_ p=>∃s,p=[Sl.d^.lst^g.map aR,.d^.lst^g.map aR,s]) {_,A2} (λB' sB hk j z p hj L=>?_) λp L=>?_
 .let{s,rfl}:=L;let{t,rfl}:=mo 0 _ j z hj;let u:=QO t;let{x,y}:=hx _^Sr t;generalize g[j]=r at u x y;let N:dI (g.map aR) (0+(j:Int))=!aR r:=sk (by rw[QY,u];rfl);let C:∀{d:D} {G:Hp} {o:St} {O:List Sl} {i:Int} {m:Nat},bN G o O->(O[m]?).bind Sl.jw=!(.lst^g.map aR)->(O[2]?).bind Sl.jw=!(.int<|0+(j:Int))->dI [D.tup r.1,cB r.2] i=!d->ag (bT (eP K) (bT (eP K) (aW m)^aW 2)^tC (.int i)) G o d:=λe x y k=>bS k (c7 N (e.v x)^e.v y) ar;show gP (λG o e=>fy (b:=fF) (c:=fF) (bu.eq (dY^cM^oZ^c7 N `c^e.v A2) A2) λ_=>bu.eq (cz^lN (gv (K:=K) (l:=[D.tup r.1,cB r.2])^aa (c7 N `c^e.v A2) ah) ar) A2) ?_;show gP (λG o e=>bu.eq (dY^cM^bR (d:=.bl bU) {r.1,A2,x,A2}^aa (C e A2 A2 A2)^aa (C e A2 A2 A2) ah) A2) ?_;show eA (b:=fF) (λG o e=>bu.eq (dY^cM^bR (d:=.bl bU) {r.2.map D.tup,A2,y,A2}^aa (C e A2 A2 A2)^aa (C e A2 A2 A2) ah) A2) (λz=>nomatch z) λ_=>fq^dO {_,A2}
 .let{s,rfl}:=L;dsimp only;show fc (λG o e=>iR (b:=bU)) q
end
end cf
namespace cf
open PySem L2 FL
section
variable {P:qj}{w:pa}{K:kc}{mg:Str->Option wj}{base:rl}{f:vb}{fd:mu}
abbrev F6:List Str:=["_law_rules","_law_pool","_law_there","_law_more","_law_head","_law_body","_law_things","_law_fact","_law_meets"]
def kE:cb F6 ["_law_rules","_law_pool"]^bH xL:=`b
def Ig (F:bB K "_law_least" "_law_least" xL f fd)(B:Bl mg)(O:bP P w K mg base 1 "_law_choices" ["_law_blanks","_law_pool"] uN)(L:bP P w K mg base 1 "_law_blanks_in" ["_law_atoms"]^bI CV)(ac:bP P w K mg base 2 "_law_true" ["_law_atom","_law_there"]^spS yV)(I:bP P w K mg base 1 "_law_fill_in" ["_law_atom","_law_things"]^kh tL):bw P w K mg base bO 3 f fd ["_law_rules","_law_pool"]^va CZ Bm:=by
 show F.ok kE (IV (n:=2) λds q0=>by let{_,_,e,_}:=q0;rw[e];rfl) λb5 A bh s H vs Q E hr h=>?_;let{M,ds,lv,rs,{C,u,rfl,hP,bk},q}:=h;let hu:=d8 hr;let a7:=fH hr;show⟨_,(aC (bf 2 kE.nd vP)
   (aC (bf 3 kE.nd cO)
   (aC (wU Rf (cS^pv 3) (aC (bf 3 kE.nd cO)
   (az^cV Rf A2 (cG^pv 0) (mZ A2^fC (bC 4 kE.nd)^fC (bC 5 kE.nd) lh)^az^cV Rf A2 (cG^bL O hr^ai (bL L hr^ai (pv 5) aq)^ai (pv 1) aq) (bC 6 kE.nd) (aC (bf 7 kE.nd^bL I hr^ai (pv 4)^ai (pv 6) aq)
   (aC (qc (i:=8) ["_law_there","_law_things","_law_atom"] [2,6] 1 kE.nd A2 (Or.inl A2) (cG^pv 5) (λ_ _ _ _ _=>(bC 2 (show(["_law_there","_law_things","_law_atom"]:ZY).Nodup from by decide+kernel))) (λ_ _ _ _ _=>j8) λ_ _ _ _ _=>(kA ac hr^ai (kA I hr^ai (pv 2)^ai (pv 1) aq)^ai (pv 0) aq))
   (az^cc (kz (lC^rT (by show a7) (pv 7)^pv 2)^kO^cS^zQ B^pv 8).pt (aC (jW a7 (pv 2) (pv 7) cO A2)
   (az^bf 3 kE.nd cO)) cw))))))
   (az^bz^pv 2)))),?_⟩
 let b0:Bx H M [] _ H [Sl.d^.lst^u.map aR,.d^.lst C,.no,.no,.no,.no,.no,.no,.no]:=gg lv rs F6;show aP.run b0^bp^Qt (i:=2) ?_
 dsimp only;show bp^dJ (i:=3) (d:=.bl bU) (λG σ e=>iR) A2 ?_
 show bp^Mq (λm af=>∃(U:List (ZZ×D)) (l:Bool) (s4 s5 s6 s7 s8:Sl),mV C u^U.map (·.1)/\(l=fF->yb C u^U.map (·.1))/\m=2*(1000-U.length)+(if l=bU then 1 else 0)/\af=[Sl.d^.lst^u.map aR,.d^.lst C,.t U,.d^.bl l,s4,s5,s6,s7,s8]) _ {[],bU,_,_,_,_,_,{Tq,(λf hf=>nomatch hf),(λT hT f hf=>nomatch hf)},(λz=>nomatch z),A2,A2} λB' sB hk m af hp=>?_
 let{U,l,s4,s5,s6,s7,s8,hL,bm,rfl,rfl}:=hp;show{l,λG σ e=>cM^e.v A2,λhm=>?_,λhm=>?_}
 .subst hm;show bp^dJ (i:=3) (d:=.bl fF) (λG σ e=>iR) A2 ?_
  letI Up:bA->aT->Prop:=λr c=>gM (U.map (·.1)) r.2 c=bU->cP c r.1∈U.map (·.1);letI Iv:List (ZZ×D)->Bool->Prop:=λJ l=>mV C u^J.map (·.1)/\(l=fF->J=U)/\(l=bU->U.length<J.length)
  show Li (i:=4) (i':=5) (c8.of λG σ e=>ef^e.vd A2) (λj af=>∃J l s4 s5 s6 s7 s8,Iv J l/\(l=fF->∀r∈u.take j,∀c∈df C (ba [] r.2) [[]],Up r c)/\af=[Sl.d^.lst^u.map aR,.d^.lst C,.t J,.d^.bl l,s4,s5,s6,s7,s8]) {U,fF,_,_,_,_,_,{hL,λ_=>A2,λz=>nomatch z},(λ_ r hr=>nomatch hr),A2} (λB2 b6 b7 k x af hx hp=>?_) λaf hp=>?_
  .let{J,l,s4,s5,s6,s7,s8,bt,ao,rfl}:=hp;rw[QY]at hx;let{r,a1,rfl}:=Ru.mp hx;let a8:=QT a1;let am:=bk r a8;let bx:u.take (k+1)=u.take k++[r]:=by rw[Rs,a1];rfl
   let{Y,o}:=r;show{.tup Y,cB o,A2,?_};let hI:BI (cu o) o:=am.bi;let hA:=hI.at_;let b8:o.length<=3:=am.dz;let a2:∀a∈o,∀x∈a,x.sc=bU:=λa ha x hx=>((hA a ha).ok x hx).1;obtain ⟨w,xs,hw⟩:∃w xs,Y=D.str w::xs:=by
    let{w,xs,e,_}:=am.hd;show{w,xs,e}
   let a3:Y≠[]:=by rw[hw];show λz=>nomatch z
   let a4:(∀x∈Y,x.sc=bU)/\Y.length<=3:=am.hd.sc hP;show Iu (i:=6) (Bs:=ba [] o) (pool:=C) (λG σ e=>aa (bR {o,A2,Hl hA Z4,A2}^aa (e.vd A2) ah)^aa (e.vd A2) ah) (λx hx=>(hP.gp x hx).1) (Oc hA) (by rcases hP.len with z|z<;>omega) (λj af=>∃J l s6 s7 s8,Iv J l/\(l=fF->∀r∈u.take k,∀c∈df C (ba [] r.2) [[]],Up r c)/\(l=fF->∀c∈(df C (ba [] o) [[]]).take j,Up (Y,o) c)/\af=[Sl.d^.lst^u.map aR,.d^.lst C,.t J,.d^.bl l,.d^.tup Y,.d^cB o,s6,s7,s8]) {J,l,_,_,_,bt,ao,(λ_ c hc=>nomatch hc),A2} (λB3 ca cd j c b1 hc hp=>?_) λb1 hp=>?_
   .let{J,l,s6,s7,s8,{aj,N,ab},a5,as,rfl}:=hp;let a9:=QT hc;let bc:∀p∈c,p.2.sc=bU:=vK C _ [[]] c (λx hx=>(hP.gp x hx).1) (λm hm p hp=>by rw[Rg.mp hm]at hp;cases hp) a9;let a6:=wX a3 a4.1 bc;let an:=aj.dz hP;rw[QP]at an;show bp^dJ (i:=7) (d:=.tup^cP c Y) (λG σ e=>e.rM (j:=6) (.inr A2) a3 a4.1 (Rh a4.2 Z1)^e.v A2) (iM a6) ?_;show bp^HW (n:=8) (idx:=[2,6]) (k:=1) (i:=2) (ds:=o.map D.tup) (λ_=>bU) (λd=>match d with|.tup a=>.bl^eB (J.map (·.1))^cP c a|_=>.aw) ?_ Z8 (λG σ e=>im^e.v A2) (λG' b2 d Y e'=>kS) (λG' b2 d Y _ e'=>?_) (by rw[QP];show cH Z4) ?_
    .rw[RM.mpr λ_ _=>A2,Rz]
     show C5 _ _
    .let{a,ha,rfl}:=Q6.mp Y;let Aa:=hA a ha;show CM {cP c a,J,A2,FE Aa.ne (a2 a ha) bc λg=>(hI.gd a ha g).1,A2}^Ew (e'.rM (j:=1) (.inr A2) Aa.ne (a2 a ha) Aa.len^e'.v A2)^e'.es (i:=0) A2 (λz=>nomatch z) BW
    let em:((o.map D.tup).filter λ_=>bU).map (λd=>match d with|.tup a=>D.bl^eB (J.map (·.1))^cP c a|_=>.aw)=(o.map λa=>eB (J.map (·.1))^cP c a).map D.bl:=by
     rw[RM.mpr λ_ _=>A2,Rz,Rz];rfl
    rw[em];let bd:(o.map λa=>eB (J.map (·.1))^cP c a).all id=gM (J.map (·.1)) o c:=by
     unfold gM;rw[US];rfl
    dsimp only;show eA (b:= not^fT (cP c Y∈J.map (·.1))&&gM (J.map (·.1)) o c) (λG σ e=>mi (cM^e.OP (j:=2) A2 a6^e.v A2) λ_=>bu.eq (cM^wm (bs:=o.map λa=>eB (J.map (·.1))^cP c a)^aa (e.v (i:=8) A2) ah) bd) (λz=>?_) λz=>?_
    .let{z1,z2}:=Ss.mp z;let a0:cP c Y∉J.map (·.1):=by simpa using z1
     let be:qu J (cP c Y)^.bl bU=J++[(cP c Y,.bl bU)]:=by
      have:=ug (cP c Y) J;rw[Ri a0]at this;show Ph (by
       cases e:gT J^cP c Y with
       |none=>rfl
       |some d=>rw[e]at this;cases this)
     show bp^Ln (j:=2) (key:=cP c Y) (d:=.bl bU) A2 a6 (λG σ e=>iR) (λG σ e=>e.v A2) Z4 ?_
     rw[be];dsimp only;show dJ (i:=3) (d:=.bl bU) (λG σ e=>iR) A2^dO {J++[(cP c Y,.bl bU)],bU,.kd c,_,_,{?_,(λz=>nomatch z),λ_=>?_},(λz=>nomatch z),(λz=>nomatch z),A2}
     .rw[Rl]
      show aj.snoc a8 am a9 z2 a0
     .rw[Q7]
      cases l with
      |true=>have:=ab A2;omega
      |false=>rw[N A2];show SF _
    .show fq^dO {J,l,.kd c,_,_,{aj,N,ab},a5,λhm c' bg=>?_,A2}
     rw[Rs,hc]at bg;rcases Rc.mp bg with y|y
     .show as hm c' y
     .rw[Rg.mp y]
      intro hs;rw[N hm]at z;show Vx λa0=>?_;rw[Ri a0,show gM (U.map (·.1)) o c=bU from hs]at z;cases z
   .let{J,l,s6,s7,s8,b3,a5,as,rfl}:=hp;rw[Sd]at as;show dO {J,l,_,_,s6,s7,s8,b3,λhm r hr c hc=>?_,A2};rw[bx]at hr;rcases Rc.mp hr with z|z
    .show a5 hm r z c hc
    .let z:=Rg.mp z;subst z;show as hm c hc
  .let{J,l,s4,s5,s6,s7,s8,{aj,N,ab},ao,rfl}:=hp;rw[QP,Sd]at ao;let an:=aj.dz hP;rw[QP]at an;show dO {_,?_,J,l,s4,s5,s6,s7,s8,aj,λhm=>?_,A2,A2}
   .cases l with
    |true=>have:=ab A2;simp;omega
    |false=>rw[N A2];simp
   .rw[N hm]
    show ao hm
 .subst hm;show NC (j:=2) A2 λa b4 H' s' ha hr=>q U a b4 H' {C,u,A2,hL,bm A2} (sB.trans s') ha hr
end
end cf
namespace cf
open PySem L2 FL
section
variable {P:qj}{w:pa}{K:kc}{mg:Str->Option wj}{base:rl}{f:vb}{fd:mu}
def J3:cb ["self","asker","shared","guards"] ["self","asker","shared","guards"]^bH yG:=`b
def Qe(F:bB K "__init__" "Step.__init__" yG f fd)(T:mU K C):bw P w K mg base bO 1 f fd ["self","asker","shared","guards"]^DJ C:=by
 show F.ok J3 (λk H Q E l=>by let{_,_,_,_,_,e,_}:=l;rw[e];rfl) λm A d s H k Q E o h=>?_;let{x,b,g,i,j,rfl,n,q}:=h;show{_,(aC (gr (pv 0) (pv 1) A2)
   (aC (gr (pv 0) (pv 2) A2)
   (aC (gr (pv 0) (pv 3) A2)
   (aC (gr (pv 0) vP A2)
   (az^gr (pv 0) (kG lg aD) A2))))),?_}
 show{g,A2,.ref x,A2,x,C,b,[],A2,n,T.cl,T.nA,by decide,?_};show{i,A2,.ref x,A2,x,C,b,_,A2,aM,T.cl,T.nS,(show 1<1000 by decide),?_};show{j,A2,.ref x,A2,x,C,b,_,A2,aM,T.cl,T.nG,(show 2<1000 by decide),?_};rw[nk,nk];intro p c;let a:p≠x:=λz=>by rw[z,aM]at c;cases c
 rw[aE a]at c;show{.ref x,A2,x,C,b,[("asker",g),("shared",i),("guards",j)],A2,by rw[aE^RG a];show aM,T.cl,T.nO,(show 3<1000 by decide),?_};rw[PD a];show{1,A2,.ref x,A2,x,C,b,_,A2,aM,T.cl,T.nN,(show 4<1000 by decide),?_};rw[nk];show q p c a
def t5:cb ["self","place","fact","setting","shared_things","pairs"] ["self","place","fact"]^bH yH:=`b
def LR(F:bB K "offer" "Step.offer" yH f fd)(T:mU K C)(B:Bl mg)(r:bP P w K mg base 2 "matched" ["atom","fact","setting"]^bI EG):bw P w K mg base bO 3 f fd ["self","place","fact"]^Bu C:=by
 show F.ok t5 (λvs H Q E q0=>by let{_,_,_,_,_,_,_,e,_}:=q0;rw[e];rfl) λbs A bc s H vs Q E hr h=>?_;let{Z,os,st,a,n,g,v2,rfl,lv,am,v,Y,hA,hg,hz,q}:=h;let ab:=fH hr;show⟨_,(aC (bf 3 t5.nd^bL r hr^ai (eD (pv 0) A2)^ai (pv 2)^ai (dA aq) aq)
   (az^cc (cA Pc (pv 3) uM) (aC (bf 4 t5.nd^rQ B^gt ["self","blank","thing"] [0] 2 (cG^pv 3) (λ_ _ _ _ _=>(Av (n:=2) A2^fC (bC 1 (show(["self","blank","thing"]:ZY).Nodup from by decide+kernel))^fC (bC 2 (show(["self","blank","thing"]:ZY).Nodup from by decide+kernel)) lh)) (λ_ _ _ _ _=>(jo^lC^sR (by show ab) (pv 1)^sD (pv 0) A2)) λ_ _ _ _ _=>(pv 2))
   (aC (qc (i:=5) ["self","blank","thing"] [0] 2 t5.nd A2 (Or.inl A2) (cG^pv 3) (λ_ _ _ _ _=>(Av (n:=2) A2^fC (bC 1 (show(["self","blank","thing"]:ZY).Nodup from by decide+kernel))^fC (bC 2 (show(["self","blank","thing"]:ZY).Nodup from by decide+kernel)) lh)) (λ_ _ _ _ _=>(jo^lC^rT (by show ab) (pv 1)^sD (pv 0) A2)) λ_ _ _ _ _=>(eG^ai (pv 1)^ai (pv 2) aq))
   (aC (jU (AA ab (eD (pv 0) A2) (pv 4) (dA aq) {A2,A2,A2,A2})^eG^ai (pv 1)^ai (pv 5) aq)
   (az^gr (pv 0) (pv 1) A2)))) cw)),?_⟩
 let{dx,v0,sa,w2,l,ls,oS,G,ha,r0,an,rg,hO}:=am.at_;let aZ:a∈Z:=v a (by rw[G];simp);let as:l∈Z:=v l (by rw[G];simp);let a0:∀x∈ls,x∈Z:=λx c=>v x (by rw[G];simp[c]);obtain ⟨I,ac,bd⟩:∃I:ZX,(∀x,x∈a::I↔x∈Z)/\a∉I:={Z.filter λy=>fT<|y≠a,λx=>by
  by_cases e:x=a
  .simp[e,aZ]
  .simp[e],by simp}
 let G1:ae (but H Z)^but H I:=fe λx c=>(ac x).mp^QM _ c
 let lr:av I H:=λx c=>lv x^(ac x).mp^QM _ c
 let ga:but H I a=!(.ins C dx^ln v0 sa w2 l st.newest):=by rw[bv bd];show ha
 let E0:aA (but H I) (L2.start ["self","place","fact","setting","shared_things","pairs"] [.ref a,.int ((n:Nat):Int),v2]) [bF,!.int ((n:Nat):Int),!.tup g,bF,bF,bF]:=gO (.raw^.dat (.int _)^.dat (Y.mono G1) .nil) _;show gk (i:=3) lr E0 (bR (d:=pH^b9 st.db g []) {st.db,g,[],A2,hA.sc,hg.2,(λp hp=>nomatch hp),hA.len,Rk _,hA.ne,hg.1,A2}^aa (iS T.cl T.nA A2 ga A2^r0.mono G1)^aa (aI E0 A2)^aa (fE (ds:=pairD []) ah (hz:=Rk _)) ah) λa1 H4 o4 s4 l4 E4=>?_;let c0:a1[0]?=!!.ref a:=o4 0 Z1;show jG l4 E4 (cz^Js^aI E4 A2) (λe H5 s5 l5 E5=>?_) λe H5 s5 l5 E5=>?_
 .obtain ⟨m,J⟩:∃m,b9 st.db g []=!m:=by
   cases J:b9 st.db g []with
   |some m=>show{m,A2}
   |none=>rw[J]at e;show absurd e Z1
  let cC:=B7 J (λt ht=>nomatch ht) hg.2;let bt:=Du J;let bx:=hA.len;rw[J]at E5;let E5:aA (but H5 I) a1 [bF,!.int ((n:Nat):Int),!.tup g,!(.lst^pairD m),bF,bF]:=E5;let a2:=((s4.trans s5).but I) _ _ ga;let a3:=((s4.trans s5).but I) _ _^G1 _ _ an
  let b0:(lw m).length<=100:=by unfold lw;rw[QP];omega
  show gk (i:=4) l5 E5 (qX^aa (ag.eq (By (K:=K) (caps:=bo [0] 2) (i:=1) (j:=2) Z1 (ps:=lw m) (p:=λq=>fT<|q.1.name∈f9 st) (f:=λq=>q.2) (ef^(aI E5 A2).eq (by rw[Fe])) (λG' v1 v2 q sG hq r1 Y=>?_) (λG' v1 v2 q sG hq _ r1 Y=>de (by simp[bo]) Y)^cH Z4)^by rw[NI]) ah) λb1 H6 o6 s6 l6 E6=>?_
  .let{t,ht,rfl}:=Q6.mp hq;show JD (n:=t.1) (a:=a) T.cl T.nS (by simp[bo,c0]) (sG _ _ a2) A2 (sG _ _ a3)^de (by simp[bo]) r1
  let d0:=(o6 0 Z1).trans c0;let be:=(s6.but I) _ _ a2;let bg:=(s6.but I) _ _ a3;show gk (i:=5) l6 E6 (ag.eq (By (K:=K) (caps:=bo [0] 2) (i:=1) (j:=2) Z1 (ps:=lw m) (p:=λq=> not^fT (q.1.name∈f9 st)) (f:=λq=>.tup [q.1,q.2]) (ef^(aI E6 A2).eq (by rw[Fe])) (λG' v1 v2 q sG hq r1 Y=>?_) (λG' v1 v2 q sG hq _ r1 Y=>aV^aa (de (by simp[bo]) r1)^aa (de (by simp[bo]) Y) ah)^cH Z4)^by rw[Ii]) λa4 H7 o7 s7 l7 E7=>?_
  .let{t,ht,rfl}:=Q6.mp hq;show Qv (n:=t.1) (a:=a) T.cl T.nS (by simp[bo,d0]) (sG _ _ be) A2 (sG _ _ bg)^de (by simp[bo]) r1
  let S7:ae H H7:=s4.trans^s5.trans^s6.trans s7
  let e0:a4[0]?=!!.ref a:=(o7 0 Z1).trans d0;let af:=S7 _ _ ha;let bh:aA (but H7 Z) a4 [bF,!.int ((n:Nat):Int),!.tup g,!(.lst^pairD m),!(.tup^dS (f9 st) m),!(.lst^pairD^restOf (f9 st) m)]:=by
   have:=E7.fO af A2;rw[mn ac]at this;show this
  let bi:but H7 (ls++l::Z)=but H7 Z:=mn^vI as a0
  let bk:av (ls++l::Z) H7:=λx c=>(lv.same S7) x^(vI as a0 x).mp c
  let L:=bh;rw[<-bi]at L;show Qo (K:=K) (to:=my K (aW 0) "offers") (ty:=aW 4) (te:=vi^bq (aW 1)^bq (aW 5) bM) (M:=Z) (o:=(n,restOf (f9 st) m)) (key:=dS (f9 st) m) bk (λQ q=>{.ref a,e0,a,C,dx,_,.ref l,A2,af,T.cl,T.nO,A2,q}) (hO.same S7) (Hf cC _) hz (aI L (i:=4) A2) (aV^aa (aI L (i:=1) A2)^aa (aI L (i:=5) A2) ah) λk H8 n8 i8 k8 l8 O8=>?_;let N:a≠l:=λz=>by
   let{b2,O,_}:=hO.kvs;rw[<-z,ha]at O;cases O
  let a5:a∉ls:=λz=>by
   let{vs,O}:=hO.lists a z;rw[ha]at O;cases O
  let a6:=k8 _ _ N a5 af;let aj:a∉k:=λz=>by
   let{vs,O}:=O8.lists a z;rw[a6]at O;cases O
  let{u1,a7,bl}:=E7.get 1 _ A2;let bm:=bl.dQ;subst bm;show{.int ((n:Nat):Int),a7,.ref a,e0,a,C,dx,_,A2,a6,T.cl,T.nN,(show 5<1000 by decide),?_};let U:∀x∈a::l::k,x∈os\/H x=bF:=λx c=>by
   rw[G];rcases QZ.mp c with z|z
   .show .inl (by rw[z];simp)
   .rcases QZ.mp z with z|z
    .show .inl (by rw[z];simp)
    .rcases n8 x z with w|w
     .show .inl (by simp[w])
     .show .inr ?_
      cases qq:H x with
      |none=>rfl
      |some u=>rw[S7 _ _ qq]at w;cases w
  let a8:∀x∈os,x∈a::l::k:=λx c=>by
   rw[G]at c;rcases QZ.mp c with z|z
   .rw[z];simp
   .rcases QZ.mp z with z|z
    .rw[z];simp
    .show QM _^QM _^i8 x z
  let a9:∀b u,b∉os->H b=!u->upd H8 a (.ins C dx^ln v0 sa w2 l ((n:Nat):Int)) b=!u:=λb u hb qb=>by
   rw[G]at hb;simp only[QZ,Ws]at hb;rw[aE hb.1];show k8 b u hb.2.1 hb.2.2^S7 _ _ qb
  let SZ:ae (but H Z) (but (upd H8 a^.ins C dx^ln v0 sa w2 l ((n:Nat):Int))<|(a::l::k)++Z):=xD U v a9;let O9:fu (upd H8 a^.ins C dx^ln v0 sa w2 l ((n:Nat):Int)) ((a::l::k)++Z) l k (st.of++[(dS (f9 st) m,(n,restOf (f9 st) m))]):=by
   let hc:∀x,x∈k++l::Z↔x∈k++l::((a::l::k)++Z):=λx=>by
    simp only[Rc,QZ];constructor
    .rintro(z|z|z)
     .show .inl z
     .show .inr^.inl z
     .show .inr^.inr^.inr z
    .rintro(z|z|(z|z|z)|z)
     .show .inl z
     .show .inr^.inl z
     .show .inr (.inr^by rw[z];show aZ)
     .show .inr^.inl z
     .show .inl z
     .show .inr^.inr z
   show(O8.KJ hc).frame Z8 (λx c=>by simp[c]) Z8 (λx c=>by simp[c]) (λb u hb qb=>?_) ?_
   .rw[aE]
    .show qb
    .intro z;rcases QZ.mp hb with w|w
     .show N (by rw[<-z,w])
     .show aj (by rw[<-z];show w)
   .rw[eo Z8]
    show ae.refl _
  show q (a::l::k) _ U a8 a9 (λx c=>?_) ?_
  .show(l8.upd (a:=a)) x ?_
   rcases Rc.mp c with z|z
   .rcases QZ.mp z with z|z
    .rw[z];show Q1 _^QM _ aZ
    .rcases QZ.mp z with z|z
     .rw[z];show Q1 _ QQ
     .show Q2 _ z
   .show Q1 _^QM _ z
  .let eS:da st n g={st with of:=st.of++[(dS (f9 st) m,(n,restOf (f9 st) m))],newest:=n}:=by unfold da;rw[J]
   rw[eS];show{{dx,v0,sa,w2,l,k,oS,A2,aM,r0.mono SZ,SZ _ _ an,rg.mono SZ,O9}}
 .let J:b9 st.db g []=bF:=by
   cases J:b9 st.db g []with
   |none=>rfl
   |some m=>rw[J]at e;show absurd e (by simp[pH])
  let S5:=s4.trans s5;let eS:da st n g=st:=by unfold da;rw[J]
  let hc:∀x,x∈os++Z↔x∈Z:=λx=>⟨λh=>by
   rcases Rc.mp h with z|z
   .show v x z
   .show z,λh=>Q1 _ h⟩
  show q os H5 (λx c=>.inl c) (λx c=>c) (λb u _ qb=>S5 _ _ qb) (λx c=>(lv.same S5) x^(hc x).mp c) ?_;rw[eS];show am.frame v (λx c=>Q2 _ c) (λb u _ qb=>S5 _ _ qb) ?_;rw[mn hc];show S5.but Z
end
end cf
namespace cf
open PySem L2 FL
section
variable {P:qj}{w:pa}{K:kc}{mg:Str->Option wj}{base:rl}{f:vb}{fd:mu}
def wJ:cb ["self","setting","guard","slots"] ["self","setting"]^bH xz:=`b
def IP(F:bB K "allows" "Step.allows" xz f fd)(T:mU K C)(B:Bl mg)(k:bP P w K mg base 1 "filled" ["atom","setting"]^bI sX)(l:bP P w K mg base 1 "holds" ["guard"]^bI vh):bw P w K mg base bO 2 f fd ["self","setting"]^wZ C:=by
 show F.ok wJ (λvs H Q E q0=>by let{_,_,_,_,_,e,_}:=q0;rw[e];rfl) λa0 A ab s H vs Q E hr h=>?_;let{M,st,S,v0,v1,rfl,lv,ac,r1,hS,hg,q}:=h;let{a,dx,w0,sa,w3,ao,oS,rfl,ga,g0,g1,g3,g2}:=ac;show⟨_,(aC (cV Rf A2 (cG^eD (pv 0) A2) (mZ A2^fC (bC 2 wJ.nd)^fC (bC 3 wJ.nd) lh)^az^cc (d7^cS^bL l hr^ai (bL k hr^ai (pv 2)^ai (gt ["setting","slot"] [1] 1 (cG^pv 3) (λ_ _ _ _ _=>(bC 1 (show(["setting","slot"]:ZY).Nodup from by decide+kernel))) (λ_ _ _ _ _=>j8) λ_ _ _ _ _=>(mS (pv 0)^pv 1)) aq) aq) (az^bz cO) cw)
   (az^bz cO)),?_⟩
 let E0:aA `a (L2.start ["self","setting","guard","slots"] [.ref a,v1]) [bF,!(.lst^pairD S),bF,bF]:=gO (.raw^.dat r1 .nil) _;show i6 (M:=M) (ds:=st.gs.map mR) (ef^iS T.cl T.nG A2 ga A2 g3) lv λH1 I=>?_;show{λj b G=>ae H1 G/\b[0]?=!!.ref a/\aA (but G M) b [bF,!(.lst^pairD S),bF,bF]/\fK S^st.gs.take j=bU,{ae.refl _,A2,E0.same I,A2},λj b G q3=>by let{x,_}:=q3;show{x.but M,(lv.same I).same x},?_,?_}
 .rintro j d x b G J o ⟨L,i0,E',c⟩ Y rx
  obtain ⟨g,t,rfl⟩:∃g,st.gs[j]?=!g/\d=mR g:=by
   rw[QY]at o;cases e:st.gs[j]? with
   |none=>rw[e]at o;cases o
   |some y=>rw[e]at o;show{y,A2,(Q5 o).symm}
  let{{r,a1,b1,eg,N,O,af},hi,hz}:=hg g^QT t;show pc rx λu1 u2 q1 q2=>?_;let E3:aA (but J M) ((b.set 2^!u1).set 3^!u2) [bF,!(.lst^pairD S),!.tup g.1,!(.lst^g.2.map λn=>D.int (n:Nat))]:=((E'.same Y).set 2 q1).set 3 q2;let l3:av M J:=(lv.same^I.trans L).same Y;let{vS,aj,rS}:=E3.get 1 _ A2;let hp:=Bg hS hi;let cC:∀y∈g.1,y.sc=bU:=λy hy=>by
   rw[eg]at hy;simp only[QZ,Rt,RH]at hy;rcases hy with rfl|rfl|rfl
   .rfl
   .show N
   .show O
  let am:cF (dM S g.2)^.str r=.str r:=by
   show lG ?_;cases e:fP (dM S g.2)^.str r with
   |false=>rfl
   |true=>
    let{p,u,e2}:=Um.mp e;let e2:D.str p.1=.str r:=Q8 e2;have:=(hp p u).2;rw[e2,af]at this;cases this
  let m:g.1.map^cF^dM S g.2=[.str r,cF (dM S g.2) a1,cF (dM S g.2) b1]:=by
   rw[eg,RB,RB,RB,am];rfl
  let z:∀p∈dM S g.2,p.2.sc=bU:=λp u=>(hp p u).1;let U:holdsA^g.1.map^cF^dM S g.2=holdsD r (cF (dM S g.2) a1)^cF (dM S g.2) b1:=by rw[m];rfl
  let an:=bR (R:=vh) (E:=L2.E0) (d:=.bl^holdsA^g.1.map^cF^dM S g.2) (ds:=[.tup^g.1.map^cF^dM S g.2]) {r,_,_,by rw[m],(mY N z).2,(mY O z).2,by rw[U]}
   (aa (bR (R:=sX) (E:=L2.E0) (ds:=[.tup g.1,.lst^pairD^dM S g.2]) {g.1,dM S g.2,A2,cC,z,by rw[eg];show(show 3<=1000 by decide),A2}^aa (aI E3 (i:=2) A2)^aa (ag.eq (iC (caps:=bo [1] 1) (i:=1) (p:=λ_=>bU) (f:=λd=>match d with|.int n=>FC^S.getD n.toNat (("":Str),.aw)|_=>.aw) (tt:=nu) (te:=bT (eP K) (aW 0)^aW 1) (ef (K:=K)^aI E3 (i:=3) A2) (λG' v d _ _ _=>kS) (λG' v d sG o _ rv=>?_)^by rw[QP];show cH Z4) ?_) ah) ah)
  .show jG l3 E3 (dY^cM an) (λe H4 s4 l4 E4=>?_)^λe H4 s4 l4 E4=>nx ?_
   .let hf:fK S st.gs=fF:=by
     unfold fK;rw[List.all_eq_false];show{g,QT t,by simpa using e}
    rw[hf]at q;show q H4^I.trans^L.trans^Y.trans s4
   .show{L.trans^Y.trans s4,?_,(E4.drop 2).drop 3,?_}
    .rw[QS Z1,QS Z1];show i0
    .unfold fK at c⊢;rw[Rs,t,List.all_append,c];simpa using e
  .let{n,hn,rfl}:=Q6.mp o;let as:=hi n hn;let h0:((bo [1] 1^(b.set 2^!u1).set 3^!u2).set 1^!v)[0]?=!!vS:=by simp only[bo,RB,TU,aj];rfl
   let h1:((bo [1] 1^(b.set 2^!u1).set 3^!u2).set 1^!v)[1]?=!!v:=by simp[bo]
   show c7 (ds:=pairD S) ?_ (de h0^rS.mono sG)^de h1 rv
   show jK Z4 ?_;change(pairD S)[n]?=!(FC^S.getD n (("":Str),.aw));unfold pairD;rw[QY,List.getD,QO as];rfl
  .rw[RM.mpr λ_ _=>A2]
   unfold dM pairD;rw[Rz,Rz];rfl
 .rintro b G ⟨L,i0,E',c⟩
  rw[QP,Rm^QU _]at c;rw[c]at q;show q G^I.trans L
def nc:cb ["self","way","lowest","setting","places","shared_things","found","place","pairs","further"] ["self","way","lowest"]^bH yL:=`b
def ON(F:bB K "carry_on" "Step.carry_on" yL f fd)(T:mU K C)(B:Bl mg)(t:jB P w K mg base 2 C "allows" ["self","setting"]^wZ C):bw P w K mg base bO 3 f fd ["self","way","lowest"]^xW C:=by
 show F.ok nc (λvs H Q E q0=>by let{_,_,_,_,_,_,e,_}:=q0;rw[e];rfl) λc1 A bk s H vs Q E hr h=>?_;let{M,st,w0,lo,v0,v1,rfl,lv,am,r1,hS,an,a0,ho,q}:=h;let{a,dx,w1,sa,w3,ao,oS,rfl,ga,g0,gs,g3,g2}:=id am;let bl:=fH hr;let u:=T.cl;show⟨_,(aC (bf 3 nc.nd^aY (pv 1) aD)
   (aC (bf 4 nc.nd^aY (pv 1) aD)
   (aC (bf 5 nc.nd^rQ B^gt ["setting","slot"] [3] 1 (KP^JF^eD (pv 0) A2) (λ_ _ _ _ _=>(bC 1 (show(["setting","slot"]:ZY).Nodup from by decide+kernel))) (λ_ _ _ _ _=>j8) λ_ _ _ _ _=>(mS (mS (pv 0)^pv 1) aD))
   (aC (bf 6 nc.nd^dA aq)
   (aC (cV Rf A2 (OF B.reversed^ai (t6 bl (eD (pv 0) A2) (pv 5) (dA aq) {A2,A2,A2,A2}) aq) (mZ A2^fC (bC 7 nc.nd)^fC (bC 8 nc.nd) lh) (aC (cc (cA ny (pv 7)^pv 2) (az HN) cw)
   (aC (bf 9 nc.nd^cU qB (pv 3)^pv 8)
   (az^cc (cS^lT (pv 0) u t hr^ai (pv 9) aq) (az^jU (pv 6)^eG^ai (pv 9)^ai (cU B1 (pv 4)^eG^ai (pv 7) aq) aq) cw))))
   (az^bz^pv 6)))))),?_⟩
 let E0:aA `a (L2.start ["self","way","lowest","setting","places","shared_things","found","place","pairs","further"] [.ref a,v1,.int lo]) [bF,!dC w0,!.int lo,bF,bF,bF,bF,bF,bF,bF]:=gO (.raw^.dat r1^.dat (.int lo) .nil) _;let{S,c}:=w0;let hS:kR S:=hS;let an:S.length<=500:=an;let a0:c.length<=500:=a0;let ho:lS S.length st:=ho;show gk (i:=3) lv E0 (bS (ds:=[.lst^pairD S,.tup^c.map λn=>D.int (n:Nat)]) (d:=.lst^pairD S) iq (aI E0 A2) ar) λc2 H1 o1 s1 l1 E1=>?_;show gk (i:=4) l1 E1 (bS (ds:=[.lst^pairD S,.tup^c.map λn=>D.int (n:Nat)]) (d:=.tup^c.map λn=>D.int (n:Nat)) A2 (aI E1 A2) ar) λab H2 o2 s2 l2 E2=>?_;let a1:ab[0]?=!!.ref a:=(o2 0 Z1).trans^(o1 0 Z1).trans A2
 let a2:ae `a^but H2 M:=(s1.trans s2).but M;let{vS,bm,rS}:=E2.get 3 _ A2;let bs:(hX st.shared).map (·.2)=(st.shared.map λp=>((p.2:Nat):Int)).map V.int:=by unfold hX;rw[Rz,Rz];rfl
 show gk (i:=5) (d:=.tup^gZ S^iH st) l2 E2 (qX^aa (ag.eq (iC (caps:=bo [3] 1) (i:=1) (p:=λ_=>bU) (f:=λd=>match d with|.int n=>(S.getD n.toNat (("":Str),.aw)).2|_=>.aw) (tt:=nu) (te:=bT (eP K) (bT (eP K) (aW 0)^aW 1)^tC (.int 1)) (MJ (nD T.cl T.nS a1 (a2 _ _ ga) A2) (a2 _ _ gs) bs) (λG' v d _ _ _=>kS) (λG' v d sG hd _ rv=>?_)^by rw[QP,QP];have:=ho.shl;show cH Z4) ?_) ah) λc3 H3 o3 s3 l3 E3=>?_
 .let{z,bt,rfl}:=Q6.mp hd;let{p,bx,rfl}:=Q6.mp bt;let ac:=ho.sh p.2^Q6.mpr {p,bx,A2};generalize p.2=n at ac rv;let h0:((bo [3] 1 ab).set 1^!v)[0]?=!!vS:=by simp only[bo,RB,TU,bm];rfl
  let h1:((bo [3] 1 ab).set 1^!v)[1]?=!!v:=by simp[bo]
  let hp:(pairD S)[n]?=!.tup [.str S[n].1,S[n].2]:=by unfold pairD;rw[QY,QO ac];rfl
  let hg:S.getD n (("":Str),.aw)=S[n]:=by rw[List.getD,QO ac];rfl
  show ag.eq (bS (ds:=[.str S[n].1,S[n].2]) (d:=S[n].2) A2 (c7 (ds:=pairD S) (d:=.tup [.str S[n].1,S[n].2]) (jK (i:=(n:Int)) Z4^by rw[Sa];show hp) (de h0^rS.mono sG)^de h1 rv) ar) ?_;change S[n].2=(S.getD (n:Int).toNat (("":Str),.aw)).2;rw[Sa,hg]
 .change D.lst _=D.lst^gZ S^iH st;rw[RM.mpr λ_ _=>A2];unfold gZ dM iH;rw[Rz,Rz,Rz,Rz];rfl
 let a3:=Jh hS ho.sh;show pS (i:=6) l3 E3 Z8 ah (Rk _) λb b0 b1 H5 o5 i5 n5 h5 r5 l5 k5 E5=>?_;let a4:ae H H5:=(s1.trans^s2.trans s3).trans λb o e=>(k5 b o e).2;let af:H b=bF:=none_of (s1.trans^s2.trans s3) k5;let SG:ae `a^but H5 (b::M):=jA af a4;let a5:b1[0]?=!!.ref a:=(o5 0 Z1).trans^(o3 0 Z1).trans a1
 generalize a6:gZ S^iH st=m at a3 E5 q;unfold fX at q;rw[show gZ ((S,c):aN).1 (iH st)=m from a6]at q;let b2:((fU st.of m).reverse).length<=st.of.length:=by rw[Vh];show Rv _ _
 let a7:∀o∈(fU st.of m).reverse,o∈st.of:=λo hm=>(Q4.mp^SS.mp hm).1;let a8:(ju st.of m).reverse=((fU st.of m).reverse).map λo=>nQ o.2:=by unfold ju;rw[VQ]
 generalize (fU st.of m).reverse=L at q b2 a7 a8;show i6 (M:=b::M) (ds:=L.map λo=>nQ o.2) (by
  have:=My (K:=K)^aa (KO T.cl T.nO a5 (SG _ _ ga) A2 (g2.mono SG) a3^aI E5 (i:=5) A2) ah;rw[a8]at this;show this) l5 λH6 s6=>?_
 show⟨λj k N=>∃ws,k[0]?=!!.ref a/\k[6]?=!!.ref b/\N b=!.lst ws/\aF (but N (b::M)) ws (((L.take j).map^gu (S,c)).filter (λx=>fK x.1 st.gs)|>.map dC)/\ae H N/\av (b::M) N/\ae (but H6 (b::M))^but N (b::M)/\aA (but N (b::M)) k [bF,!dC (S,c),!.int lo,!(.lst^pairD S),!(.tup^c.map λn=>D.int (n:Nat)),!.tup m,bF,bF,bF,bF]/\∀o∈L.take j,fresh lo o=bU,
  {b0,a5,i5,s6 _ _ h5,r5.mono^s6.but _,a4.trans s6,l5.same s6,ae.refl _,E5.same s6,λo hm=>by simp at hm},λj k N q3=>by let{_,_,_,_,_,_,x,y,_,_}:=q3;show{y,x},?_,?_⟩
 .rintro j d x k N a9 hd ⟨ws,j0,j5,hb,rb,S0,l',S',E',G⟩ r rx
  obtain ⟨o,I,rfl⟩:∃o,L[j]?=!o/\d=nQ o.2:=by
   rw[QY]at hd;cases e:L[j]? with
   |none=>rw[e]at hd;cases hd
   |some y=>rw[e]at hd;show{y,A2,(Q5 hd).symm}
  let b3:=QT I;let aj:=ho.of o^a7 o b3
  let c4:=(QN.mp I).1;let cv:=ho.wn;show pc rx λu1 u2 q1 q2=>?_;let E7:aA (but a9 (b::M)) ((k.set 7^!u1).set 8^!u2) [bF,!dC (S,c),!.int lo,!(.lst^pairD S),!(.tup^c.map λn=>D.int (n:Nat)),!.tup m,bF,!.int (o.2.1:Nat),!(.lst^pairD o.2.2),bF]:=((E'.same r).set 7 q1).set 8 q2;let l7:=l'.same r;let c0:((k.set 7^!u1).set 8^!u2)[0]?=!!.ref a:=by rw[QS Z1,QS Z1];show j0
  let c5:((k.set 7^!u1).set 8^!u2)[6]?=!!.ref b:=by rw[QS Z1,QS Z1];show j5
  let b4:pairD S++pairD o.2.2=pairD (S++o.2.2):=by unfold pairD;rw[Rl]
  let bc:∀ps:aT,(pairD ps).length=ps.length:=λps=>by unfold pairD;rw[QP]
  show jG l7 E7 (cz^ni (aI E7 A2)^aI E7 A2) (λe bd J be O=>?_) λe bd J be O=>?_
  .let b5:fresh lo o=fF:=by
    let h1:=Q8 e;unfold FL.fresh;show Ri Z4
   show{.ref b,c5,q (.ref b) bd (S0.trans^r.trans J)^oo n5 (J _ _^r _ _ hb) ?_};rw[Gd G I b5];show rb.mono^(r.trans J).but _
  show nx ?_;let bg:fresh lo o=bU:=by
   let h1:=RK e;unfold FL.fresh;show Q9 Z4
  let Y:∀x∈L.take (j+1),fresh lo x=bU:=λx hx=>by
   rw[Rs,I]at hx;rcases Rc.mp hx with z|z
   .show G x z
   .have:x=o:=by simpa using z
    rw[this];show bg
  show gk (i:=9) be O ((qo (by rw[bc,bc];have:=aj.2.1;omega) (aI O A2)^aI O A2).eq^by rw[b4]) λdc H8 o8 s8 l8 E8=>?_;let l:ae a9 H8:=J.trans s8;let d0:=(o8 0 Z1).trans c0;let d5:=(o8 6 Z1).trans c5;let b6:kR (S++o.2.2):=λp hp=>by
   rcases Rc.mp hp with z|z
   .show hS p z
   .show aj.1 p z
  let b7:ae `a^but H8 (b::M):=jA af^S0.trans^r.trans l
  let tk:(L.take<|j+1).map^gu (S,c)=(L.take j).map^gu (S,c)++[(S++o.2.2,c++[o.2.1])]:=by
   rw[Rs,I,Rl];rfl
  show jG l8 E8 (M3 d0 (am.mono b7) b6 (λg hg=>by rw[Q7];show aj.2.2 g hg)^aI E8 A2) (λe H9 U l9 E9=>?_) λe H9 U l9 E9=>nx ?_
  .let b8:∀(L:List aN),((L.filter λx=>fK x.1 st.gs).map dC).length<=L.length:=λL=>by rw[QP];show Rv _ _
   let bh:=b8^(L.take j).map^gu (S,c)
   rw[QP (as:=List.take j L),Rr]at bh;show vc l9 E9 (a:=b) Z8 d5 (U _ _^l _ _^r _ _ hb) (rb.mono^(r.trans^l.trans U).but _) (cH^Rh bh Z4) (aV^aa (aI E9 A2)^aa (Dp (by simp;omega) (aI E9 A2)^aV^aa (aI E9 A2) ah) ah) λdd ca bi cd ch co cs=>?_;let ct:ae (but H9 (b::M))^but ca (b::M):=oQ Z8 bi;show{_,d0,d5,ch,?_,oU (S0.trans^r.trans^l.trans U) af bi,cd,S'.trans^((r.trans^l.trans U).but _).trans ct,((cs.drop 7).drop 8).drop 9,Y};rw[tk,R7,Rl];let e1:List.map dC^List.filter (λx=>fK x.1 st.gs) [((S++o.2.2,c++[o.2.1]):aN)]=[dC (S++o.2.2,c++[o.2.1])]:=by simp[e]
   rw[e1];let e2:dC (S++o.2.2,c++[o.2.1])=.tup [.lst<|pairD<|S++o.2.2,.tup<|(c.map λn=>D.int (n:Nat))++[.int (o.2.1:Nat)]]:=by unfold dC;rw[Rl];rfl
   rw[e2];show co
  .show{ws,d0,d5,U _ _^l _ _^r _ _ hb,?_,S0.trans^r.trans^l.trans U,l9,S'.trans^(r.trans^l.trans U).but _,((E9.drop 7).drop 8).drop 9,Y}
   rw[tk,R7,Rl];let e1:List.map dC^List.filter (λx=>fK x.1 st.gs) [((S++o.2.2,c++[o.2.1]):aN)]=[]:=by simp[e]
   rw[e1,Ro];show rb.mono^(r.trans^l.trans U).but _
 .rintro k N ⟨ws,j0,j5,hb,rb,S0,l',S',E',G⟩
  rw[QP,Rm^QU _]at rb G;show{.ref b,j5,q (.ref b) N S0^oo n5 hb ?_};rw[sN G];show rb
end
end cf
namespace cf
open PySem L2 FL
section
variable {P:qj}{w:pa}{K:kc}{mg:Str->Option wj}{base:rl}{f:vb}{fd:mu}
def me:cb ["body","waiting","slots","steps","asker","shared","blank","guards"] ["body"]^bH zF:=`b
def Jl(F:bB K "steps_for" "steps_for" zF f fd)(B:Bl mg)(L:bP P w K mg base 2 "guards_in" ["body"]^bI qU)(N:bP P w K mg base 2 "askers_in" ["body"]^bI xw)(c:bP P w K mg base 2 "blanks_in" ["atom"]^bI pF)(U:bP P w K mg base 3 "slots_of" ["atom","slots"]^kh xQ)(G:bP P w K mg base 4 "is_ready" ["guard","slots"]^kh EN)(a4:px P w K mg base 1 C "Step" ["self","asker","shared","guards"]^DJ C):bw P w K mg base bO 6 f fd ["body"]^Dy C:=by
 show F.ok me (λvs H Q E q0=>by let{_,_,_,e,_}:=q0;rw[e];rfl) λe2 A dd s H vs Q E hr h=>?_;let{M,O,v0,rfl,lv,r1,hB,q}:=h;let hu:=d8 hr;let a8:=fH hr;show⟨_,(aC (qc (i:=1) ["guard"] [] 1 me.nd A2 (Or.inl A2) (cG^bL L hr^ai (pv 0) aq) (λ_ _ _ _ _=>(bC 0^lI _)) (λ_ _ _ _ _=>(jo^D4 (kA c hr^ai (pv 0) aq) λ_=>A2)) λ_ _ _ _ _=>(pv 0))
   (aC (bf 2 me.nd oM)
   (aC (bf 3 me.nd^dA aq)
   (aC (cV Rf A2 (cG^bL N hr^ai (pv 0) aq) (bC 4 me.nd) (aC (bf 5 me.nd^IJ^zT B^gt ["slots","blank"] [2] 1 (cG^bL c hr^ai (pv 4) aq) (λ_ _ _ _ _=>(bC 1 (show(["slots","blank"]:ZY).Nodup from by decide+kernel))) (λ_ _ _ _ _=>(jo^lC^sR (by show a8) (pv 1)^pv 0)) λ_ _ _ _ _=>(eG^ai (pv 1)^ai (y4 (by show a8) (pv 0) (pv 1) λ_ _=>A2) aq))
   (aC (cV Rf A2 (cG^bL c hr^ai (pv 4) aq) (bC 6 me.nd)^az^jy^AA a8 (pv 2) (pv 6) (BP B^pv 2) {A2,A2,A2,A2})
   (aC (qc (i:=7) ["slots","guard"] [2] 1 me.nd A2 (Or.inl A2) (cG^pv 1) (λ_ _ _ _ _=>(bC 1 (show(["slots","guard"]:ZY).Nodup from by decide+kernel))) (λ_ _ _ _ _=>(jo^cS^kA G hr^ai (pv 1)^ai (pv 0) aq)) λ_ _ _ _ _=>(eG^ai (pv 1)^ai (kA U hr^ai (pv 1)^ai (pv 0) aq) aq))
   (aC (qc (i:=1) ["slots","guard"] [2] 1 me.nd A2 (Or.inl A2) (cG^pv 1) (λ_ _ _ _ _=>(bC 1 (show(["slots","guard"]:ZY).Nodup from by decide+kernel))) (λ_ _ _ _ _=>(jo^d7^cS^kA G hr^ai (pv 1)^ai (pv 0) aq)) λ_ _ _ _ _=>(pv 1))
   (az^jU (pv 3)^Ax a4 hr^ai (pv 4)^ai (pv 5)^ai (pv 7) aq))))))
   (az^bz^pv 3))))),?_⟩
 let E0:aA `a (L2.start ["body","waiting","slots","steps","asker","shared","blank","guards"] [v0]) [!cB O,bF,bF,bF,bF,bF,bF,bF]:=gO (.dat r1 .nil) _;let di:(O.filter aO).length<=100:=Rh (Rv _ _) hB.2;show gk (i:=1) (d:=cR^(O.filter aO).filter dH) lv E0 (ag.eq (iC (caps:=bo [] 1) (i:=0) (p:=uQ dH) (f:=λd=>d) (ef (ds:=(O.filter aO).map D.tup)^bR {O,A2,hB.1,hB.2,A2}^aa (aI E0 A2) ah) (λG' v d sG J r=>?_) (λG' v d sG J _ r=>de (by simp[bo]) r)^by rw[QP];show cH Z4) ?_) λe3 H1 o1 s1 l1 E1=>?_
 .let{g,hg,rfl}:=Q6.mp J;show AI^bR (d:=gU^al [] g) {g,A2,hB.1 g (Q4.mp hg).1,A2}^aa (de (by simp[bo]) r) ah
 .show RF D.lst^vH _ dH _ D.tup _ (λ_ _=>A2) λ_ _=>A2
 show Ak (i:=2) l1 E1 Z8 λp e4 H2 o2 i2 n2 h2 l2 k2 E2=>?_;show pS (i:=3) l2 E2 Z8 ah (Rk _) λb dn dp H3 o3 i3 n3 h3 r3 l3 k3 E3=>?_;let dt:dp[2]?=!!.ref p:=(o3 2 Z1).trans i2;let{ao,d0}:=k3 _ _ h2;let bs:dn=[]:=by cases r3;rfl
 subst bs;let bt:ae H1 H2:=λx o e=>(k2 x o e).2;let d1:ae H2 H3:=λx o e=>(k3 x o e).2;let d2:ae H H3:=s1.trans^bt.trans d1
 let d5:H p=bF:=none_of s1 k2;let bx:H b=bF:=none_of (s1.trans bt) k3;let ea:b∉M:=λz=>n3^QM _ z
 let ec:(O.filter λa=> not^aO a).length<=100:=Rh (Rv _ _) hB.2;let b0:∀a∈(O.filter λa=> not^aO a),d9 a:=λa ha=>hB.1 a (Q4.mp ha).1;show i6 (M:=b::p::M) (ds:=(O.filter λa=> not^aO a).map D.tup) (ef^bR {O,A2,hB.1,hB.2,A2}^aa (aI E3 A2) ah) l3 λH4 s4=>?_;unfold fG at q;generalize ez:(O.filter λa=> not^aO a)=ab at q ec b0;let b1:∀g∈(O.filter aO).filter dH,d9 g:=λg hg=>hB.1 g (Q4.mp (Q4.mp hg).1).1;let b2:((O.filter aO).filter dH).length<=100:=Rh (Rv _ _) di;generalize (O.filter aO).filter dH=W0 at q b1 b2 E3;show⟨λj t T=>∃m Wj done us aj,dq ab [] W0=done++dq (ab.drop j) m Wj/\m.length<=100*j/\done.length<=j/\(∀g∈Wj,d9 g)/\Wj.length<=100/\t[2]?=!!.ref p/\t[3]?=!!.ref b/\T p=!(.dK^eQ m)/\T b=!.lst us/\iE C (but T (b::p::M)) us aj done/\(∀os∈aj,∀x∈os,H x=bF)/\ae H T/\av (b::p::M) T/\ae (but H4 (b::p::M))^but T (b::p::M)/\aA (but T (b::p::M)) t [!cB O,!cR Wj,bF,bF,bF,bF,bF,bF],
  {[],W0,[],[],[],A2,QU _,QU _,b1,b2,dt,i3,s4 _ _ d0,s4 _ _ h3,.nil,(λos ho=>nomatch ho),d2.trans s4,l3.same s4,ae.refl _,E3.same s4},λj t T q1=>by let{_,_,_,_,_,_,_,_,_,_,_,_,_,_,_,_,_,x,y,_}:=q1;show{y,x},?_,?_⟩
 .rintro j d x t T a9 J ⟨m,Wj,done,us,aj,I,ed,ee,a0,a6,j3,j4,hp,hb,a1,a2,S0,l',S',E'⟩ s5 rx
  obtain ⟨a,b5,rfl⟩:∃a,ab[j]?=!a/\d=.tup a:=by
   rw[QY]at J;cases e:ab[j]? with
   |none=>rw[e]at J;cases J
   |some y=>rw[e]at J;show{y,A2,(Q5 J).symm}
  let bc:=b0 a^QT b5
  let{eg,ei}:=QN.mp b5;rw[Tl eg,ei]at I;let E5:aA (but a9 (b::p::M)) (t.set 4^!x) [!cB O,!cR Wj,bF,bF,!.tup a,bF,bF,bF]:=(E'.same s5).set 4 rx;let b3:(t.set 4^!x)[2]?=!!.ref p:=(QS Z1).trans j3;let b4:(t.set 4^!x)[3]?=!!.ref b:=(QS Z1).trans j4;let b6:=s5 _ _ hp;let l5:=l'.same s5;let lV:∀{X:Hp},av (b::p::M) X->av (b::M) X:=λl z hz=>l z (by
   rcases QZ.mp hz with w|w
   .rw[w];show QQ
   .show QM _^QM _ w)
  let pV:p∉b::M:=λz=>by
   rcases QZ.mp z with z|z
   .show ao z
   .show n2 z
  let b7:(al [] a).Nodup:=B5 Tq;let ej:=mv a [];rw[SI]at ej;let e0:=bc.len;let b8:but a9 (b::M) p=!(.dK^eQ m):=by rw[bv pV];show b6
  show P5 (i:=5) (M:=b::M) (ps:=((al [] a).filter λb=>fT<|b∈m).map λb=>(b,D.int (m.idxOf b:Nat))) (lV l5) (E5.mono Ag) Z8 (ag.eq (iC (caps:=bo [2] 1) (i:=1) (p:=λd=>fT<|d.name∈m) (f:=λd=>.tup [d,.int (m.idxOf d.name:Nat)]) (ef (ds:=(al [] a).map D.str)^bR {a,A2,bc,A2}^aa (aI (E5.mono Ag) A2) ah) (λG' v d sG J r=>?_) (λG' v d sG J ek r=>?_)^by rw[QP];show cH Z4) ?_) (λz hz=>?_) ?_ λsa oS bd H7 o7 i7 n7 m7 h7 s7 e5 E7=>?_
  .let{n,hn,rfl}:=Q6.mp J;show F9 (n:=n) (a:=p) (by simp[bo,b3]) (sG _ _ b8)^de (by simp[bo]) r
  .let{n,hn,rfl}:=Q6.mp J;show aV^aa (de (by simp[bo]) r)^aa (CD (n:=n) (a:=p) (by simp[bo,b3]) (sG _ _ b8) (Q8 ek)^de (by simp[bo]) r) ah
  .unfold pairD;rw[SD,Rz,Rz];rfl
  .let{n,hn,rfl}:=Q6.mp hz;rfl
  .rw[Rz]
   change(List.map (λb=>b) _).Nodup;rw[T5];show Wg _ b7
  let em:bX (((al [] a).filter λb=>fT<|b∈m).map λb=>(b,D.int (m.idxOf b:Nat)))=hX^lu a m:=by
   unfold bX hX lu;rw[Rz,Rz];rfl
  rw[em]at h7;let d3:bd[2]?=!!.ref p:=(o7 2 Z1).trans b3;let d4:bd[3]?=!!.ref b:=(o7 3 Z1).trans b4;let be:=s7 _ _ b6;let l7:av (b::p::M) H7:=l5.same s7;let ca:aA (but H7 (b::p::M)) bd [!cB O,!cR Wj,bF,bF,!.tup a,bF,bF,bF]:=Ct E7 be;let a7:sa≠p:=λz=>by rw[z,be]at h7;cases h7
  let cd:sa≠b:=λz=>m7 (by rw[z];show QQ);let ch:sa∉M:=λz=>m7^QM _ z
  show i6 (M:=b::p::M) (ds:=(al [] a).map D.str) (ef^bR {a,A2,bc,A2}^aa (aI ca A2) ah) l7 λH8 s8=>?_;show⟨λk t T=>t[2]?=!!.ref p/\t[3]?=!!.ref b/\t[5]?=!!.ref sa/\T p=!(.dK<|eQ<|m++((al [] a).take k).filter λx=> not^fT (x∈m))/\(∀z o,z≠p->H8 z=!o->T z=!o)/\av (b::p::M) T/\ae (but H8 (b::p::M))^but T (b::p::M)/\aA (but T (b::p::M)) t [!cB O,!cR Wj,bF,bF,!.tup a,bF,bF,bF],
   {d3,d4,i7,by rw[Wi,V3,Ro];show s8 _ _ be,λz o _ e=>e,l7.same s8,ae.refl _,ca.same s8},λk t T q2=>by let{_,_,_,_,_,x,y,_}:=q2;show{y,x},?_,?_⟩
  .rintro k d y τ X X' J ⟨t3,t4,t7,tp,tk,tl,tS,tE⟩ s9 ry
   obtain ⟨n,en,rfl⟩:∃n,(al [] a)[k]?=!n/\d=.str n:=by
    rw[QY]at J;cases e:(al [] a)[k]? with
    |none=>rw[e]at J;cases J
    |some y=>rw[e]at J;show{y,A2,(Q5 J).symm}
   let E9:aA (but X' (b::p::M)) (τ.set 6^!y) [!cB O,!cR Wj,bF,bF,!.tup a,bF,!.str n,bF]:=(tE.same s9).set 6 ry;let w3:(τ.set 6^!y)[2]?=!!.ref p:=(QS Z1).trans t3;show Mf (n:=n) (tl.same s9) E9 Z8 w3 (s9 _ _ tp) ?_ (aI E9 A2) λY kY lY hY EY=>?_
   .let h1:(m++((al [] a).take k).filter λx=> not^fT (x∈m)).length<=100*j+100:=by
     rw[Q7];have:=Rv (λx=> not^fT (x∈m))^(al [] a).take k
     rw[Rr]at this;omega
    show TY (Rh h1^show 100*j+100<=20000 by omega) (show 20000<se by decide)
   .let SY:ae (but X' (b::p::M))^but Y (b::p::M):=oQ Z8 kY;show{w3,(QS Z1).trans t4,(QS Z1).trans t7,?_,λz o hz e=>kY z o hz^s9 _ _^tk z o hz e,lY,tS.trans^(s9.but _).trans SY,EY.drop 6};rw[<-G5 b7 en];show hY
  .rintro τ X ⟨t3,t4,t7,tp,tk,tl,tS,tE⟩
   rw[QP,Rm^QU _,<-nM]at tp;let bg:but X (b::M) p=!(.dK^eQ^al m a):=by rw[bv pV];show tp
   let cl:(al m a).length<=100*(j+1):=by have:=mv a m;omega
   let EV:=tE.mono^Ag (p:=p)
   show gk (i:=7) (M:=b::M) (d:=.lst^((Wj.filter λg=>cK g^al m a).map λg=>(g,dB g^al m a)).map mR) (lV tl) EV (ag.eq (iC (caps:=bo [2] 1) (i:=1) (p:=uQ λg=>cK g^al m a) (f:=AQ λg=>mR (g,dB g^al m a)) (ef (ds:=Wj.map D.tup)^aI EV A2) (λG' v d sG J r=>?_) (λG' v d sG J _ r=>?_)^by rw[QP];show cH Z4) ?_) λe6 H9 o9 s9 l9 E9=>?_
   .let{g,hg,rfl}:=Q6.mp J;show cM^rj (d:=.bl^cK g^al m a) {g,_,A2,a0 g hg,A2}^sQ (de (by simp[bo]) r)^sI (a:=p) (by simp[bo,t3]) (sG _ _ bg) qT
   .let{g,hg,rfl}:=Q6.mp J;show aV^aa (de (by simp[bo]) r)^aa (rj {g,_,A2,a0 g hg,A2}^sQ (de (by simp[bo]) r)^sI (a:=p) (by simp[bo,t3]) (sG _ _ bg) qT) ah
   .rw[vH _ (λg=>cK g^al m a) _ (λg=>mR (g,dB g^al m a)) _ (λ_ _=>A2) λ_ _=>A2,Rz]
    rfl
   let co:=(s9.but (b::M)) _ _ bg;let w3:=(o9 2 Z1).trans t3;show gk (i:=1) (M:=b::M) (d:=cR^Wj.filter λg=> not^cK g^al m a) l9 E9 (ag.eq (iC (caps:=bo [2] 1) (i:=1) (p:=uQ λg=> not^cK g^al m a) (f:=λd=>d) (ef (ds:=Wj.map D.tup)^aI E9 A2) (λG' v d sG J r=>?_) (λG' v d sG J _ r=>de (by simp[bo]) r)^by rw[QP];show cH Z4) ?_) λcs Ha oa ep la Ea=>?_
   .let{g,hg,rfl}:=Q6.mp J;show dY^cM^rj (d:=.bl^cK g^al m a) {g,_,A2,a0 g hg,A2}^sQ (de (by simp[bo]) r)^sI (a:=p) (by simp[bo,w3]) (sG _ _ co) qT
   .show RF D.lst^vH _ (λg=> not^cK g^al m a) _ D.tup _ (λ_ _=>A2) λ_ _=>A2
   let z3:=(oa 2 Z1).trans w3;let z4:cs[3]?=!!.ref b:=(oa 3 Z1).trans^(o9 3 Z1).trans t4
   let z5:cs[5]?=!!.ref sa:=(oa 5 Z1).trans^(o9 5 Z1).trans t7
   let am:=s9.trans ep;let ct:=am _ _ tp;let bh:=Ct Ea ct;let er:ae (but H8 (b::p::M))^but Ha (b::p::M):=tS.trans^am.but _
   let bi:ae (but a9 (b::p::M))^but Ha (b::p::M):=(((s7.trans s8).but _)).trans er;let cv:Ha b=!.lst us:=am _ _^tk b _ (RG ao)^s8 _ _^s7 _ _^s5 _ _ hb
   let c0:Ha sa=!.dj oS^.dK^hX^lu a m:=am _ _^tk sa _ a7^s8 _ _ h7
   let{u4,es,q4}:=bh.get 4 _ A2;let{u7,et,q7}:=bh.get 7 _ A2;let bk:av (b::p::M) Ha:=tl.same am;let c1:∀z o,H z=!o->Ha z=!o:=λz o e=>by
    let eu:z≠p:=dy e d5;show am _ _^tk z o eu^s8 _ _^s7 _ _^s5 _ _^S0 _ _ e
   let ac:∀{z:vb},Ha z=bF->H z=bF:=λ{z} e=>by
    cases qz:H z with
    |none=>rfl
    |some u=>rw[c1 _ _ qz]at e;cases e
   show{.ref b,z4,(show iZ K "list" (.ref b) _ from .inl {A2,us,aU.of cv}),u4,es,.ref sa,z5,u7,et,λx dx hx c2 e7=>{x,dx,u4,.ref sa,u7,A2,aM,λpo a3 bm=>{A2,?_}}};let af:Ha po=bF:=by
    rw[aE bm]at a3;by_cases e:po=dx
    .rw[e];show c2
    .rw[aE e]at a3;show a3
   let e1:po≠dx:=λe=>by rw[aE bm,e,aM]at a3;cases a3
   let SX:ae Ha^upd (upd (upd (upd Ha dx^.own x) x^.ins C dx []) po^.dT []) x^.ins C dx^ln u4 sa u7 po (-1):=λz o e=>by
    rw[aE^dy e hx,aE^dy e af,aE^dy e hx,aE^dy e c2];show e
   show{b,us,.ref x,A2,A2,SX _ _ cv,by rw[a1.l1];show cH Z4,?_};generalize c3:upd (upd (upd (upd Ha dx^.own x) x^.ins C dx []) po^.dT []) x^.ins C dx^ln u4 sa u7 po (-1)=HX at SX;let ev:HX x=!(.ins C dx^ln u4 sa u7 po (-1)):=by rw[<-c3];show aM
   let c4:HX po=!.dT []:=by rw[<-c3,aE bm];show aM
   let eb:but (upd HX b (.lst<|us++[.ref x])) (b::p::M)=but HX (b::p::M):=eo QQ;let an:ae (but Ha (b::p::M))^but (upd HX b (.lst<|us++[.ref x])) (b::p::M):=by rw[eb];show SX.but _
   let ew:x∉b::p::M:=bk.fresh hx;let c5:po∉b::p::M:=bk.fresh af;let ex:sa∉b::p::M:=by
    simp only[QZ,Ws];show{cd,a7,ch}
   show{al m a,Wj.filter λg=> not^cK g^al m a,done++[pY a m Wj],us++[.ref x],aj++[[x,po]],?_,cl,by rw[Q7,R6];omega,λg hg=>a0 g (Q4.mp hg).1,Rh (Rv _ _) a6,z3,z4,?_,aM,?_,?_,?_,(bk.same SX).upd,S'.trans^(s5.but _).trans^bi.trans an,?_}
   .rw[I]
    change done++(_::_)=_;rw[RI];rfl
   .rw[aE ao];show SX _ _ ct
   .let dc:=(a1.mono^(s5.but _).trans^bi.trans an)
    show dc.snoc {x,dx,u4,sa,u7,po,oS,A2,A2,?_,q4.mono an,?_,q7.mono an,?_,A2} λo ho z hz ey=>?_
    .rw[eb,bv ew];show ev
    .show an _ _ ?_
     rw[bv ex];show c0
    .rw[eb,bv c5];show c4
    .let{i,hi}:=RD.mp ho;let{u,hu,_}:=a1.seen hi z hz;let{_,a5}:=ay^(s5.but _|>.trans bi) _ _ hu;rcases QZ.mp ey with e|e
     .rw[e,hx]at a5;cases a5
     .let e:z=po:=by simpa using e
      rw[e,af]at a5;cases a5
   .intro os ho z hz;rcases Rc.mp ho with e|e
    .show a2 os e z hz
    .let e:os=[x,po]:=by simpa using e
     rw[e]at hz;rcases QZ.mp hz with e|e
     .rw[e];show ac hx
     .let e:z=po:=by simpa using e
      rw[e];show ac af
   .show oU (a:=b) (λz o e=>?_) bx (λz o hz e=>by rw[aE hz];show e)
    show SX _ _^c1 z o e
   .show(((bh.mono an).drop 4).drop 7)
 .rintro t T ⟨m,Wj,done,us,aj,I,ed,ee,a0,a6,j3,j4,hp,hb,a1,a2,S0,l',S',E'⟩
  rw[QP,UU^QU _]at I;let I:dq ab [] W0=done++[]:=I;rw[Ro]at I;rw[I]at q;show{.ref b,j4,q b us aj T S0 (by rw[bv ea];show hb) (a1.mono^fe λz hz=>QM _^QM _ hz) a2 bx}
end
end cf
namespace cf
open PySem L2 FL
section
variable {P:qj}{w:pa}{K:kc}{mg:Str->Option wj}{base:rl}{f:vb}{fd:mu}
def GU:cb ["self","body"] ["self","body"]^bH xf:=`b
def K4(F:bB K "__init__" "Loom.__init__" xf f fd)(I:nl K CL)(B:Bl mg)(c:bP P w K mg base 2 "guards_in" ["body"]^bI qU)(j:bP P w K mg base 2 "blanks_in" ["atom"]^bI pF)(t:bP P w K mg base 1 "holds" ["guard"]^bI vh)(k:bP P w K mg base 6 "steps_for" ["body"]^Dy C):bw P w K mg base bO 7 f fd ["self","body"]^yu C CL:=by
 show F.ok GU (λvs H Q E q0=>by let{_,_,_,_,_,e,_}:=q0;rw[e];rfl) λa6 A a1 s H vs Q E hr h=>?_;let{M,m,x,n,T,rfl,hx,lv,r1,U,hG,q}:=h;show⟨_,(aC (gr (pv 0) (bL k hr^ai (pv 1) aq) A2)
   (aC (gr (pv 0) (wT^zQ B^gt ["guard"] [] 1 (cG^bL c hr^ai (pv 1) aq) (λ_ _ _ _ _=>(bC 0^lI _)) (λ_ _ _ _ _=>(jo^d7^D4 (kA j hr^ai (pv 0) aq) λ_=>A2)) λ_ _ _ _ _=>(kA t hr^ai (pv 0) aq)) A2)
   (aC (gr (pv 0) aD A2)
   (aC (gr (pv 0) aD A2)
   (az^gr (pv 0) (kG lg aD) A2))))),?_⟩
 let lx:av (x::M) H:=lv.cons hx;let Y:ap (but H (x::M)) T^cB m:=ap.fO hx A2 r1;let E0:aA (but H (x::M)) (L2.start ["self","body"] [.ref x,T]) [bF,!cB m]:=gO (.raw^.dat Y .nil) _;let a7:(m.filter aO).length<=100:=Rh (Rv _ _) U.2;let ab:∀g∈m.filter aO,d9 g/\∃r a b,g=[.str r,a,b]:=λg L=>{U.1 g (Q4.mp L).1,hG g (Q4.mp L).1 (Q4.mp L).2}
 show{T,A2,x::M,m,T,A2,lx,Y,U,λp us ac H1 s1 hp af a2 a8=>?_};let a3:=s1 _ _ hx;show{.ref x,A2,x,CL,n,[],A2,a3,I.cl,I.nS,by decide,?_};generalize J:upd H1 x^.ins CL n^dw "steps" (.ref p) []=H2;let a4:H2 x=!.ins CL n [("steps",.ref p)]:=by rw[<-J];show aM
 let aj:but H2 (x::M)=but H1 (x::M):=by rw[<-J];show eo QQ
 let l2:av (x::M) H2:=by rw[<-J];show(lx.same s1).upd
 let E2:aA (but H2 (x::M)) (L2.start ["self","body"] [.ref x,T]) [bF,!cB m]:=by rw[aj];show E0.same s1
 let K2:∀b u,b≠x->H b=!u->H2 b=!u:=λb u hb e=>by rw[<-J,aE hb];show s1 _ _ e
 show CB^EQ (Ae^wm (bs:=((m.filter aO).filter λg=> not^dH g).map holdsA)^aa (ag.eq (iC (caps:=bo [] 1) (i:=0) (p:=uQ λg=> not^dH g) (f:=AQ λg=>.bl^holdsA g) (ef (ds:=(m.filter aO).map D.tup)^bR (R:=qU) (E:=L2.E0) {m,A2,U.1,U.2,A2}^aa (aI E2 (i:=1) A2) ah) (λG' v d sG hd r=>?_) (λG' v d sG hd _ r=>?_)^by rw[QP];show cH Z4) ?_) ah) l2 λv3 H3 s3 r3=>?_
 .let{g,L,rfl}:=Q6.mp hd;show dY^AI^bR (d:=gU^al [] g) {g,A2,(ab g L).1,A2}^aa (de (by simp[bo]) r) ah
 .let{g,L,rfl}:=Q6.mp hd;let{am,r0,a0,b0,rfl}:=ab g L;show bR {r0,a0,b0,A2,(am.sc a0 Z8).1,(am.sc b0 Z8).1,A2}^aa (de (by simp[bo]) r) ah
 .rw[vH _ (λg=> not^dH g) _ (λg=>.bl^holdsA g) _ (λ_ _=>A2) λ_ _=>A2,Rz]
  rfl
 let e3:v3=.bl^mL m:=by
  have:=r3.ik;rw[this,US];rfl
 subst e3;show{.ref x,A2,x,CL,n,_,A2,s3 _ _ a4,I.cl,I.nB,(show 1<1000 by decide),?_};show{.ref x,A2,x,CL,n,_,A2,aM,I.cl,I.nT,(show 2<1000 by decide),?_};show{.ref x,A2,x,CL,n,_,A2,aM,I.cl,I.nF,(show 3<1000 by decide),?_};show{1,A2,.ref x,A2,x,CL,n,_,A2,aM,I.cl,I.nL,(show 4<1000 by decide),?_};rw[nk,nk,nk];let a5:but (upd H3 x^.ins CL n^kj p (mL m) 0 0 (-1)) (x::M)=but H3 (x::M):=eo QQ;let an:ae (but H1 (x::M))^but (upd H3 x^.ins CL n^kj p (mL m) 0 0 (-1)) (x::M):=by
  rw[a5,<-aj];show s3.but _
 let l:=af.mono an;let ao:=l.own;let G:∀os∈ac,∀y∈os,∃o,upd H3 x (.ins CL n^kj p (mL m) 0 0 (-1)) y=!o/\y∉x::M:=λos N y hy=>by
  let{i,hi}:=RD.mp N;let{o,h1,_}:=l.seen hi y hy;let{q1,q2}:=ay h1;show{o,q2,q1}
 show q ac (upd H3 x^.ins CL n^kj p (mL m) 0 0 (-1)) (λb u hb e=>by rw[aE hb];show s3 _ _^K2 b u hb e) a2 (λy hy=>?_) {n,p,us,aM,?_,ao,Q1 _ QQ,λos N z=>(G os N x z).choose_spec.2 QQ}
 .rcases Rc.mp hy with z|z
  .let{os,N,O}:=RE.mp z;let{o,h1,_}:=G os N y O;rw[h1];show λz=>nomatch z
  .show(l2.same s3).upd y z
 .let{q1,q2}:=ay^an _ _ hp;rw[bv]
  .show q2
  .intro z;rcases Rc.mp z with z|z
   .let{os,N,O}:=RE.mp z;let{i,hi}:=RD.mp N;let{o,h1,h2}:=l.seen hi p O;rw[(ay h1).2]at q2;cases q2;cases h2
   .show q1 z
def tq:cb ["self","facts","step","place","fact"] ["self","facts"]^bH zy:=`b
def NA(F:bB K "take_in" "Loom.take_in" zy f fd)(T:mU K C)(TL:nl K CL)(B:Bl mg)(bi:mg "max"=bF)(a2:jB P w K mg base 3 C "offer" ["self","place","fact"]^Bu C):bw P w K mg base bO 4 f fd ["self","facts"]^DQ C CL:=by
 show F.ok tq (λvs H Q E q0=>by let{_,_,_,_,_,_,e,_}:=q0;rw[e];rfl) λer A dn s H vs Q E hr h=>?_;let{Z,ac,k,c,a,v1,rfl,lv,hL,r1,hF,hS,es,hz,q}:=h;let a3:=T.cl;show⟨_,(aC (gr (pv 0) (eD (pv 0) A2) A2)
   (aC (gr (pv 0) (cU lD (eD (pv 0) A2)^cy B^pv 1) A2)
   (aC (cV Rf A2 (cG^eD (pv 0) A2) (bC 2 tq.nd)^az^cV Rf A2 (IX B.enumerate (pv 1)^eD (pv 0) A2) (mZ A2^fC (bC 3 tq.nd)^fC (bC 4 tq.nd) lh)^az^jy^lT (pv 2) a3 a2 hr^ai (pv 3)^ai (pv 4) aq)
   (az^gr (pv 0) (BF bi (gt ["self","n","step"] [0] 2 (Cu B.enumerate^ai (eD (pv 0) A2) aq) (λ_ _ _ _ _=>(Av (n:=2) A2^fC (bC 1 (show(["self","n","step"]:ZY).Nodup from by decide+kernel))^fC (bC 2 (show(["self","n","step"]:ZY).Nodup from by decide+kernel)) lh)) (λ_ _ _ _ _=>(jo^cA uW (sD (pv 2) A2)^sD (pv 0) A2)) λ_ _ _ _ _=>(pv 1))^kG lg aD) A2)))),?_⟩
 let{dx,sl,us,ha,b6,bk,aZ,bl}:=hL;let b7:∀os∈ac,∀x∈os,x∈Z:=λos L x J=>by
  let{i,hi}:=RD.mp L;let a0:=(QN.mp hi).1;let b8:=bk.l2;let bm:i<k.steps.length:=by omega
  let{_,o2,_,h2,_,h4}:=bk.get i k.steps[i]^QO bm;rw[hi]at h2;cases h2;show h4 x J
 show{.ref a,A2,a,CL,dx,_,.int k.taken,A2,ha,TL.cl,TL.nT,A2,.ref a,A2,a,CL,dx,_,A2,ha,TL.cl,TL.nF,(show 5<1000 by decide),?_};let{af,vf,e1,hf,rf}:=r1.el;subst e1;let dp:af≠a:=λz=>(ay hf).1 (by rw[z];show aZ);show{.ref a,A2,a,CL,dx,_,.int k.taken,A2,aM,TL.cl,TL.nF,A2,.ref af,A2,af,vf,A2,.inl^aU.of (by rw[aE dp];show(ay hf).2),_,_,A2,A2,.ref a,A2,a,CL,dx,_,A2,aM,TL.cl,TL.nT,(show 5<1000 by decide),?_};rw[nk];let ds:vf.length=c.length:=by rw[rf.length,QP]
 rw[ds];generalize a9:upd H a _=H2;let ca:H2 a=!(.ins CL dx^kj sl k.gm ((k.taken:Nat)+(c.length:Nat)) (k.taken:Nat) k.last):=by rw[<-a9];show aM
 let bs:but H2 Z=but H Z:=by rw[<-a9];show eo aZ
 let l2:av Z H2:=by rw[<-a9];show lv.upd
 let K2:∀b u,b≠a->H b=!u->H2 b=!u:=λb u hb e=>by rw[<-a9,aE hb];show e
 let an:fk C H2 Z us ac k.steps:=bk.frame (λx J=>J) (λb u q4 e=>by let{os,L,hb}:=q4;show K2 b u (λz=>bl os L^by rw[<-z];show hb) e) (by rw[bs];show ae.refl _);let N2:∀{x:vb},H2 x=bF->H x=bF:=λ{x} e=>by
  cases qx:H x with
  |none=>rfl
  |some u=>
   by_cases z:x=a
   .rw[z,ca]at e;cases e
   .rw[K2 x u z qx]at e;cases e
 let dt:ap (but H2 Z) (.ref af)^.lst^c.map D.tup:=by rw[bs];show r1
 let cd:but H2 Z sl=!.lst us:=by rw[bs];show b6
 obtain ⟨Zr,bc,d1⟩:∃Zr:ZX,(∀x,x∈a::Zr↔x∈Z)/\a∉Zr:={Z.filter λy=>fT<|y≠a,λx=>by
  by_cases e:x=a
  .simp[e,aZ]
  .simp[e],by simp}
 let G1:ae (but H2 Z)^but H2 Zr:=fe λx J=>(bc x).mp^QM _ J
 let lr:av Zr H2:=λx J=>l2 x^(bc x).mp^QM _ J
 let ga:but H2 Zr a=!(.ins CL dx^kj sl k.gm ((k.taken:Nat)+(c.length:Nat)) (k.taken:Nat) k.last):=by rw[bv d1];show ca
 let ch:but H2 Zr sl=!.lst us:=G1 _ _ cd;let d5:ap (but H2 Zr) (.ref af)^.lst^c.map D.tup:=dt.mono G1;let N:∀os∈ac,∀x∈os,x∈Zr:=λos L x J=>by
  have:=(bc x).mpr^b7 os L x J
  rcases QZ.mp this with z|z
  .show absurd (by rw[<-z];show J)^bl os L
  .show z
 let be:fk C H2 Zr us ac k.steps:={an.l1,an.l2,λj s qs=>by
  let{a',os,h1,h2,h3,h4}:=an.get j s qs;let L:=QT h2;show{a',os,h1,h2,h3.frame h4 (N os L) (λb u _ e=>e) G1,N os L},an.apart}
 let E2:aA (but H2 Zr) (L2.start ["self","facts","step","place","fact"] [.ref a,.ref af]) [bF,!(.lst^c.map D.tup),bF,bF,bF]:=gO (.raw^.dat d5 .nil) _;let bt:=be.l1;show uv (M:=Zr) (zm (nD TL.cl TL.nS A2 ga A2) ch) lr λH3 s3=>?_;let bx:=be.mono s3;let co:=(s3.but Zr) _ _ ga;let cs:=(s3.but Zr) _ _ ch;let E3:=E2.same s3;letI O:Nat->Nat->List bE:=λj i=>(k.steps.zipIdx).map λp=>if p.2<j then cE p.1 k.taken c else if p.2=j then cE p.1 k.taken^c.take i else p.1;let l:∀j i m s,k.steps[m]?=!s->(O j i)[m]?=!(if m<j then cE s k.taken c else if m=j then cE s k.taken^c.take i else s):=λj i m s e=>by
  change((k.steps.zipIdx).map _)[m]?=_;rw[QY,We,e];simp
 let r:∀j i,(O j i).length=k.steps.length:=λj i=>by simp[O]
 clear_value O
 let b1:O 0 0=k.steps:=by
  apply Su;intro m;cases e:k.steps[m]? with
  |none=>rw[RC^by rw[r];show To.mp e]
  |some s=>
   rw[l 0 0 m s e];by_cases z:m=0
   .rw[QV Z4,Q0 z];rfl
   .rw[QV Z4,QV z]
 let a4:O k.steps.length 0=k.steps.map λs=>cE s k.taken c:=by
  apply Su;intro m;rw[QY];cases e:k.steps[m]? with
  |none=>rw[RC^by rw[r];show To.mp e];rfl
  |some s=>
   rw[l _ 0 m s e,Q0 (QN.mp e).1];rfl
 let a1:∀j,O j c.length=O (j+1) 0:=λj=>by
  apply Su;intro m;cases e:k.steps[m]? with
  |none=>
   have:=To.mp e;rw[RC (by rw[r];show this),RC^by rw[r];show this]
  |some s=>
   rw[l j _ m s e,l (j+1) 0 m s e,Rm^QU _];by_cases z:m<j
   .rw[Q0 z,Q0 Z4]
   .by_cases z2:m=j
    .rw[QV z,Q0 z2,Q0 Z4]
    .rw[QV z,QV z2,QV Z4]
     by_cases z3:m=j+1
     .rw[Q0 z3];rfl
     .rw[QV z3]
 let a5:∀j i g s,k.steps[j]?=!s->c[i]?=!g->(O j i).set j^da (cE s k.taken^c.take i) (k.taken+i) g=O j (i+1):=λj i g s e eg=>by
  apply Su;intro m;by_cases z:j=m
  .subst z;rw[Q3 (by rw[r];show(QN.mp e).1),l j (i+1) j s e,QV^Sm _,Q0 A2,NF eg]
  .rw[QS z]
   cases e2:k.steps[m]? with
   |none=>
    have:=To.mp e2;rw[RC (by rw[r];show this),RC^by rw[r];show this]
   |some t=>
    let z':¬m=j:=λw=>z w.symm;rw[l j i m t e2,l j (i+1) m t e2,QV z',QV z']
 let b0:∀{H':Hp} {Z':ZX} {G:List ZX} {ea:List bE},jZ C us H3 Zr ac H' Z' G ea->but H' Z' a=!(.ins CL dx^kj sl k.gm ((k.taken:Nat)+(c.length:Nat)) (k.taken:Nat) k.last):=λI=>I.same N _ _ co;show⟨λj M' Y H'=>∃G,jZ C us H3 Zr ac H' M' G^O j 0/\Y[0]?=!!.ref a/\aA (but H3 Zr) Y [bF,!(.lst^c.map D.tup),bF,bF,bF],
  {ac,{by rw[b1];show bx,λos L x J=>.inl {os,L,J},λb u _ e=>e,lr.same s3,λx J=>J,λx J=>.inl J},A2,E3},λj M' Y H' q5=>by let{G,I,_,_}:=q5;show{I.same N,I.live},?_,?_⟩
 .rintro j M' x Y H' eb et ⟨G,I,i0,E'⟩ s4 J
  let J:us[j]?=!x:=J;let ec:j<k.steps.length:=by omega
  let b2:k.steps[j]?=some k.steps[j]:=QO ec;let I4:=I.mono s4;let E4:aA (but eb M') (Y.set 2^!x) [bF,!(.lst^c.map D.tup),bF,bF,bF]:=(E'.mono^I4.same N).off 2 _;let c0:(Y.set 2^!x)[0]?=!!.ref a:=(QS Z1).trans i0;let ed:Y.length=5:=E'.len;let c2:(Y.set 2^!x)[2]?=!!x:=Q3 Z4;let EB:aA (but H3 Zr) (Y.set 2^!x) [bF,!(.lst^c.map D.tup),bF,bF,bF]:=E'.off 2 _;let g4:=b0 I4;show uv (M:=M') (Nv^Oo (n:=k.taken) Z4 (aI E4 A2)^iS TL.cl TL.nF c0 g4 A2 (.int _)) I4.live λH5 s5=>?_;let I5:=I4.mono s5;let ct:(mz k.taken^c.map D.tup).length=c.length:=by simp[mz]
  show{λi M2 U X=>∃ab,jZ C us H3 Zr ac X M2 ab^O j i/\ae (but H5 M')^but X M2/\U[0]?=!!.ref a/\U[2]?=!!x/\aA (but H3 Zr) U [bF,!(.lst^c.map D.tup),bF,bF,bF],
   {G,I5,ae.refl _,c0,c2,EB},λi M2 U X q6=>by let{ab,I2,S2,_,_,_}:=q6;show{S2,I2.live},?_,?_}
  .rintro i M2 y U X X' a0 ⟨ab,I2,S2,b3,cv,bd⟩ s6 ⟨d,hd,ry⟩
   let a0:i<c.length:=by rw[ct]at a0;show a0
   let b4:c[i]?=some c[i]:=QO a0;let d6:d=.tup [.int ((k.taken+i:Nat):Int),.tup c[i]]:=by
    have:(mz k.taken^c.map D.tup)[i]?=!.tup [.int ((k.taken+i:Nat):Int),.tup c[i]]:=by
     simp[mz,b4]
    rw[this]at hd;show(Q5 hd).symm
   subst d6;let I6:=I2.mono s6;show pc ry λu1 u2 q1 q2=>?_;let e1:=q1.dQ;subst e1;let b8:U.length=5:=bd.len;let d0:((U.set 3^!.int ((k.taken+i:Nat):Int)).set 4^!u2)[0]?=!!.ref a:=by rw[QS Z1,QS Z1];show b3
   let d2:((U.set 3^!.int ((k.taken+i:Nat):Int)).set 4^!u2)[2]?=!!x:=by rw[QS Z1,QS Z1];show cv
   let d3:((U.set 3^!.int ((k.taken+i:Nat):Int)).set 4^!u2)[3]?=!!.int ((k.taken+i:Nat):Int):=by rw[QS Z1];show Q3 Z4
   let d4:((U.set 3^!.int ((k.taken+i:Nat):Int)).set 4^!u2)[4]?=!!u2:=Q3 (by rw[Sv];omega);let a6:=l j i j _ b2;rw[QV^Sm _,Q0 A2]at a6;let{aj,os,h1,h2,h3,h4}:=I6.st.get j _ a6;let ee:x=.ref aj:=by rw[J]at h1;show Q5 h1
   subst ee;let{c1,w0,sa,w2,ao,ls,oS,ei,a7,_}:=h3.at_;let ej:=hF _^QT b4
   let c3:=hS _^QT b2
   let c4:=Bc k.steps[j] k.taken^c.take i
   rw[Rr]at c4;show{.ref aj,d2,aj,c1,_,A2,a7,A2,.int ((k.taken+i:Nat):Int),d3,u2,d4,M2,os,_,aj,k.taken+i,c[i],u2,A2,I6.live,h3,h4,q2,by rw[QE];show c3.1,ej,by have:=c3.2;omega,λb5 ek n1 n2 n3 n4 n5=>?_};let I7:=I6.put a6 h1 h2 h4 n1 n2 n3 n4 n5;rw[a5 j i _ _ b2 b4]at I7;let S7:ae (but X' M2) (but ek<|b5++M2):=xD n1 h4 n3;show{b5++M2,ab.set j b5,I7,S2.trans^(s6.but _).trans S7,d0,d2,(bd.off 3 _).off 4 _}
  .rintro M2 U X ⟨ab,I2,S2,b3,cv,bd⟩
   rw[ct,a1]at I2;show{M2,ab,I2,b3,bd}
 .rintro M' Y H' ⟨G,I,i0,E'⟩
  rw[show us.length=k.steps.length from bt,a4]at I;let a8:=(ay^b0 I).2;let bg:=I.same N _ _ cs;let as:=(ay bg).2;let en:∀b,but H' [] b=H' b:=λb=>bv Z8;show EQ (M:=[]) (Ot (K:=K) (is:=((List.range us.length).filter λj=>fT<|(k.taken:Int)<=((k.steps.map λs=>cE s k.taken c).getD j {[],[],[],[],-1}).newest).map λj=>((j:Nat):Int)) (n:=-1) (ag.eq (La (K:=K) (caps:=bo [0] 2) (i:=1) (j:=2) Z1 (p:=λj=>fT<|(k.taken:Int)<=((k.steps.map λs=>cE s k.taken c).getD j {[],[],[],[],-1}).newest) (f:=λj=>.int (j:Nat)) (CY (nD TL.cl TL.nS i0 (by rw[en];show a8) A2)^by rw[en];show as) (λG' v m sG hv=>?_) (λG' v m sG hv _=>de (by simp[bo])^.int _)^by rw[bt];show cH Z4)^by rw[Rz];rfl)^mB ar) av.nil λv6 H6 s6 r6=>?_
  .let hm:=(QN.mp hv).1;let c5:m<(k.steps.map λs=>cE s k.taken c).length:=by rw[QP];omega
   let{am,os,h1,h2,h3,h4}:=I.st.get m _^QO c5;let e1:v=.ref am:=by rw[hv]at h1;show Q5 h1
   subst e1;let{c1,w0,sa,w2,ao,ls,oS,ei,a7,_}:=h3.at_;let eN:(k.steps.map λs=>cE s k.taken c).getD m ⟨[],[],[],[],-1⟩=(k.steps.map λs=>cE s k.taken c)[m]:=by rw[List.getD,QO c5];rfl
   rw[eN];show cz^tM (iS (a:=am) T.cl T.nN (by simp[bo]) (sG _ _^by rw[en];show a7) A2^.int _)^iS (a:=a) TL.cl TL.nF (by simp[bo,i0]) (sG _ _^by rw[en];show a8) A2 (.int _)
  let e6:=r6.dQ;subst e6;show{.ref a,i0,a,CL,dx,_,A2,s6 _ _ a8,TL.cl,TL.nL,(show 5<1000 by decide),?_};rw[show us.length=(k.steps.map λs=>cE s k.taken c).length by rw[QP];show bt];generalize dc:upd H6 a _=H7;let dd:H7 a=!(.ins CL dx^kj sl k.gm ((k.taken:Nat)+(c.length:Nat)) (k.taken:Nat)^lK (k.steps.map λs=>cE s k.taken c) k.taken):=by rw[<-dc];show aM
  let K7:∀b u,b≠a->H' b=!u->H7 b=!u:=λb u hb e=>by rw[<-dc,aE hb];show s6 _ _ e
  let em:H3 a=!(.ins CL dx^kj sl k.gm ((k.taken:Nat)+(c.length:Nat)) (k.taken:Nat) k.last):=(ay co).2;let di:∀os∈G,a∉os:=λos L z=>by
   rcases I.own os L a z with⟨o,h1,h2⟩|h1
   .show bl o h1 h2
   .rw[em]at h1;cases h1
  let bh:∀os∈G,∀x∈os,x∈M':=λos L x J=>by
   let{i,hi}:=RD.mp L;let a0:=(QN.mp hi).1;let b8:=I.st.l2;let bm:i<(k.steps.map λs=>cE s k.taken c).length:=by omega
   let{_,o2,_,h2,_,h4}:=I.st.get i _^QO bm;rw[hi]at h2;cases h2;show h4 x J
  let ZM:∀x∈Z,x=a\/x∈M':=λx J=>by
   rcases QZ.mp ((bc x).mpr J)with z|z
   .show .inl z
   .show .inr^I.sub x z
  let S7:ae (but H' (a::M')) (but H7<|G.flatten++Z):=λb u e=>by
   let{q1,q2}:=ay e;simp only[QZ,Ws]at q1;rw[bv]
   .show K7 b u q1.1 q2
   .intro z;rcases Rc.mp z with z|z
    .let{os,L,J}:=RE.mp z;show q1.2^bh os L b J
    .rcases ZM b z with w|w
     .show q1.1 w
     .show q1.2 w
  let l7:av (G.flatten++Z) H7:=λx J=>by
   let hM:x=a\/x∈M':=by
    rcases Rc.mp J with z|z
    .let{os,L,J}:=RE.mp z;show .inr^bh os L x J
    .show ZM x z
   by_cases z:x=a
   .rw[z,dd];show λz=>nomatch z
   .rcases hM with w|w
    .show absurd w z
    .cases q7:H' x with
     |none=>show absurd q7^I.live x w
     |some u=>rw[K7 x u z q7];show λz=>nomatch z
  show q G H7 (λos L x J=>?_) (λb u hb L e=>K7 b u hb^I.keep b u L^s3 _ _^K2 b u hb e) l7 {dx,sl,us,?_,?_,?_,Q1 _ aZ,di}
  .rcases I.own os L x J with z|z
   .show .inl z
   .show .inr^N2 ?_
    cases q3:H2 x with
    |none=>rfl
    |some u=>rw[s3 _ _ q3]at z;cases z
  .show dd
  .show S7 _ _ ?_
   let ep:sl≠a:=λz=>by rw[z,a8]at as;cases as
   rw[bv^by simp only[QZ,Ws];show{ep,(ay bg).1}];show as
  .show(I.st.fO a8 A2).Eh (λos L x J=>Q2 _^RE.mpr {os,L,J}) (λb u q8 e=>by let{os,L,hb}:=q8;show K7 b u (λz=>di os L^by rw[<-z];show hb) e) S7
end
end cf
namespace cf
open PySem L2 FL
section
variable {P:qj}{w:pa}{K:kc}{mg:Str->Option wj}{base:rl}{f:vb}{fd:mu}
def Pq:cb ["self"] ["self"]^bH xS:=`b
def Lx(F:bB K "beginnings" "Loom.beginnings" xS f fd)(T:mU K C)(k:nl K CL)(B:Bl mg):bw P w K mg base bO 1 f fd ["self"]^F5 C CL:=by
 show F.ok Pq (λvs H Q E q0=>by let{_,_,_,e,_}:=q0;rw[e];rfl) λab A L s H vs Q E hr h=>?_;let{M,b,v0,rfl,lv,hL,hn,q}:=h;show⟨_,(aC (cc (fM (cS^eD (pv 0) A2)^iw (kz (cA ny (eD (pv 0) A2) aD)^kO^cA qP (eD (pv 0) A2) aD).pt).pt (az^bz^dA aq) cw)
   (aC (cc (d7^cS^zQ B^gt ["step"] [] 1 (cG^eD (pv 0) A2) (λ_ _ _ _ _=>(bC 0^lI _)) (λ_ _ _ _ _=>j8) λ_ _ _ _ _=>(gQ uW (sD (pv 0) A2) aD)) (az^bz^dA aq) cw)
   (az^bz^dA^ai (eG^ai (dA aq)^ai (eG aq) aq) aq))),?_⟩
 let{a,dx,sl,us,rfl,I,gs,o}:=hL;let E0:aA `a (L2.start ["self"] [.ref a]) [bF]:=gO (.raw .nil) _;let r:=o.len;show jG lv E0 (fy (cM^iS k.cl k.nB A2 I A2 (.bl _)) λ_=>mi (cz^ni (iS k.cl k.nL A2 I A2^.int _) ar) λ_=>cz^qY (iS k.cl k.nF A2 I A2^.int _) ar) (λe H1 g N E1=>?_) λe H1 g N E1=>nx ?_
 .let c:fg b=[]:=by unfold fg;rw[Q0 e]
  rw[c]at q;show yf N ah (Rk _) λp d O l t U r2=>q p d O (g.trans l) (iW g t) U r2
 let u:=o.mono^g.but M
 show jG N E1 (dY^cM^wm (bs:=b.steps.map λs=>fT<|(0:Int)<=s.newest)^aa (ag.eq (MY (caps:=bo [] 1) (i:=0) (p:=λ_=>bU) (f:=λj=>.bl<|fT<|(0:Int)<=(b.steps.getD j {[],[],[],[],-1}).newest) (zm (K:=K) (nD k.cl k.nS A2 ((g.but M) _ _ I) A2)^(g.but M) _ _ gs) (λj G G' v _ h=>h) (λG' v j _ _ _=>kS) (λG' v j sG hj _ Y=>?_)^by rw[r];show cH Z4) ?_) ah) (λn O l l2 E2=>?_) λn O l l2 E2=>nx ?_
 .let Y:us[j]?=!v:=Y;let x:j<b.steps.length:=by omega
  let{v',h1,U}:=u.get j _^QO x;rw[Y]at h1;cases h1;let{am,ac,w0,sa,w2,ao,oS,rfl,g1,_}:=U;let eN:b.steps.getD j ⟨[],[],[],[],-1⟩=b.steps[j]:=by rw[List.getD,QO x];rfl
  rw[eN];show tM (iS T.cl T.nN (by simp[bo]) (sG _ _ g1) A2^.int _) ar
 .rw[RM.mpr λ_ _=>A2,r,Rz]
  congr 1;apply Su;intro m;rw[QY,QY];by_cases y:m<b.steps.length
  .rw[List.getElem?_range y,QO y]
   change(!(D.bl<|fT<|(0:Int)<=(b.steps.getD m {[],[],[],[],-1}).newest))=_;rw[List.getD,QO y];rfl
  .rw[RC (by simpa using RA y),RC^RA y]
   rfl
 .let c:fg b=[]:=by
   unfold fg;rw[QV (by rw[e];show QW),QV];intro z;rw[US]at n;let J:(b.steps.all<|id∘λs=>fT<|(0:Int)<=s.newest)=bU:=z;rw[J]at n;cases n
  rw[c]at q;show yf l2 ah (Rk _) λp d H3 s3 t h3 r3=>q p d H3 (g.trans^l.trans s3) (iW (g.trans l) t) h3 r3
 .let c:fg b=[([],[])]:=by
   unfold fg;rw[QV (by rw[e];show QW),Q0];rw[US]at n;let J:(not (b.steps.all<|id∘λs=>fT<|(0:Int)<=s.newest))=fF:=n;rw[Vr]at J;show J
  rw[c]at q;show yf l2 (ds:=[.tup [.lst [],.tup []]]) (aa (aV^aa (fE (ds:=[]) ah (hz:=Rk _))^aa (aV (ds:=[]) ah (hz:=Rk _)) ah) ah) (show 1<=se by decide) λp d H3 s3 t h3 r3=>q p d H3 (g.trans^l.trans s3) (iW (g.trans l) t) h3 r3
def Nr:cb ["self","way"] ["self","way"]^bH z7:=`b
def O3(F:bB K "is_whole" "Loom.is_whole" z7 f fd)(m:nl K CL)(B:Bl mg):bw P w K mg base bO 1 f fd ["self","way"]^ya C CL:=by
 show F.ok Nr (λp H Q E r=>by let{_,_,_,_,_,e,_}:=r;rw[e];rfl) λt A c s H p Q E u h=>?_;let{M,x,b,U,y,rfl,z,G,g,q}:=h;let I:=d8 u;show{_,(az^bz^gQ (fA^by show I) (cy B^aY (pv 1) aD)^cy B^eD (pv 0) A2),?_};let{a,Y,sl,o,rfl,J,L,k}:=G;let l:=k.len;let E0:aA `a (L2.start ["self","way"] [.ref a,y]) [bF,!dC b]:=gO (.raw^.dat g .nil) _;show eZ z (jR (i:=((b.2.map λn=>D.int (n:Nat)).length:Nat)) (j:=(o.length:Nat)) (gv^aa (bS (ds:=[.lst^pairD b.1,.tup^b.2.map λn=>D.int (n:Nat)]) (d:=.tup^b.2.map λn=>D.int (n:Nat)) A2 (aI E0 A2) ar) ah)^Py (nD m.cl m.nS A2 J A2) L) λv N O g=>?_;let T:=g.ik;subst T;have:fT ((((b.2.map λn=>D.int (n:Nat)).length:Nat):Int)=((o.length:Nat):Int))=fT (b.2.length=x.steps.length):=by
  rw[QP,l];show TF.mpr {λh=>by omega,λh=>by omega}
 rw[this];show q N O
def vZ:cb ["self","way","taken","lowest"] ["self","way"]^bH wD:=`b
def Ia(F:bB K "carried_on" "Loom.carried_on" wD f fd)(T:mU K C)(l:nl K CL)(B:Bl mg)(p:mg "max"=bF)(c:jB P w K mg base 3 C "carry_on" ["self","way","lowest"]^xW C):bw P w K mg base bO 4 f fd ["self","way"]^An C CL:=by
 show F.ok vZ (λvs H Q E q0=>by let{_,_,_,_,_,_,e,_}:=q0;rw[e];rfl) λaj A ab s H vs Q E hr h=>?_;let{M,m,w0,v0,v1,sz,rfl,lv,hL,r1,hR,hW,r,q}:=h;let hu:=d8 hr;let g:=T.cl;show{_,(aC (bf 2 vZ.nd^cy B^aY (pv 1) aD)
   (aC (bf 3 vZ.nd aD)
   (aC (cc (kz (cA (fA^by show hu) (pv 2)^eD (pv 0) A2)^kO^cA ny (BF p (aY (pv 1) aD)^kG lg aD)^eD (pv 0) A2).pt (az^bf 3 vZ.nd^eD (pv 0) A2) cw)
   (az^bz^lT (aY (eD (pv 0) A2)^pv 2) g c hr^ai (pv 1)^ai (pv 3) aq)))),?_}
 let{a,dx,sl,us,rfl,G,gs,I}:=hL;let am:=I.len;let{S,b}:=w0;let r:b.length<m.steps.length:=r;let E0:aA `a (L2.start ["self","way","taken","lowest"] [.ref a,v1]) [bF,!dC (S,b),bF,bF]:=gO (.raw^.dat r1 .nil) _;let ac:(b.map λn=>D.int (n:Nat))=(b.map λn=>((n:Nat):Int)).map D.int:=by rw[Rz];rfl
 show gk (i:=2) (d:=.int (b.length:Nat)) lv E0 ((gv^aa (bS (ds:=[.lst^pairD S,.tup^b.map λn=>D.int (n:Nat)]) (d:=.tup^b.map λn=>D.int (n:Nat)) A2 (aI E0 A2) ar) ah).eq^by rw[QP]) λan H1 o1 x l1 E1=>?_;dsimp only;show CB^gk (i:=3) (d:=.int 0) l1 E1 (ar (i:=0)) λaf H2 o2 y l2 E2=>?_
 let j:af[0]?=!!.ref a:=(o2 0 Z1).trans^(o1 0 Z1).trans A2
 let J:=(x.trans y).but M;let hs:=QO r;let{vj,L,o}:=I.get b.length _ hs;let N:cI m (S,b)=fX m.steps[b.length] (S,b)^iP m (S,b):=by
  unfold cI;rw[show m.steps[((S,b):aN).2.length]?=some m.steps[b.length]from hs]
 let O:lS S.length m.steps[b.length]:=by
  have:=(hR.st _ _ hs).1;let e:=hW.one;let e:S.length=sz b.length:=e;rw[e];show this
 let U:S.length<=500:=by let e:S.length=sz b.length:=hW.one;rw[e];show hR.le _
 let Y:b.length<=500:=by have:=hR.len;omega
 rw[N]at q;show jG l2 E2 (mi (cz^jR (aI E2 A2)^iS l.cl l.nL j (J _ _ G) A2 (.int _)) λ_=>cz^ni (NV (K:=K) (is:=b.map λn=>((n:Nat):Int)) ((bS (ds:=[.lst^pairD S,.tup^b.map λn=>D.int (n:Nat)]) (d:=.tup^b.map λn=>D.int (n:Nat)) A2 (aI E2 A2) ar).eq^by rw[ac])^mB ar)^iS l.cl l.nF j (J _ _ G) A2 (.int _)) (λe H3 z l3 E3=>?_) λe H3 z l3 E3=>nx ?_
 .let k:=(x.trans^y.trans z).but M;show gk (i:=3) l3 E3 (iS l.cl l.nF j (k _ _ G) A2^.int _) λao H4 o4 s4 l4 E4=>?_;let t:=(x.trans^y.trans^z.trans s4).but M;let u:iP m (S,b)=m.fresh:=by unfold iP;rw[Q0 e]
  rw[u]at q;show eZ l4 (AX (nD l.cl l.nS ((o4 0 Z1).trans j) (t _ _ G) A2) (t _ _ gs) (aI E4 A2) L (o.mono t) hW.ok U Y O (aI E4 A2)^aI E4 A2) λv H5 s5 r5=>q v H5 (x.trans^y.trans^z.trans^s4.trans s5) r5
 .let k:=(x.trans^y.trans z).but M;let u:iP m (S,b)=0:=by unfold iP;rw[QV^by rw[e];show QW]
  rw[u]at q;show eZ l3 (AX (nD l.cl l.nS j (k _ _ G) A2) (k _ _ gs) (aI E3 A2) L (o.mono k) hW.ok U Y O (aI E3 A2)^aI E3 A2) λv H5 s5 r5=>q v H5 (x.trans^y.trans^z.trans s5) r5
end
end cf
namespace cf
open PySem L2 FL
section
variable {P:qj}{w:pa}{K:kc}{mg:Str->Option wj}{base:rl}{f:vb}{fd:mu}
def pU:cb ["self","number","loom","head","found","unfinished","way","fact"] ["self","number","loom"]^bH xm:=`b
def IR(F:bB K "given_by" "Weaving.given_by" xm f fd)(TL:nl K CL)(TW:sy K CW)(B:Bl mg)(a4:bP P w K mg base 1 "filled" ["atom","setting"]^bI sX)(ab:jB P w K mg base 1 CL "beginnings" ["self"]^F5 C CL)(ao:jB P w K mg base 1 CL "is_whole" ["self","way"]^ya C CL)(ac:jB P w K mg base 4 CL "carried_on" ["self","way"]^An C CL):bw P w K mg base bO 5 f fd ["self","number","loom"]^C6 C CL CW:=by
 show F.ok pU (λvs H Q E q0=>by let{_,_,_,_,_,_,_,_,_,_,_,_,_,_,_,e,_}:=q0;rw[e];rfl) λgh A ex s H vs Q E hr h=>?_;let{M,r,a,dx,vr,ll,N,a9,G,I,bd,T,R,sz,v2,rfl,lv,ha,dp,be,hT,rr,dt,bl,d0,hG,hN,q}:=h;let d1:=fH hr;let O:=TL.cl;show⟨_,(aC (bf 3 pU.nd^aY (aY (eD (pv 0) A2)^pv 1) aD)
   (aC (bf 4 pU.nd^dA aq)
   (aC (bf 5 pU.nd^Hh (pv 2) O ab hr)
   (aC (wU Rf (yQ (pv 5) λ_=>A2) (aC (bf 6 pU.nd^Ff Sc PySem.F.slot_list_pop PySem.F.type_list_pop Hm^pv 5)
   (aC (bf 7 pU.nd^bL a4 hr^ai (pv 3)^ai (aY (pv 6) aD) aq)
   (az^cc (lC^rT (by show d1) (pv 7)^eD (pv 0) A2) (az^cc (cS^lT (pv 2) O ao hr^ai (pv 6) aq) (aC (jW d1 (eD (pv 0) A2) (pv 7) cO A2)
   (az^jU (pv 4)^eG^ai (pv 7)^ai (pv 1)^ai (aY (pv 6) aD) aq))^az^jy^qe Sc TN UC xa (pv 5)^ai (lT (pv 2) O ac hr^ai (pv 6) aq) aq) cw))))
   (az^bz^pv 4))))),?_⟩
 let hR:=hG.run;let{aL,ey,gl,gn,eL,ez,go,gb}:=id bl;subst eL;let E0:aA `a (L2.start ["self","number","loom","head","found","unfinished","way","fact"] [.ref a,.int ((G:Nat):Int),.ref aL]) [bF,!.int ((G:Nat):Int),bF,bF,bF,bF,bF,bF]:=gO (.raw^.dat (.int _)^.raw .nil) _;let e0:(a9.map aR)[G]?=!aR (I,bd):=by rw[QY,dt];rfl
 show gk (i:=3) (d:=.tup I) lv E0 (bS (ds:=[.tup I,cB bd]) (d:=.tup I) A2 (c7 (ds:=a9.map aR) (d:=aR (I,bd)) (lL e0) (iS TW.cl TW.nR A2 ha A2 rr)^aI E0 A2) ar) λd2 H1 o1 s1 l1 E1=>?_;dsimp only;let e1:d2[0]?=!!.ref a:=(o1 0 Z1).trans A2;let e2:d2[2]?=!!.ref aL:=(o1 2 Z1).trans A2;show pS (i:=4) l1 E1 Z8 ah (Rk _) λy vF a0 H4 o4 i4 n4 h4 r4 l4 k4 E4=>?_;let ct:ae H1 H4:=λx o e=>(k4 x o e).2;let e3:H1 y=bF:=none_of (ae.refl H1) k4;let HF:H y=bF:=none_of s1 k4;let e4:vF=[]:=by cases r4;rfl
 subst e4;let e5:a0[0]?=!!.ref a:=(o4 0 Z1).trans e1;let d3:a0[2]?=!!.ref aL:=(o4 2 Z1).trans e2;let cv:ae `a^but H4 (y::M):=(s1.but M).trans^jA e3 ct
 let d4:=bl.mono cv;show{.ref aL,d3,aL,ey,_,A2,(ay^cv _ _ ez).2,A2,y::M,r,.ref aL,A2,l4,d4,d0,λk vU H5 s5 bm h5 r5=>?_};let bg:y≠k:=λz=>by rw[<-z,h4]at bm;cases bm
 let HU:H k=bF:=iW (s1.trans ct) bm;let d5:ae H H5:=s1.trans^ct.trans s5
 let ea:H5 N=!(.dT^cZ T):=d5 _ _ be;let b6:N≠y:=λz=>by rw[z,HF]at be;cases be
 let bh:N≠k:=λz=>by rw[z,HU]at be;cases be
 let ec:ae (but H4 (y::M))^but H5 (k::y::M):=jA bm s5;let e6:ae `a^but H5 (k::y::M):=cv.trans ec;let l5:av (k::y::M) H5:=(l4.same s5).cons h5;let e8:=E4.len;let E5:aA (but H5 (k::y::M)) (a0.set 5^!.ref k) [bF,!.int ((G:Nat):Int),bF,!.tup I,bF,bF,bF,bF]:=(E4.mono ec).off 5 _;let fa:(a0.set 5^!.ref k)[0]?=!!.ref a:=(QS Z1).trans e5;let fb:(a0.set 5^!.ref k)[2]?=!!.ref aL:=(QS Z1).trans d3;let fl:(a0.set 5^!.ref k)[4]?=!!.ref y:=(QS Z1).trans i4;let fn:(a0.set 5^!.ref k)[5]?=!!.ref k:=Q3 (by rw[e8];show(show 5<8 by decide));let fo:=s5 _ _ h4;let c1:fg r=[]\/fg r=[([],[])]:=by
  unfold fg;split
  .show .inl A2
  .split
   .show .inr A2
   .show .inl A2
 let b7:(fg r).reverse=fg r:=by rcases c1 with z|z<;>rw[z]<;>rfl
 let ed:0+((fg r).map λw=>eE r (ck r w) w).sum<=eE r r.steps.length ([],[]):=by
  rcases c1 with z|z
  .rw[z];show Rk _
  .rw[z]
   change 0+(eE r (r.steps.length-0) ([],[])+0)<=_;rw[Wn];omega
 let ee:∀w∈fg r,GoodW sz r.steps w/\R w:=λw hw=>by
  rcases c1 with z|z
  .rw[z]at hw;cases hw
  .rw[z]at hw
   rw[Rg.mp hw];show{GoodW.nil hR,hG.r0}
 unfold gI at q;generalize fg r=B0 at q r5 b7 ed ee;show⟨λm U X=>∃(j:List aS) (stack:List aN) (uF L:List V),cY I G (B0.flatMap λw=>dk r (ck r w) w) T=j++cY I G (stack.reverse.flatMap λw=>dk r (ck r w) w) (T++aJ j)/\(∀g∈T++aJ j,gR g)/\m=(stack.map λw=>eE r (ck r w) w).sum/\j.length+m<=eE r r.steps.length ([],[])/\(∀w∈stack,GoodW sz r.steps w/\R w)/\U[0]?=!!.ref a/\U[2]?=!!.ref aL/\U[4]?=!!.ref y/\U[5]?=!!.ref k/\X y=!.lst uF/\aF (but X (k::y::M)) uF^j.map cm/\X k=!.lst L/\aF (but X (k::y::M)) L^stack.map dC/\X N=!(.dT<|cZ<|T++aJ j)/\(∀b u,b≠N->H b=!u->X b=!u)/\av (k::y::M) X/\ae `a^but X (k::y::M)/\aA (but X (k::y::M)) U [bF,!.int ((G:Nat):Int),bF,!.tup I,bF,bF,bF,bF],
  {_,[],B0,[],vU,by rw[b7];change _=[]++cY I G _ (T++[]);rw[Ro];rfl,by change∀g∈T++[],gR g;rw[Ro];show hT,A2,ed,ee,fa,fb,fl,fn,fo,.nil,h5,r5,by change H5 N=!(.dT<|cZ<|T++[]);rw[Ro];show ea,λb u _ e=>d5 _ _ e,l5,e6,E5},?_⟩
 rintro m U X ⟨j,stack,uF,L,as,Y,rfl,fp,an,j0,j2,j4,j5,eg,rF,c3,rU,ei,KX,lX,fr,EX⟩;show{.ref k,j5, not L.isEmpty,.inl {L,aU.of c3,A2},?_};let ej:stack=[]\/∃J w,stack=J++[w]:=by
  rcases List.eq_nil_or_concat stack with z|⟨J,w,z⟩
  .show .inl z
  .show .inr {J,w,by rw[z,List.concat_eq_append]}
 rcases ej with rfl|⟨J,w,rfl⟩
 .let hu:L=[]:=by cases rU;rfl
  subst hu;show Eq.mpr (QV (c:=(not^([]:List V).isEmpty)=bU) Z8) ?_;let as:cY I G (B0.flatMap λw=>dk r (ck r w) w) T=j++[]:=as;rw[Ro]at as;rw[as]at q;show{.ref y,j4,q y uF X KX HF eg (rF.mono^fe λz hz=>QM _ hz) ei}
 .let bs:=rU.length;rw[QP,Q7,R6]at bs;let{hw,dc}:=an w^Q1 _^Rg.mpr A2
  let bt:(((J++[w]).map dC))[L.length-1]?=!dC w:=by
   rw[bs,UK,QY,Rn^QU _,Wr];rfl
  let{u,hu,ru}:=rU.get bt;let fs:(not L.isEmpty)=bU:=by
   cases L with
   |nil=>simp at bs
   |cons _ _=>rfl
  show Eq.mpr (Q0 (c:=(not L.isEmpty)=bU) fs) ?_;rw[Rl,V6,List.map_singleton,List.sum_singleton]at fp⊢;show⟨λaj af=>∃m',m'<(J.map λw=>eE r (ck r w) w).sum+eE r (ck r w) w/\∃(j:List aS) (stack:List aN) (uF L:List V),cY I G (B0.flatMap λw=>dk r (ck r w) w) T=j++cY I G (stack.reverse.flatMap λw=>dk r (ck r w) w) (T++aJ j)/\(∀g∈T++aJ j,gR g)/\m'=(stack.map λw=>eE r (ck r w) w).sum/\j.length+m'<=eE r r.steps.length ([],[])/\(∀w∈stack,GoodW sz r.steps w/\R w)/\aj[0]?=!!.ref a/\aj[2]?=!!.ref aL/\aj[4]?=!!.ref y/\aj[5]?=!!.ref k/\af y=!.lst uF/\aF (but af (k::y::M)) uF^j.map cm/\af k=!.lst L/\aF (but af (k::y::M)) L^stack.map dC/\af N=!(.dT<|cZ<|T++aJ j)/\(∀b u,b≠N->H b=!u->af b=!u)/\av (k::y::M) af/\ae `a^but af (k::y::M)/\aA (but af (k::y::M)) aj [bF,!.int ((G:Nat):Int),bF,!.tup I,bF,bF,bF,bF],λaj af h=>h,?_⟩;show{.ref k,j5,(show iZ K "list" (.ref k) _ from .inl {A2,L,aU.of c3}),k,L,u,A2,A2,c3,hu,?_};let eb:but (upd X k^.lst L.dropLast) (k::y::M)=but X (k::y::M):=eo QQ;let a5:aF (but (upd X k^.lst L.dropLast) (k::y::M)) L.dropLast^J.map dC:=by
   rw[eb];let h1:=rU.take J.length;rw[Rl,SU (by rw[QP];show QU _),Rm (l:=List.map dC J)^by rw[QP];show QU _]at h1;let h2:L.dropLast=L.take J.length:=by rw[List.dropLast_eq_take,bs,UK]
   rw[h2];show h1
  let Ea:aA (but (upd X k^.lst L.dropLast) (k::y::M)) (U.set 6^!u) [bF,!.int ((G:Nat):Int),bF,!.tup I,bF,bF,!dC w,bF]:=by rw[eb];show EX.set 6 ru
  let la:av (k::y::M)^upd X k^.lst L.dropLast:=lX.upd;let Ka:∀b u,b≠N->H b=!u->(upd X k^.lst L.dropLast) b=!u:=λb o hb e=>by
   rw[aE λz=>by rw[z,HU]at e;cases e];show KX b o hb e
  let ek:ae `a^but (upd X k^.lst L.dropLast) (k::y::M):=by rw[eb];show fr
  let a2:(upd X k^.lst L.dropLast) y=!.lst uF:=by rw[aE bg];show eg
  let am:(upd X k^.lst L.dropLast) k=!.lst L.dropLast:=aM;let bi:(upd X k^.lst L.dropLast) N=!(.dT<|cZ<|T++aJ j):=by rw[aE bh];show ei
  let bx:aF (but (upd X k^.lst L.dropLast) (k::y::M)) uF^j.map cm:=by rw[eb];show rF
  let b0:(U.set 6^!u)[0]?=!!.ref a:=(QS Z1).trans j0;let b2:(U.set 6^!u)[2]?=!!.ref aL:=(QS Z1).trans j2;let b4:(U.set 6^!u)[4]?=!!.ref y:=(QS Z1).trans j4;let b5:(U.set 6^!u)[5]?=!!.ref k:=(QS Z1).trans j5;clear eb rU ru;generalize upd X k^.lst L.dropLast=Xa at a5 Ea la Ka ek a2 am bi bx;generalize L.dropLast=uV at a5 am;let a1:cY I G (B0.flatMap λw=>dk r (ck r w) w) T=j++cY I G (dk r (ck r w) w++J.reverse.flatMap λw=>dk r (ck r w) w) (T++aJ j):=by
   rw[as,List.reverse_append,UT];simp
  let ft:(aJ j).length=j.length:=by unfold aJ;rw[QP]
  let em:∀n,n<=eE r r.steps.length ([],[])->n<se:=λn h=>by omega
  let gd:=Ai r J;let b8:=C4 r (ck r w) w;let ca:∀p∈w.1,p.2.sc=bU:=λp hp=>(hw.ok p hp).1;let a3:bV^bJ I w:=BD hG.cC ca;let cd:∀g∈T++aJ j,bV g:=λg hg=>(Y g hg).1;show gk (i:=7) (d:=.tup^bJ I w) la Ea (bR (R:=sX) {I,w.1,A2,hG.cC,ca,by have:=hG.hl;omega,A2}^aa (aI Ea A2)^aa (bS (ds:=[.lst^pairD w.1,.tup^w.2.map λn=>D.int (n:Nat)]) (d:=.lst^pairD w.1) A2 (aI Ea A2) ar) ah) λfv Xb ob sb lb Eb=>?_;let c0:=(ob 0 Z1).trans b0;let c2:=(ob 2 Z1).trans b2;let c4:=(ob 4 Z1).trans b4;let c5:=(ob 5 Z1).trans b5;let a6:=ek.trans^sb.but (k::y::M)
  let bk:=sb _ _ bi;let{v7,e7,r7}:=Eb.get 7 _ A2;let{en,gp,fx,h7,f0}:=r7.fS;subst fx;let dd:=(ay h7).2;rw[oY a3 f0]at dd;let f1:=(ay^a6 _ _ ha).2;show{.ref en,e7,.ref a,c0,a,CW,dx,_,.ref N,A2,f1,TW.cl,TW.nT,A2,N,_,A2,dg.t bk dd,_,A2,?_};rw[yO a3 cd];by_cases a7:bJ I w∈T++aJ j
  .
   rw[Q9 a7];show Eq.mpr (QV (c:=(not bU)=bU) Z8) ?_;let f2:=hG.skip w dc (Y _ a7).2;show{_,VU b8,j,J,uF,uV,?_,Y,A2,by omega,λx hx=>an x^Q2 _ hx,c0,c2,c4,c5,sb _ _ a2,bx.mono^sb.but _,sb _ _ am,a5.mono^sb.but _,bk,λb u hb e=>sb _ _^Ka b u hb e,lb,a6,(Eb.drop 7).drop 6};rw[a1,Dh _ _ _ λx hx=>by rw[f2 x hx];show a7]
  .rw[Ri a7]
   show Eq.mpr (Q0 (c:=(not fF)=bU) A2) ?_;show jG lb Eb (ND c2 (bl.mono a6)^aI Eb A2) (λe Xc sc lc Ec=>?_) λe Xc sc lc Ec=>?_
   .let e:=Q8 e;let nj:dk r (ck r w) w=[w]:=by
     have:ck r w=0:=by unfold ck;omega
     rw[this];rfl
    let f3:gR^bJ I w:={a3,hG.flat w dc e}
    let f4:=(ay^((sc.but (k::y::M)) _ _^a6 _ _ ha)).2;let ep:=sc _ _ bk;show{.ref a,c0,a,CW,dx,_,.ref N,A2,f4,TW.cl,TW.nT,A2,.ref en,e7,N,_,A2,gK.t ep (sc _ _ dd) (by rw[Go,Q7,ft];omega),?_};rw[EW a3 cd,QV a7];let b1:but `s (k::y::M)=but Xc (k::y::M):=eo^QM _^QM _ dp
    let Ed:aA (but `s (k::y::M)) fv [bF,!.int ((G:Nat):Int),bF,!.tup I,bF,bF,!dC w,!(.tup^bJ I w)]:=by rw[b1];show Ec
    let ch:`s y=!.lst uF:=by rw[aE^RG b6];show sc _ _^sb _ _ a2
    let co:`s k=!.lst uV:=by rw[aE^RG bh];show sc _ _^sb _ _ am
    let eq:aF (but `s (k::y::M)) uF^j.map cm:=by rw[b1];show bx.mono^(sb.trans sc).but _
    let er:aF (but `s (k::y::M)) uV^J.map dC:=by rw[b1];show a5.mono^(sb.trans sc).but _
    let Kd:∀b u,b≠N->H b=!u->`s b=!u:=λb u hb e=>by rw[aE hb];show sc _ _^sb _ _^Ka b u hb e
    let es:ae `a^but `s (k::y::M):=by rw[b1];show a6.trans^sc.but _
    let ld:av (k::y::M)^upd Xc N (.dT<|cZ<|T++aJ j++[bJ I w]):=lc.upd;let cs:`s N=!(.dT<|cZ<|T++aJ j++[bJ I w]):=aM;generalize upd Xc N (.dT<|cZ<|T++aJ j++[bJ I w])=Xd at Ed ch co eq er Kd es ld cs;show vc ld Ed (a:=y) (d:=cm (bJ I w,(G,w.2))) Z8 c4 ch eq (by rw[QP];show em _ Z4) (aV^aa (aI Ed A2)^aa (aI Ed A2)^aa (bS (ds:=[.lst^pairD w.1,.tup^w.2.map λn=>D.int (n:Nat)]) (d:=.tup^w.2.map λn=>D.int (n:Nat)) A2 (aI Ed A2) ar) ah) λvd Xe ke le he re Ee=>?_;let Se:ae (but Xd (k::y::M))^but Xe (k::y::M):=oQ Z8 ke;let di:aJ (j++[(bJ I w,(G,w.2))])=aJ j++[bJ I w]:=by rw[qH];rfl
    show{_,VU b8,j++[(bJ I w,(G,w.2))],J,_,uV,?_,?_,A2,?_,λx hx=>an x^Q2 _ hx,c0,c2,c4,c5,he,?_,ke _ _ (RG bg) co,er.mono Se,?_,?_,le,es.trans Se,(Ee.drop 7).drop 6}
    .rw[a1,nj,List.singleton_append,qC a7,di,<-RI T]
     show(RI j [(bJ I w,(G,w.2))] _).symm
    .rw[di,<-RI]
     intro g hg;rcases Rc.mp hg with z|z
     .show Y g z
     .rw[Rg.mp z];show f3
    .rw[Q7,R6];omega
    .rw[Rl];show re
    .rw[di,<-RI];show ke _ _ b6 cs
    .show λb u hb e=>ke b u (λz=>by rw[z,HF]at e;cases e)^Kd b u hb e
   .let e:=RK e;let gs:=hw.two;let dn:w.2.length<r.steps.length:=by omega
    let f5:=FV hR hw;let et:=Lq dn;let eu:=Oy dn;let ev:=a6.trans^sc.but (k::y::M)
    let gy:=Ai r^cI r w
    show{.ref k,c5,(show iZ K "list" (.ref k) _ from .inl {A2,uV,aU.of^sc _ _^sb _ _ am}),Lc c2 (bl.mono ev) hR hw dn (aI Ec A2) (k::y::M) Xc `f lc _ λv Xd sd rv=>?_};let{bc,zs,rfl,f6,ew}:=rv.el;let f7:=ew.length;rw[QP]at f7;let ga:=a5.length;rw[QP]at ga;let a8:=sb.trans^sc.trans sd
    show{k,bc,uV,zs,A2,A2,a8 _ _ am,(ay f6).2,Sf^em _ Z4,?_};let b3:but (upd Xd k (.lst<|uV++zs)) (k::y::M)=but Xd (k::y::M):=eo QQ;show{((J++cI r w).map λw=>eE r (ck r w) w).sum,?_,j,J++cI r w,uF,uV++zs,?_,Y,A2,?_,λx hx=>?_,c0,c2,c4,c5,?_,?_,aM,?_,?_,?_,(lc.same sd).upd,?_,?_}
    .rw[Rl,V6,et];omega
    .rw[a1,eu,List.reverse_append,UT]
    .rw[Rl,V6];omega
    .rcases Rc.mp hx with z|z
     .show an x^Q2 _ z
     .show{f5 x z,hG.rs w dc x z}
    .rw[aE bg];show a8 _ _ a2
    .rw[b3];show bx.mono^a8.but _
    .rw[b3,Rl];show(a5.mono^a8.but _).append ew
    .rw[aE bh];show a8 _ _ bi
    .show λb u hb e=>by rw[aE λz=>by rw[z,HU]at e;cases e];show a8 _ _^Ka b u hb e
    .rw[b3];show ev.trans^sd.but _
    .rw[b3];show((Ec.same sd).drop 7).drop 6
end
end cf
namespace cf
open PySem L2 FL
section
variable {P:qj}{w:pa}{K:kc}{mg:Str->Option wj}{base:rl}{f:vb}{fd:mu}
def sV:cb ["self","facts","fact","found","number","loom"] ["self","facts"]^bH wq:=`b
def Jw(F:bB K "one_round" "Weaving.one_round" wq f fd)(TL:nl K CL)(TW:sy K CW)(B:Bl mg)(a1:jB P w K mg base 4 CL "take_in" ["self","facts"]^DQ C CL)(an:jB P w K mg base 5 CW "given_by" ["self","number","loom"]^C6 C CL CW):bw P w K mg base bO 6 f fd ["self","facts"]^C7 C CL CW:=by
 show F.ok sV (λvs H Q E q0=>by let{_,_,_,_,_,_,_,_,_,_,_,_,_,e,_}:=q0;rw[e];rfl) λhp A ft s H vs Q E hr h=>?_;let{Z,a,dx,vr,ll,td,us,ab,I,l,T,c,v1,rfl,lv,ha,fv,b1,d5,ea,fx,rr,r1,hO,q}:=h;let f0:=fH hr;let a9:=TL.cl;let ao:=TW.cl;show⟨_,(aC (cV Rf A2 (cG^pv 1) (bC 2 sV.nd)^az^jW f0 (eD (pv 0) A2) (pv 2) cO A2)
   (aC (bf 3 sV.nd^dA aq)
   (aC (cV Rf A2 (Cu B.enumerate^ai (eD (pv 0) A2) aq) (mZ A2^fC (bC 4 sV.nd)^fC (bC 5 sV.nd) lh) (aC (jy^lT (pv 5) a9 a1 hr^ai (pv 1) aq)
   (az^jy^qe Sc TN UC xa (pv 3)^ai (lT (pv 0) ao an hr^ai (pv 4)^ai (pv 5) aq) aq)))
   (az^bz^pv 3)))),?_⟩
 let E0:aA (but H Z) (L2.start ["self","facts","fact","found","number","loom"] [.ref a,v1]) [bF,!(.lst^c.map D.tup),bF,bF,bF,bF]:=gO (.raw^.dat r1 .nil) _;let ec:∀g∈dN T c,gR g:=λg hg=>by
  rcases(zr c T g).mp hg with z|z
  .show hO.tok g z
  .show(hO.sL g z).2
 let bc:=hO.all;rw[Q7]at bc;show i6 (M:=Z) (ef^aI (i:=1) E0 A2) lv λH1 s1=>?_;show⟨λj O X=>X td=!(.dT^cZ^dN T^c.take j)/\(∀b u,b≠td->H b=!u->X b=!u)/\av Z X/\ae (but H1 Z)^but X Z/\O[0]?=!!.ref a/\aA (but X Z) O [bF,!(.lst^c.map D.tup),bF,bF,bF,bF],
  {s1 _ _ fx,λb u _ e=>s1 _ _ e,lv.same s1,ae.refl _,A2,E0.same s1},λj O X q3=>by let{_,_,x,y,_}:=q3;show{y,x},?_,?_⟩
 .rintro j d x O X X' hd ⟨ht,kX,lX,SX,j0,EX⟩ s2 rx
  rw[QY]at hd;let{g,hg,rfl}:=Ru.mp hd;let ed:=QT hg;let{lF,hs,rfl,h2,f1}:=rx.fS;let ee:=(ay h2).2;rw[oY (hO.sL g ed).2.1 f1]at ee;let f2:but H1 Z a=!(.ins CW dx^nJ vr ll td):=(s1.but Z) _ _ ha;let eg:=s2 _ _ (ay^SX _ _ f2).2;let f3:∀g∈dN T (c.take j),bV g:=λg hg=>by
   rcases(zr _ T g).mp hg with z|z
   .show(hO.tok g z).1
   .show(hO.sL g^Tr z).2.1
  let ca:=N5 T c j;show{.ref a,(QS Z1).trans j0,a,CW,dx,_,.ref td,A2,eg,TW.cl,TW.nT,A2,.ref lF,Q3 (by rw[EX.len];show(show 2<6 by decide)),td,_,A2,gK.t (s2 _ _ ht) ee (by rw[Go];show cH Z4),?_};rw[EW (hO.sL g ed).2.1 f3];let f4:c.take (j+1)=c.take j++[g]:=by rw[Rs,hg];rfl
  let eb:∀o,but (upd X' td o) Z=but X' Z:=λo=>eo d5;show{by rw[f4,J6];show aM,λb u hb e=>by rw[aE hb];show s2 _ _^kX b u hb e,(lX.same s2).upd,by rw[eb];show SX.trans^s2.but Z,(QS Z1).trans j0,?_};rw[eb];show(EX.same s2).off 2 _
 rintro hw H2 ⟨bd,k2,l2,S2,f5,E2⟩;rw[QP,Sd]at bd;let f6:ae (but H Z)^but H2 Z:=(s1.but Z).trans S2;clear S2 s1 H1;show pS (i:=3) l2 E2 Z8 ah (Rk _) λn vF f7 H3 o3 i3 n3 h3 r3 l3 k3 E3=>?_;let c2:ae H2 H3:=λx o e=>(k3 x o e).2;let a2:H2 n=bF:=none_of (ae.refl H2) k3;let ga:vF=[]:=by cases r3;rfl
 subst ga;let ei:f7[0]?=!!.ref a:=(o3 0 Z1).trans f5;let b2:ae (but H Z)^but H3 (n::Z):=f6.trans^jA a2 c2
 let a7:=b1.gw;let K3:∀b u,b≠td->H b=!u->H3 b=!u:=λb u hb e=>c2 _ _^k2 b u hb e
 let gb:H n=bF:=by
  cases qx:H n with
  |none=>rfl
  |some u=>
   by_cases z:n=td
   .rw[z,bd]at a2;cases a2
   .rw[k2 n u z qx]at a2;cases a2
 let ej:n≠td:=λz=>by rw[z,bd]at a2;cases a2
 let b3:=c2 _ _ bd;let dc:∀{x:vb},H3 x=bF->H x=bF:=λ{x} e=>by
  cases qx:H x with
  |none=>rfl
  |some u=>
   by_cases z:x=td
   .rw[z,b3]at e;cases e
   .rw[K3 x u z qx]at e;cases e
 let gd:dR C CL H3 (n::Z) us ab l:=b1.frame (λos N x G=>QM _^a7 os N x G) (λb u q4 e=>by let{os,N,hb}:=q4;show K3 b u (λz=>ea os N^by rw[<-z];show hb) e) b2;let hf:=hO.len;let ek:(gq I l c).length=l.length:=by
  unfold gq;rw[QP,List.length_zip];omega
 generalize hh:dN T c=T1 at ec bd b3 q bc;let cd:∀(j:Nat) r U,I[j]?=!r->l[j]?=!U->(gq I l c)[j]?=!(r.1,gI^cn U c):=λj r U e1 e2=>by
  unfold gq;rw[QY,(Vz (z:=(r,U))).mpr {e1,e2}];rfl
 generalize gh:gq I l c=L at ek q cd bc;let ca:∀j,bG 0 L T1=bG 0 (L.take j) T1++bG (0+(L.take j).length) (L.drop j) (T1++aJ^bG 0 (L.take j) T1):=λj=>by
  have:=Ad (L.take j) (L.drop j) 0 T1;rw[Tk]at this;show this
 let be:∀j,T1.length+(bG 0 (L.take j) T1).length<=1000:=λj=>by
  let e:=RF List.length^ca j
  rw[Q7]at e;let e2:(aJ^bG 0 L T1).length=(bG 0 L T1).length:=by unfold aJ;rw[QP]
  omega
 show uv (M:=n::Z) (CY (nD TW.cl TW.nL ei (b2 _ _ ha) A2)^b2 _ _ fv) l3 λH4 s4=>?_;show⟨λj J O X=>∃m uF,dR C CL X J us m ((l.take j).map (λU=>cn U c)++l.drop j)/\(∀os∈m,∀x∈os,(∃o∈ab,x∈o)\/H4 x=bF)/\(∀b u,b≠td->b≠n->(∀os∈ab,b∉os)->H4 b=!u->X b=!u)/\av J X/\(∀x∈n::Z,x∈J)/\(∀x∈J,x∈n::Z\/H4 x=bF)/\X td=!(.dT<|cZ<|T1++aJ^bG 0 (L.take j) T1)/\X n=!.lst uF/\aF (but X J) uF^(bG 0 (L.take j) T1).map cm/\ae (but H4 (n::Z))^but X J/\O[0]?=!!.ref a/\O[3]?=!!.ref n/\aA (but X J) O [bF,!(.lst^c.map D.tup),bF,bF,bF,bF],
  {ab,[],?_,λos N x G=>.inl {os,N,G},λb u _ _ _ e=>e,l3.same s4,λx G=>G,λx G=>.inl G,?_,s4 _ _ h3,.nil,ae.refl _,ei,i3,E3.same s4},λj J O X q5=>by let{_,_,_,_,_,x,_,_,_,_,_,y,_}:=q5;show{y,x},?_,?_⟩
 .change dR C CL H4 (n::Z) us ab ([]++l);rw[T4];show gd.frame (λos N x G=>QM _^a7 os N x G) (λb u _ e=>s4 _ _ e)^s4.but _
 .change H4 td=!(.dT<|cZ<|T1++[]);rw[Ro];show s4 _ _ b3
 .rintro j J x O X X' hj ⟨m,uF,a3,Y,kX,lX,am,bg,a8,bh,rF,SX,j0,j3,EX⟩ s5 ⟨TT,v,rfl,gl,hv⟩
  let dd:j<l.length:=by rw[<-b1.l1];show hj
  let bi:=QO dd;generalize em:l[j]=U at bi;let b4:=QO (show j<I.length by omega);generalize I[j]'(show j<I.length by omega)=ru at b4;let{hd,en}:=ru;let{R,sz,hG,hi}:=hO.give j _ U b4 bi;let{ep,gn,go}:=hO.dz U^QT bi
  show{TT,_,A2,bQ.of (ay gl).2,A2,_,[v],A2,v,[],A2,A2,?_};let eq:=lX.same s5;let ch:((l.take j).map (λU=>cn U c)++l.drop j)[j]?=!U:=by
   rw[Rn (by rw[QP,Rr];omega),QP,Rr,show j-min j l.length=0 by omega,List.getElem?_drop,Nat.add_zero];show bi
  let co:dR C CL X' J us m ((l.take j).map (λU=>cn U c)++l.drop j):=a3.frame a3.gw (λb u _ e=>s5 _ _ e)^s5.but _
  let{aj,b5,hu,er,es,cs}:=co.get j U ch;rw[hv]at hu;cases hu;let E5:aA (but X' J) ((O.set 4^!.int ((j:Nat):Int)).set 5^!.ref aj) [bF,!(.lst^c.map D.tup),bF,bF,!.int ((j:Nat):Int),bF]:=((EX.same s5).set 4 (.int _)).off 5 _;let et:=EX.len;let c0:((O.set 4^!.int ((j:Nat):Int)).set 5^!.ref aj)[0]?=!!.ref a:=(QS Z1).trans^(QS Z1).trans j0;let c3:((O.set 4^!.int ((j:Nat):Int)).set 5^!.ref aj)[3]?=!!.ref n:=(QS Z1).trans^(QS Z1).trans j3;let c4:((O.set 4^!.int ((j:Nat):Int)).set 5^!.ref aj)[4]?=!!.int ((j:Nat):Int):=(QS Z1).trans^Q3 (by rw[et];show(show 4<6 by decide));let c5:((O.set 4^!.int ((j:Nat):Int)).set 5^!.ref aj)[5]?=!!.ref aj:=Q3 (by rw[Sv,et];show(show 5<6 by decide));generalize (O.set 4^!V.int ((j:Nat):Int)).set 5 (!.ref aj)=τ at E5 c0 c3 c4 c5;let{eu,c1,gp}:=E5.get 1 _ A2;let{gs,h0,h4,gy,hk,hl,ev,hm}:=id es;show{.ref aj,c5,aj,gs,_,A2,gy,A2,eu,c1,J,b5,U,c,aj,eu,A2,eq,es,gp,λg hg=>(hO.sL g hg).1,go,ep,gn,λk X6 n6 k6 l6 L6=>?_};let g0:td∈J:=am td^QM _ d5;let ew:n∈J:=am n QQ;let ex:H4 td≠bF:=λz=>by rw[s4 _ _ b3]at z;cases z
  let ey:H4 n≠bF:=λz=>by rw[s4 _ _ h3]at z;cases z
  let bk:∀{y:vb},(∀o∈ab,y∉o)->H4 y≠bF->∀os∈m,y∉os:=λ{y} h1 h2 os N hy=>by
   rcases Y os N y hy with⟨o,af,w⟩|w
   .show h1 o af w
   .show h2 w
  let bl:=bk ea ex;let as:=bk (λo N z=>by have:=a7 o N n z;show n3 this) ey;let ac:=QT er;let bm:∀x∈k.flatten,x∈aj::b5.flatten\/X' x=bF:=λx G=>by
   let{os,N,hy}:=RE.mp G;rcases n6 os N x hy with⟨o,af,w⟩|w
   .show .inl^QM _^RE.mpr {o,af,w}
   .show .inr w
  let bs:∀b u,b∉aj::b5.flatten->X' b=!u->X6 b=!u:=λb u hb e=>k6 b u (λz=>hb^by rw[z];show QQ) (λos N z=>hb^QM _^RE.mpr {os,N,z}) e;let di:=co.put eq ch hv er QQ bm bs L6;let dn:ae (but X' J) (but X6<|k.flatten++J):=λb u e=>by
   let{q1,q2}:=ay e;rw[bv]
   .show bs b u (λz=>q1^cs b z) q2
   .intro z;rcases Rc.mp z with z|z
    .rcases bm b z with w|w
     .show q1^cs b w
     .rw[w]at q2;cases q2
    .show q1 z
  let ct:((l.take j).map (λU=>cn U c)++l.drop j).set j^cn U c=(l.take<|j+1).map (λU=>cn U c)++l.drop (j+1):=by
   let ez:((l.take j).map λU=>cn U c).length=j:=by rw[QP,Rr];omega
   rw[List.set_append_right _ _ Z4,ez,Wr,Tl dd,List.set_cons_zero,Rs,QO dd,Rl,RI,em];rfl
  rw[ct]at di;let e0:X6 td=!(.dT<|cZ<|T1++aJ^bG 0 (L.take j) T1):=bs _ _ (bl _ ac)^s5 _ _ a8
  let bt:X6 n=!.lst uF:=bs _ _ (as _ ac)^s5 _ _ bh
  let E6:=E5.mono dn;let e5:ae (but H4 (n::Z)) (but X6<|k.flatten++J):=SX.trans^(s5.but _).trans dn
  let dp:ae (but H Z) (but X6<|k.flatten++J):=b2.trans^(s4.but _).trans e5
  let e6:=rF.mono^(s5.but _).trans dn
  obtain ⟨Mg,a0⟩:∃Mg:ZX,∀x,x∈Mg↔x∈k.flatten++J/\x∉aj::k.flatten:={(k.flatten++J).filter λx=>fT (x∉aj::k.flatten),λx=>by rw[Q4,Tu]}
  let a4:∀x∈Mg,x∈k.flatten++J:=λx G=>((a0 x).mp G).1;let e7:ae (but X6<|k.flatten++J)^but X6 Mg:=fe a4;let g1:jT C CL (but X6 Mg) (.ref aj)^cn U c:=L6.rep a4 (λz=>((a0 aj).mp z).2 QQ) λos N x G z=>((a0 x).mp z).2<|QM _^RE.mpr {os,N,G}
  let bx:∀{y:vb},X' y≠bF->y∉aj::b5.flatten->y∉aj::k.flatten:=λ{y} h1 h2 z=>by
   rcases QZ.mp z with w|w
   .show h2 (by rw[w];show QQ)
   .rcases bm y w with u|u
    .show h2 u
    .show h1 u
  let a5:td∈Mg:=(a0 td).mpr {Q1 _ g0,bx (λz=>by rw[s5 _ _ a8]at z;cases z)^bl _ ac};let cv:n∈Mg:=(a0 n).mpr {Q1 _ ew,bx (λz=>by rw[s5 _ _ bh]at z;cases z)^as _ ac};let ds:∀g∈T1++aJ (bG 0 (L.take j) T1),gR g:=λg hg=>by
   rcases Rc.mp hg with z|z
   .show ec g z
   .let{y,hy,rfl}:=Q6.mp z;let{_,i,qq,hq,_,ww,dt,e1,_}:=uc _ _ _ y hy;let d0:(gq I l c)[i]?=!qq:=by
     rw[gh];let g2:=(QN.mp hq).1;rw[Rr]at g2;rw[RW Z4]at hq;show hq
    unfold gq at d0;rw[QY]at d0;let{{r',g3},hz,rfl}:=Ru.mp d0;let{e3,e4}:=Vz.mp hz;let{R',h5,G',_}:=hO.give i r' g3 e3 e4;rw[e1];show G'.qJ ww dt
  let h6:τ.length=6:=E5.len;show⟨.ref n,c3,(show iZ K "list" (.ref n) _ from .inl {A2,uF,aU.of bt}),.ref a,c0,a,dx,_,A2,(ay^dp _ _ ha).2,A2,.int ((j:Nat):Int),c4,.ref aj,c5,Mg,cn U c,a,dx,vr,ll,td,I,j,hd,en,T1++aJ^bG 0 (L.take j) T1,R,sz,.ref aj,A2,λx G=>l6 x^a4 x G,(dp.trans e7) _ _ ha,a5,e0,ds,rr.mono^dp.trans e7,b4,g1,?_,hG,?_,λp b6 X7 k7 e8 g4 r7 fa=>?_⟩
  .change((U.steps).map _).length<=100;rw[QP];show ep
  .have:=be j;let e2:(aJ^bG 0 (L.take j) T1).length=(bG 0 (L.take j) T1).length:=by unfold aJ;rw[QP]
   rw[Q7,e2];have:se=16777216:=by decide
   omega
  let fb:=cd j _ U b4 bi;let g5:L.take (j+1)=L.take j++[(hd,gI^cn U c)]:=by rw[Rs,fb];rfl
  let d1:(L.take j).length=j:=by rw[Rr];omega
  let b0:bG 0 (L.take<|j+1) T1=bG 0 (L.take j) T1++cY hd j (gI^cn U c) (T1++aJ^bG 0 (L.take j) T1):=by
   rw[g5,Ad,d1,Tc];change _++(cY hd j _ _++[])=_;rw[Ro]
  let h7:n≠p:=λz=>by rw[<-z,bt]at e8;cases e8
  let fl:X7 n=!.lst uF:=k7 _ _ ej bt;let b7:=be<|j+1
  rw[b0,Q7]at b7;let g6:=r7.length;rw[QP]at g6;let g7:=e6.length;rw[QP]at g7;show{n,p,uF,b6,A2,A2,fl,g4,Sf^cH Z4,?_};let L7:dR C CL X7 (k.flatten++J) us (m.set j (aj::k.flatten)) ((l.take<|j+1).map (λU=>cn U c)++l.drop (j+1)):=by
   let d2:∀os∈m.set j (aj::k.flatten),td∉os:=λos N=>by
    rcases Tn N with w|w
    .show bl os w
    .rw[w];show((a0 td).mp a5).2
   show di.frame di.gw (λb u q6 e=>by let{os,N,hb}:=q6;show k7 b u (λz=>d2 os N^by rw[<-z];show hb) e) λb u e=>?_;let{q1,q2}:=ay e;rw[bv q1];show k7 b u (λz=>q1^by rw[z];show a4 td a5) q2
  let d3:ae (but X6<|k.flatten++J) (but X7<|k.flatten++J):=λb u e=>by
   let{q1,q2}:=ay e;rw[bv q1];show k7 b u (λz=>q1^by rw[z];show a4 td a5) q2
  let fn:n∈k.flatten++J:=a4 n cv;let eb:but (upd X7 n (.lst<|uF++b6)) (k.flatten++J)=but X7 (k.flatten++J):=eo fn;let g8:∀x∈aj::k.flatten,∀ts,X7 x≠!.tup ts:=by
   let g9:=L7.get j (cn U c) (by
    rw[<-ct,Q3^by rw[Q7,QP,Rr,Uu];omega])
   let{a',hn,_,e2,A',_}:=g9;rw[Q3^by rw[a3.l2,Q7,QP,Rr,Uu];omega]at e2;let e2:=Q5 e2;rw[e2];show A'.HV
  let hc:aF (but X7<|k.flatten++J) b6^(cY hd j (gI^cn U c)<|T1++aJ^bG 0 (L.take j) T1).map cm:=by
   let h1:=r7.mono^fe (H:=X7) (M:=Mg) (M':=p::Mg) λx G=>QM _ G
   let h2:=aF.sE g8 (ym λd he=>by
    let{y,hy,rfl}:=Q6.mp he;let{_,_,ww,dt,e1,_}:=sC _ _ y hy;show wN y^by rw[e1];show(hG.qJ ww dt).1) h1
   rw[mn (M':=k.flatten++J)]at h2
   .show h2
   .intro x;rw[Rc];constructor
    .rintro(w|w)
     .rcases QZ.mp w with z|z
      .rw[z];show Q1 _ ev
      .show Q2 _ z
     .show a4 x w
    .intro w;by_cases z:x∈aj::k.flatten
     .show .inl z
     .show .inr^(a0 x).mpr {w,z}
  let fo:∀{x:vb},X' x=bF->(∃o∈ab,x∈o)\/H4 x=bF:=λ{x} e=>by
   by_cases z:∃o∈ab,x∈o
   .show .inl z
   .cases qx:H4 x with
    |none=>show .inr A2
    |some u=>
     by_cases z1:x=td
     .rw[z1,s5 _ _ a8]at e;cases e
     .by_cases z2:x=n
      .rw[z2,s5 _ _ bh]at e;cases e
      .have:=s5 _ _^kX x u z1 z2 (λo N G=>z {o,N,G}) qx;rw[e]at this;cases this
  show{k.flatten++J,m.set j (aj::k.flatten),uF++b6,?_,λos N x G=>?_,λb u hb b8 fp e=>?_,?_,λx G=>Q1 _^am x G,λx G=>?_,?_,aM,?_,?_,c0,c3,?_}
  .let d4:∀os∈m.set j (aj::k.flatten),n∉os:=λos N=>by
    rcases Tn N with w|w
    .show as os w
    .rw[w];show((a0 n).mp cv).2
   show L7.frame L7.gw (λb u ⟨os,N,hb⟩ e=>?_) (by rw[eb];show ae.refl _);rw[aE λz=>d4 os N^by rw[<-z];show hb];show e
  .rcases Tn N with w|w
   .show Y os w x G
   .rw[w]at G
    rcases QZ.mp G with z|z
    .show Y _ ac x (by rw[z];show QQ)
    .rcases bm x z with y|y
     .show Y _ ac x y
     .show fo y
  .rw[aE b8]
   show k7 b u hb^bs b u (λz=>?_)^s5 _ _^kX b u hb b8 fp e
   rcases Y _ ac b z with⟨o,af,w⟩|w
   .show fp o af w
   .rw[e]at w;cases w
  .have:av (k.flatten++J) X7:=λx G z=>by
    cases qx:X6 x with
    |none=>show l6 x G qx
    |some u=>
     by_cases w:x=td
     .rw[w,fa]at z;cases z
     .rw[k7 x u w qx]at z;cases z
   show this.upd
  .rcases Rc.mp G with z|z
   .rcases bm x z with y|y
    .rcases Y _ ac x y with⟨o,af,w⟩|w
     .show .inl^QM _^a7 o af x w
     .show .inr w
    .rcases fo y with⟨o,af,w⟩|w
     .show .inl^QM _^a7 o af x w
     .show .inr w
   .show bg x z
  .rw[aE^RG ej,fa,b0,qH,RI]
  .rw[eb,b0,Rl]
   show(e6.mono d3).append hc
  .rw[eb];show e5.trans d3
  .rw[eb]
   show((E6.mono d3).drop 4)
 .rintro J O X ⟨m,uF,a3,Y,kX,lX,am,bg,a8,bh,rF,SX,j0,j3,EX⟩
  let fr:us.length=l.length:=b1.l1;rw[fr,Sd,List.drop_length,Ro]at a3;rw[fr,<-ek,Sd]at a8 rF;show{.ref n,j3,?_};let a6:∀{x:vb},H4 x=bF->H x=bF:=λ{x} e=>dc^iW s4 e
  let ew:n∈J:=am n QQ;let as:∀os∈m,n∉os:=λos N hy=>by
   rcases Y os N n hy with⟨o,af,w⟩|w
   .show n3^a7 o af n w
   .rw[s4 _ _ h3]at w;cases w
  let Zs:∀x∈J.filter (λx=>fT<|x≠n),x∈J:=λx G=>(Q4.mp G).1;let fs:n∉J.filter^λx=>fT<|x≠n:=λz=>by simp at z
  show q (.ref n) X (J.filter λx=>fT<|x≠n) m (λb u hb b8 e=>?_) (λx G=>?_) (λx G=>?_) (λx G=>lX x^Zs x G) ?_ (λos N x G=>?_) a8 ?_
  .let nb:b≠n:=λz=>by rw[z,gb]at e;cases e
   show kX b u hb nb b8^s4 _ _^K3 b u hb e
  .show Q4.mpr {am x^QM _ G,Q9 λz=>?_}
   rw[z]at G;show n3 G
  .rcases bg x (Zs x G)with z|z
   .rcases QZ.mp z with w|w
    .rw[w]at G;show absurd G fs
    .show .inl w
   .show .inr^a6 z
  .show a3.frame (λos N x G=>Q4.mpr {a3.gw os N x G,Q9 λz=>as os N^by rw[<-z];show G}) (λb u _ e=>e)^fe Zs
  .rcases Y os N x G with z|z
   .show .inl z
   .show .inr^a6 z
  .show .lst (by rw[bv fs];show bh)^rF.mono^fe Zs
end
end cf
namespace cf
open PySem L2 FL
section
variable {P:qj}{w:pa}{K:kc}{mg:Str->Option wj}{base:rl}{f:vb}{fd:mu}
def Ke:cb ["self","rules"] ["self","rules"]^bH xK:=`b
def Oa(F:bB K "__init__" "Weaving.__init__" xK f fd)(J:sy K CW)(t:px P w K mg base 7 CL "Loom" ["self","body"]^yu C CL):bw P w K mg base bO 9 f fd ["self","rules"]^Gg C CL CW:=by
 show F.ok Ke (λvs H Q E q0=>by let{_,_,_,_,_,e,_}:=q0;rw[e];rfl) λao A ab s H vs Q E hr h=>?_;let{M,m,x,g,d,rfl,hx,lv,as,r1,au,a0,q}:=h;show{_,(aC (gr (pv 0) (pv 1) A2)
   (aC (gr (pv 0) (gt ["rule"] [] 1 (cG^pv 1) (λ_ _ _ _ _=>(bC 0^lI _)) (λ_ _ _ _ _=>j8) λ_ _ _ _ _=>(Lk t hr^ai (mS (pv 0) aD) aq)) A2)
   (az^gr (pv 0) vP A2))),?_}
 let ac:ap (but H (x::M)) d^.lst^m.map aR:=ap.fO hx A2 r1;show{d,A2,.ref x,A2,x,CW,g,[],A2,hx,J.cl,J.nR,(show 0<1000 by decide),?_};let N:but (upd H x^.ins CW g^dw "rules" d []) (x::M)=but H (x::M):=eo QQ;let l1:av (x::M)^upd H x^.ins CW g^dw "rules" d []:=(lv.upd).cons aM;let E1:aA (but (upd H x^.ins CW g^dw "rules" d []) (x::M)) (L2.start ["self","rules"] [.ref x,d]) [bF,!(.lst^m.map aR)]:=by
  rw[N];show gO (.raw^.dat ac .nil) _
 let n:(upd H x^.ins CW g^dw "rules" d []) x=!(.ins CW g^dw "rules" d []):=aM;let K1:∀b u,b≠x->H b=!u->(upd H x^.ins CW g^dw "rules" d []) b=!u:=λb u r e=>by rw[aE r];show e
 let N1:∀{b:vb},(upd H x^.ins CW g^dw "rules" d []) b=bF->H b=bF:=λ{b} e=>by
  cases qb:H b with
  |none=>rfl
  |some u=>
   by_cases z:b=x
   .rw[z,n]at e;cases e
   .rw[K1 b u z qb]at e;cases e
 generalize upd H x^.ins CW g^dw "rules" d []=H1 at N l1 E1 n K1 N1;show Jb (M:=x::M) (ef^aI E1 A2) l1 au Z4 λD us o L k2 B O hn l2 af=>?_;let aj:=k2 _ _ n;let am:x≠D:=λz=>by rw[<-z,n]at B;cases B
 show{.ref x,A2,x,CW,g,_,A2,aj,J.cl,J.nL,(show 1<1000 by decide),λi j=>{.ref x,A2,x,CW,g,[("rules",d),("looms",.ref D)],A2,?_,J.cl,J.nT,(show 2<1000 by decide),?_}}
 .rw[aE λz=>by rw[<-z,aM]at j;cases j]
  show aM
 let T:i≠x:=λz=>by rw[z,aM]at j;cases j
 let a:L i=bF:=by rw[aE T]at j;show j
 let U:i≠D:=λz=>by rw[z,O]at a;cases a
 let Y:∀{b:vb},L b=bF->H b=bF:=λ{b} e=>N1^iW (λc u q=>k2 c u q) e
 let k:∀b,(upd (upd (upd L x^.ins CW g^dw "looms" (.ref D)^dw "rules" d []) i^.dT []) x^.ins CW g^dw "told" (.ref i) [("rules",d),("looms",.ref D)]) b=if b=x then !(.ins CW g^nJ d D i)else if b=i then !.dT []else L b:=λb=>by
  by_cases z:b=x
  .rw[Q0 z,z];show aM
  .rw[QV z,aE z]
   by_cases v:b=i
   .rw[Q0 v,v];show aM
   .rw[QV v,aE v,aE z]
 generalize upd (upd (upd L x^.ins CW g^dw "looms" (.ref D)^dw "rules" d []) i^.dT []) x^.ins CW g^dw "told" (.ref i) [("rules",d),("looms",.ref D)]=H5 at k;let G:∀os∈o,∀y∈os,y≠x/\y≠i:=λos l y p=>by
  show{λz=>?_,λz=>?_}
  .have:=(hn os l y p).1;rw[z,n]at this;cases this
  .show l2 y (Q2 _^RE.mpr {os,l,p}) ?_
   rw[z];show a
 let I:∀b u,b≠x->L b=!u->H5 b=!u:=λb u r e=>by
  rw[k,QV r,QV λz=>by rw[z,a]at e;cases e];show e
 let a1:i∉M:=λz=>lv i z^Y a
 let a2:x∉o.flatten:=λz=>by
  let{os,l,p}:=RE.mp z;show(G os l x p).1 A2
 show q D i us o H5 (λb u r e=>I b u r^k2 _ _^K1 b u r e) (by rw[k,Q0 A2]) (Y a) (by rw[k,QV T,Q0 A2]) (λos l y p=>{N1 (hn os l y p).1,(G os l y p).2}) ?_ (λb r z=>?_) ?_
 .rw[bv,k,QV^RG am,QV^RG U]
  .show O
  .intro z;rcases QZ.mp z with w|w
   .show U w.symm
   .rcases Rc.mp w with w|w
    .let{os,l,p}:=RE.mp w;show(hn os l D p).2 A2
    .show lv D w^N1 B
 .rw[k]at z
  by_cases z1:b=x
  .rw[Q0 z1]at z;cases z
  .rw[QV z1]at z
   by_cases v:b=i
   .rw[Q0 v]at z;cases z
   .rw[QV v]at z
    rcases QZ.mp r with w|w
    .show v w
    .show l2 b ?_ z
     rcases Rc.mp w with w|w
     .show Q2 _ w
     .show Q1 _^QM _ w
 .show af.frame (λos l y p=>QM _^Q2 _^RE.mpr {os,l,p}) (λb u q3 e=>by let{os,l,r}:=q3;show I b u (G os l b r).1 e) λb u e=>?_
  let{q1,q2}:=ay e;let an:b≠x:=λz=>q1^Q1 _ (by rw[z];show QQ);rw[bv]
  .show I b u an q2
  .intro z;rcases QZ.mp z with w|w
   .rw[w,a]at q2;cases q2
   .rcases Rc.mp w with w|w
    .show q1^Q2 _ w
    .show q1^Q1 _^QM _ w
end
end cf
namespace cf
open PySem L2 FL
section
variable {P:qj}{w:pa}{K:kc}{mg:Str->Option wj}{base:rl}{f:vb}{fd:mu}
def JV:cb ["_law_script","_law_k"] ["_law_script","_law_k"]^bH zI:=`b
def Lh (F:bB K "_law_at" "_law_at" zI f fd)(B:Bl mg):bw P w K mg base bO 1 f fd ["_law_script","_law_k"]^bI sY:=by
 show F.ok JV (eF (n:=2) λo d p=>by let{l,k,e,_}:=p;rw[e];rfl) λr A b s H I Q E t h=>?_;let{M,o,d,u,x,{l,k,rfl,y,rfl},q}:=h;let J:=d8 t;show{_,(aC (cc (cA ny (pv 1)^cy B^pv 0) (az^bz^aY (pv 0)^pv 1) cw)
   (az^bz aD)),?_}
 let E0:=iA x ["_law_script","_law_k"];show jG u E0 (cz^ni (aI E0 A2)^dW^aa (aI E0 A2) ah) (λe j c m g=>?_) λe j c m g=>?_
 .let a:=Q8 e;let i:l[k.toNat]?=!nV l k:=by
   unfold nV;rw[Q0 a,List.getD,QO Z4];rfl
  show eZ m (c7 (jK y i) (aI g A2)^aI g A2) λv z C G=>q v z (c.trans C) G
 .let a:=RK e;let i:nV l k=.int 0:=by unfold nV;rw[QV a]
  rw[i]at q;show q (.int 0) j c^.int 0
def Mr:cb ["_law_found"] ["_law_found"]^bH xH:=`b
def GY (F:bB K "_law_whole" "_law_whole" xH f fd)(B:Bl mg):bw P w K mg base bO 1 f fd ["_law_found"]^bI qd:=by
 show F.ok Mr (eF (n:=1) λb d c=>by let{x,e,_}:=c;rw[e];rfl) λg A a s H k Q E l h=>?_;let{M,b,d,i,j,{x,rfl,rfl},q}:=h;show{_,(az^bz^jI (gS B (pv 0) B.int U0)^lR^wT^gS B (pv 0) B.bool PyProof.Rows.boot_bool),?_};let E0:=iA j ["_law_found"];show eZ i (fh (qv^aI E0 A2) λ_=>Ae^LH^aI E0 A2) q
def HC:cb ["_law_script"] ["_law_script"]^bH yr:=`b
def NZ (F:bB K "_law_mixed" "_law_mixed" yr f fd)(B:Bl mg):bw P w K mg base bO 1 f fd ["_law_script"]^bI CH:=by
 show F.ok HC (eF (n:=1) λz d C=>by let{x,e,_}:=C;rw[e];rfl) λG A b s H u Q E hr h=>?_;let{M,z,d,I,J,{a,rfl,L,rfl},q}:=h;show{_,(az^bz^gt ["_law_script","_law_k"] [0] 1 (og A2 B.range^ai (cy B^pv 0) aq) (λ_ _ _ _ _=>(bC 1 (show(["_law_script","_law_k"]:ZY).Nodup from by decide+kernel))) (λ_ _ _ _ _=>j8) λ_ _ _ _ _=>(cU eY (cU BZ (cU lD (mS (pv 0)^pv 1)^cU BZ aD^pv 1) aD) aD)),?_};let E0:=iA J ["_law_script"];let{N,c,O}:=E0.get 0 _ A2;letI g:D->D:=λd=>match d with
  |.int j=>.int<|(a.getD j.toNat 0+7919*j)*48271%1000003
  |_=>.aw
 let m:=iC (caps:=bo [0] 1) (i:=1) (p:=λ_=>bU) (f:=g) (tt:=nu) (te:=bT (rI (λ_ j=>0<j) λi j=>.int<|i%j) (bT (rI pb λi j=>.int<|i*j) (bT (ie λi j=>.int<|i+j) (bT (eP K) (aW 0)^aW 1)^bT (rI pb λi j=>.int<|i*j) (tC^.int 7919)^aW 1)^tC (.int 48271))^tC (.int 1000003))
  (Fw (n:=a.length) Z4^aa ((dW (K:=K) (l:=a.map D.int)^aa (aI (i:=0) E0 A2) ah).eq Z8) ah)
  (λT v d _ _ _=>kS) (λT v d U Y _ r=>?_) (by simp only[QP,Sb];show cH Z4)
 .show eZ I (m.eq ?_) q
  let e1:(List.filter (λ_=>bU)^(List.range a.length).map λ(k:Nat)=>D.int<|0+k)=(List.range a.length).map λ(k:Nat)=>D.int (0+k):=RM.mpr λ_ _=>A2;rw[e1];change D.lst _=D.lst _;congr 1;unfold oH;rw[Rz,Rz];show Rq λk _=>?_;change D.int ((a.getD (0+(k:Int)).toNat 0+7919*(0+(k:Int)))*48271%1000003)=D.int _;let o:(0+(k:Int)).toNat=k:=by omega
  rw[o,Int.zero_add]
 .let{k,hk,rfl}:=Q6.mp Y;let t:k<a.length:=TD.mp hk;let h0:((bo [0] 1^L2.start ["_law_script"] u).set 1^!v)[0]?=!!N:=by simp[bo,c]
  let y:((bo [0] 1^L2.start ["_law_script"] u).set 1^!v)[1]?=!!v:=by simp[bo]
  let ix:dI (a.map D.int) (0+(k:Int))=!(.int^a.getD (0+(k:Int)).toNat 0):=by
   let o:(0+(k:Int)).toNat=k:=by omega
   show jK Z4 ?_;rw[o,QY,List.getD,QO t];rfl
  show eW Z1 (DC (.inr {by decide,by decide}) (nq (c7 ix (de h0^O.mono U)^de y r)^DC (.inl {by decide,by decide}) ar^de y r) ar) ar
def Cf:cb ["_law_found","_law_part"] ["_law_found"]^bH wF:=`b
def KW (F:bB K "_law_is_fact" "_law_is_fact" wF f fd)(B:Bl mg)(a:bP P w K mg base 1 "_law_whole" ["_law_found"]^bI qd):bw P w K mg base bO 2 f fd ["_law_found"]^bI BQ:=by
 show F.ok Cf (eF (n:=1) λt d u=>by let{_,e,_}:=u;rw[e];rfl) λy A k s H T Q E p h=>?_;let{M,t,d,C,I,{_,rfl,{r,l,rfl,J},rfl},q}:=h;let L:=d8 p;show⟨_,(aC (cc (fM (d7^cS^gS B (pv 0) B.tuple RZ)^fM (cA (fA^by show L) (cy B^pv 0) aD)^iw^d7^cS^gS B (aY (pv 0) aD) B.str Ud).pt (az^bz cO) cw)
   (aC (cV Rf A2 (cG^pv 0) (bC 1 Cf.nd)^az^cc (kz (d7^cS^gS B (pv 1) B.str Ud)^kO^d7^cS^bL a p^ai (pv 1) aq).pt (az^bz cO) cw)
   (az^bz cO))),?_⟩
 let N:Bx H M [] _ H [Sl.d^.tup (.str r::l),.no]:=gg C I ["_law_found","_law_part"];show aP.run N ?_;show gP (λG m e=>fy (b:=fF) (c:=fF) (bu.eq (dY^cM^oZ^e.v A2) A2) λ_=>fy (b:=fF) (c:=fF) (bu.eq (cz^jR (gv (K:=K)^aa `c ah) ar)^Ri (by simp;omega)) λ_=>bu.eq (dY^cM^mh^bS (ds:=.str r::l) (d:=.str r) iq `c ar) A2) ?_;show bp^fI (i:=1) (c8.of λG m e=>im^e.vd A2) (λ_ g=>∃s,g=[Sl.d^.tup (.str r::l),s]) {_,A2} (λU Y hk j x g O o=>?_) λg o=>?_
 .let{s,rfl}:=o;let cC:x.sc=bU:=by
   rcases QZ.mp (QT O)with z|z
   .rw[z];rfl
   .show J x z
  show eA (b:=fF) (λG m e=>bu.eq (mi (dY^cM^mh^e.v A2) λ_=>dY^cM^bR {x,A2,A2}^aa `c ah)^BS cC) (λz=>nomatch z) λ_=>fq^dO {_,A2}
 .let{s,rfl}:=o;dsimp only;show fc (λG m e=>iR (b:=bU)) q
def tj:cb ["_law_atoms","_law_blanks","_law_atom","_law_part"] ["_law_atoms"]^bH yl:=`b
def Pj (F:bB K "_law_blanks_in" "_law_blanks_in" yl f fd)(B:Bl mg):bw P w K mg base bO 1 f fd ["_law_atoms"]^bI CV:=by
 show F.ok tj (eF (n:=1) λds d q0=>by let{_,e,_}:=q0;rw[e];rfl) λan A T s H vs Q E hr h=>?_;let{M,ds,d,lv,rs,{g,rfl,t,rfl},q}:=h;let hu:=d8 hr;show{_,(aC (bf 1 tj.nd^dA aq)
   (aC (cV Rf A2 (cG^pv 0) (bC 2 tj.nd)^az^cV Rf A2 (cG^pN tH (pv 2) (oA aD) sS) (bC 3 tj.nd)^az^cc (kz (cA (zG hu) (pv 3)^eG^ai eU^ai eU^ai eU aq)^kO^cA (xB hu) (pv 3)^pv 1).pt (az^jU (pv 1)^pv 3) cw)
   (az^bz^pv 1))),?_}
 let b0:Bx H M [] _ H [Sl.d^cB g,.no,.no,.no]:=gg lv rs ["_law_atoms","_law_blanks","_law_atom","_law_part"];show aP.run b0^bp^sv (i:=1) ?_
 let dz:∀(u:ZW) (l:ZZ) (j:Nat),u.length<=100->(∀a∈u,a.length<=10)->l.length<=10->(al (ba [] u)^l.take j).length<=1010:=λu l j h1 h2 h3=>by
  let g1:=EO (B:=[]) h2;let g2:=mv (l.take j)^ba [] u
  rw[Rr]at g2;rw[SI]at g1;omega
 show bp^fI (i:=2) (ds:=g.map D.tup) (c8.of λG O e=>im^e.vd A2) (λj m=>∃U p,m=[Sl.d^cB g,.l^(ba []^g.take j).map D.str,U,p]) {_,_,A2} (λB' sB hk j x m hj r=>?_) λm r=>?_
 .let{U,p,rfl}:=r;rw[QY]at hj;let{a,ha,rfl}:=Ru.mp hj;let o:=QT ha;let{C,Y}:=t.ne a o;let ab:=t.dz.2 a o;obtain ⟨y,l,rfl⟩:∃y l,a=y::l:=by
   cases a with
   |nil=>show absurd A2 C
   |cons y l=>show{y,l,A2}
  let I:l.length<=10:=by rw[Rw]at ab;omega
  let J:ba [] (g.take<|j+1)=al (ba []^g.take j) l:=by rw[IU g j ha,Nw C Y];rfl
  let ac:∀z∈g.take j,z∈g:=λz hz=>Tr hz;let af:(g.take j).length<=100:=by rw[Rr];have:=t.dz.1;omega
  show fI (i:=3) (ds:=l) (c8.of λG O e=>im^tD (k:=1) (l:=y::l) Z1 (Nat.succ_pos _)^e.vd A2) (λi m=>∃p,m=[Sl.d^cB g,.l^(al (ba []^g.take j)^l.take i).map D.str,.d^.tup (y::l),p]) {_,A2} (λB2 ao a0 i x aj hx r=>?_) λaj r=>?_
  .let{p,rfl}:=r;let L:x∈l:=QT hx;let cC:=t.sc _ o x^QM _ L;let N:aG x=fT (x∈dv):=t.bl _ o x L;let c:=Me (B:=ba []^g.take j) hx;let hf:=dz (g.take j) l i af (λz hz=>t.dz.2 z^ac z hz) I;generalize al (ba []^g.take j)^l.take i=Bj at c hf;rw[Pu _ _ cC,N]at c;show eA (b:=fT (x∈dv)&& not^fT (x∈Bj.map D.str)) (λG O e=>mi (cz^AK (λy hy=>fm ((by decide:∀y∈dv,y.sc=bU) y hy) cC) `c^aV (ds:=dv) (aa aK^aa aK^aa aK ah) Z1) λ_=>cz^zl (λy hy=>by let{b,_,rfl}:=Q6.mp hy;show fm A2 cC) `c^e.v A2) (λz=>?_) λz=>?_
   .rw[Q0 z]at c
    let am:x=.str x.name:=by
     show jD ?_;rw[N];show(Ss.mp z).1
    show t9 (j:=1) (d:=x) A2 (λG O e=>e.v A2) (ql cC) (by rw[QP];show TY hf Z1) ?_;rw[show Bj.map D.str++[x]=(Bj++[x.name]).map D.str by rw[Rl,am];rfl,<-c];show dO {_,A2}
   .rw[QV^by rw[z];show QW]at c
    rw[<-c];show fq^dO {_,A2}
  .let{p,rfl}:=r;rw[Sd,<-J];show dO {_,_,A2}
 .let{U,p,rfl}:=r;rw[QP,Sd];show fc (λG O e=>e.v A2) q
def Gw:cb ["_law_found","_law_count","_law_most","_law_place"] ["_law_found","_law_count","_law_most"]^bH x6:=`b
def Ho (F:bB K "_law_places_fit" "_law_places_fit" x6 f fd)(B:Bl mg)(a:bP P w K mg base 1 "_law_whole" ["_law_found"]^bI qd):bw P w K mg base bO 2 f fd ["_law_found","_law_count","_law_most"]^bI CP:=by
 show F.ok Gw (eF (n:=3) λt d u=>by let{_,_,_,e,_}:=u;rw[e];rfl) λy A k s H Y Q E r h=>?_;let{M,t,d,C,I,{l,n,m,rfl,J,L,rfl},q}:=h;let N:=d8 r;show{_,(aC (cc (fM (d7^cS^gS B (pv 0) B.tuple RZ)^iw^cA (gc^by show N) (cy B^pv 0)^pv 1).pt (az^bz cO) cw)
   (aC (cV Rf A2 (cG^pv 0) (bC 3 Gw.nd)^az^cc (fM (d7^cS^bL a r^ai (pv 3) aq)^fM (cA ny (pv 3) aD)^iw^cA uW (pv 3)^pv 2).pt (az^bz cO) cw)
   (az^bz cO))),?_}
 let O:Bx H M [] _ H [Sl.d^on l,.d^.int n,.d^.int m,.no]:=gg C I ["_law_found","_law_count","_law_most","_law_place"];show aP.run O ?_;show gP (λG o e=>fy (b:=fF) (c:=fF) (bu.eq (dY^cM^oZ^e.v A2) A2) λ_=>bu.eq (cz^lN (gv (K:=K)^aa `c ah)^e.v A2)^by rw[QP,J];simp) ?_;show bp^fI (i:=3) (ds:=l.map λn=>D.int (n:Nat)) (c8.of λG o e=>im^e.vd A2) (λ_ g=>∃s,g=[Sl.d^on l,.d^.int n,.d^.int m,s]) {_,A2} (λB' sB hk j x g T p=>?_) λg p=>?_
 .let{s,rfl}:=p;let{i,U,rfl}:=Q6.mp^QT T;have:=L i U;show eA (b:=fF) (λG o e=>fy (b:=fF) (c:=fF) (bu.eq (dY^cM^bR {_,A2,A2}^aa `c ah) A2) λ_=>fy (b:=fF) (c:=fF) (bu.eq (cz^ni `c ar)^Ri Z4) λ_=>bu.eq (cz^tM `c^e.v A2)^Ri Z4) (λz=>nomatch z) λ_=>fq^dO {_,A2}
 .let{s,rfl}:=p;dsimp only;show fc (λG o e=>iR (b:=bU)) q
def zS:cb ["_law_script","_law_seed","_law_pools"] ["_law_script"]^bH yY:=`b
def Op (F:bB K "_law_pool_by" "_law_pool_by" yY f fd)(B:Bl mg)(a:bP P w K mg base 1 "_law_at" ["_law_script","_law_k"]^bI sY):bw P w K mg base bO 2 f fd ["_law_script"]^bI w8:=by
 show F.ok zS (eF (n:=1) λo d p=>by let{_,e,_}:=p;rw[e];rfl) λr A k s H O Q E g h=>?_;let{M,o,d,t,u,{b,rfl,rfl},q}:=h;let x:=d8 g;show⟨_,(aC (cc (cA (fA^by show x) (cU eY (bL a g^ai (pv 0)^ai aD aq) aD) aD) (az^bz^gt ["_law_k"] [] 1 (og A2 B.range^ai aD aq) (λ_ _ _ _ _=>(bC 0^lI _)) (λ_ _ _ _ _=>j8) λ_ _ _ _ _=>(pv 0)) cw)
   (aC (bf 1 zS.nd^cU eY (bL a g^ai (pv 0)^ai aD aq) aD)
   (aC (bf 2 zS.nd^dA^ai (dA^ai eU^ai aD^ai eU aq)^ai (dA^ai eU^ai aD^ai (kG lg aD) aq)^ai (dA^ai (cU JI aD aD)^ai aD^ai (kG lg aD) aq) aq)
   (az^bz^aY (cU qB (pv 2)^dA^ai (dA^ai eU^ai (cU lD (pv 1) aD)^ai (cU vD (kG lg aD)^pv 1) aq) aq)^cU eY (cU iL (bL a g^ai (pv 0)^ai aD aq) aD) aD)))),?_⟩
 let y:Bx H M [] _ H [Sl.d^.lst^b.map D.int,.no,.no]:=gg t u ["_law_script","_law_seed","_law_pools"];show aP.run y^bp^eA (λG j e=>cz^jR (eW Z1 (bR (lE b 0)^aa `c^aa ar ah) ar) ar) (λz=>?_) λz=>?_
 .let m:gJ b=vo:=by unfold gJ;rw[Q0^Q8 z]
  rw[m]at q;show fc (λG j e=>ag.eq (e.comp (λ_=>bU) (λd=>d) (Fw (n:=10) Z1^aa ar ah) (λ_ _ _ _ _=>kS) (λT C d U _ I=>I.v A2)^cH Z8)^by rw[RM.mpr λ_ _=>A2,T5];rfl) q
 .let{d,J,L,N}:=fY (l:=mC<|b.getD 1 0%1000) (n:=4) (b.getD 0 0/4) Z1 A2;let{c,rfl,_}:=AC (Ve (b.getD 1 0)^show(1000:Int)≠0 by decide) d L;let m:gJ b=c:=by unfold gJ;rw[QV^RK z,<-N];rfl
  rw[m]at q;show fq ?_;dsimp only;show bp^dJ (i:=1) (d:=.int<|b.getD 1 0%1000) (λG j e=>eW Z1 (bR (lE b 1)^aa `c^aa ar ah) ar) A2 ?_
  show bp^ig (i:=2) (d:=.lst [.lst [.str "ashenashenashen",.int 0,.str "ashenashxnashen"],.lst [.str "ashenashenashen",.int 2,.int (-1)],.lst [.int^10^(30:Int).toNat,.int 0,.int (-1)]]) (λG j e=>fE^aa (fE^aa aK^aa ar^aa aK ah)^aa (fE^aa aK^aa ar^aa (mB ar) ah)^aa (fE^aa (JQ {by decide,by decide,by decide} ar ar)^aa ar^aa (mB ar) ah) ah) ?_
  show fc (λG j e=>c7 (ds:=mC<|b.getD 1 0%1000) J (qo (xs:=[.lst [.str "ashenashenashen",.int 0,.str "ashenashxnashen"],.lst [.str "ashenashenashen",.int 2,.int (-1)],.lst [.int^10^(30:Int).toNat,.int 0,.int (-1)]]) (ys:=[.lst [.str "qu",.int<|b.getD 1 0%1000+4,.int (-4-b.getD 1 0%1000)]]) (by change 3+1<=1000;decide) `c^fE^aa (fE^aa aK^aa (nq `c ar)^aa (tZ (mB ar)^e.v A2) ah) ah)^eW Z1 (iF {by decide,by decide} (bR (lE b 0)^aa `c^aa ar ah) ar) ar) q
end
end cf
namespace cf
open PySem L2 FL
section
variable {P:qj}{w:pa}{K:kc}{mg:Str->Option wj}{base:rl}{f:vb}{fd:mu}
def Ny:cb ["_law_atom","_law_things"] ["_law_atom","_law_things"]^bH yy:=`b
def M8 (F:bB K "_law_fill_in" "_law_fill_in" yy f fd)(B:Bl mg):bw P w K mg base bO 1 f fd ["_law_atom","_law_things"]^kh tL:=by
 show F.ok Ny (yT (n:=2) λds d q0=>by let{_,_,e,_}:=q0;rw[e];rfl)^λcdv A outer s H vs Q E hr h=>?_;let{M,ds,d,lv,rs,{a,S,rfl,hne,cC,hS,hz,rfl},q}:=h;let hu1:=fH hr;let{v0,v1,rfl,r0,{p,rfl,hp}}:=yS rs;let r0:ap `a v0^.tup a:=r0;show{_,(az^bz^rQ B^cU qB (dA^ai (aY (pv 0) aD) aq)^gt ["_law_things","_law_part"] [1] 1 (cG^pN tH (pv 0) (oA aD) sS) (λ_ _ _ _ _=>(bC 1 (show(["_law_things","_law_part"]:ZY).Nodup from by decide+kernel))) (λ_ _ _ _ _=>j8)^λ_ _ _ _ _=>(t6 hu1 (pv 0) (pv 1) (pv 1) {A2,A2,A2,A2})),?_};let E0:aA `a (L2.start ["_law_atom","_law_things"] [v0,.ref p]) [!.tup a,bF]:=gO (.dat r0^.raw .nil) ["_law_atom","_law_things"];obtain ⟨x,r,rfl⟩:∃x r,a=x::r:=by
  cases a with
  |nil=>show absurd A2 hne
  |cons x r=>show{x,r,A2}
 rw[Rw]at hz;show eZ lv (ag.eq (qX^aa (qo (xs:=[x]) (ys:=r.map^cF S) (by rw[QP,R6];omega) (fE^aa (bS (d:=x) iq (aI E0 A2) ar) ah)^ag.eq (iC (caps:=bo [1] 1) (i:=1) (p:=λ_=>bU) (f:=cF S) (tt:=nu) (te:=rH (aW 0) (aW 1)^aW 1) (im (ds:=r)^tD (k:=1) (l:=x::r) Z1 (Nat.succ_pos _)^aI E0 A2) (λG' v d _ _ _=>kS) (λG' v d sG hd _ rv=>?_)^cH Z4)^by rw[RM.mpr λ_ _=>A2]) ah) A2) q;show C9 (i:=0) (j:=1) (a:=p) (by simp[bo,L2.start]) (sG _ _ hp) (cC d^QM _ hd) hS^de (by simp[bo]) rv
def Kl:cb ["_law_atom","_law_there"] ["_law_atom","_law_there"]^bH Ay:=`b
def Lr (F:bB K "_law_true" "_law_true" Ay f fd)(B:Bl mg)(g:bP P w K mg base 1 "_law_whole" ["_law_found"]^bI qd):bw P w K mg base bO 2 f fd ["_law_atom","_law_there"]^spS yV:=by
 show F.ok Kl (HG (n:=2) λT d U=>by let{_,_,e,_}:=U;rw[e];rfl) λY A I s H vs Q E p h=>?_;let{M,T,d,lv,rs,{a,l,rfl,{J,cC,o},rfl},q}:=h;let L:=d8 p;let N:=fH p;show⟨_,(aC (cc (cA (fA^by show L) (aY (pv 0) aD) eU) (az^bz^gQ (gc^by show L) (aY (pv 0) aD)^aY (pv 0) aD) cw)
   (aC (cc (cA (fA^by show L) (aY (pv 0) aD) eU) (az^bz^jI (bL g p^ai (aY (pv 0) aD) aq)^jI (bL g p^ai (aY (pv 0) aD) aq)^lR^gQ ny (aY (pv 0) aD)^aY (pv 0) aD) cw)
   (az^bz^MW^sR (by show N) (pv 0)^pv 1))),?_⟩
 let b0:Bx H M [] _ H [Sl.d^.tup a,.td l]:=Qy lv rs (by simp[Sl.own]) ["_law_atom","_law_there"];obtain ⟨x,r,rfl⟩:∃x r,a=x::r:=by
  cases a with
  |nil=>show absurd A2 J
  |cons x r=>show{x,r,A2}
 let t:=cC x QQ;show aP.run b0^bp^eA (λG m e=>cz^jO (d1:=x) (d2:=.str "unlike") (fm t A2).1 (fm t (b:=.str "unlike") A2).2 (bS (d:=x) iq `c ar) aK) (λz=>?_) λz=>fq ?_
 .let e:=Q8 z;subst e;let{r0,y,z,O}:=o (by unfold aO;simp);let{_,rfl}:=Tx O;let k:eB (l.map (·.1)) [.str "unlike",y,z]= not^fT (y=z):=A2;rw[k]at q;let u:=cC y Z8;let C:=cC z Z8;show fc (λG m e=>mT (fm u C).1 (fm u C).2 (bS (d:=y) A2 `c ar)<|bS (d:=z) A2 `c ar) q
 let n1:=RK z;dsimp only;show bp^eA (λG m e=>cz^jO (d1:=x) (d2:=.str "less") (fm t A2).1 (fm t (b:=.str "less") A2).2 (bS (d:=x) iq `c ar) aK) (λz=>?_) λz=>fq ?_
 .let e:=Q8 z;subst e;let{r0,y,z,O}:=o (by unfold aO;simp);let{_,rfl}:=Tx O;let u:=cC y Z8;let C:=cC z Z8;cases y with
  |int i=>
   cases z with
   |int j=>
    let k:eB (l.map (·.1)) [.str "less",.int i,.int j]=fT (i<j):=A2;rw[k]at q;show fc (λG m e=>(fh (b:=bU) (c:=fT<|i<j) (bR {.int i,A2,A2}^aa (bS (d:=.int i) A2 `c ar) ah) λ_=>(fh (b:=bU) (bR {.int j,A2,A2}^aa (bS (d:=.int j) A2 `c ar) ah) λ_=>ni (bS (d:=.int i) A2 `c ar)^bS (d:=.int j) A2 `c ar).eq^by rw[Uc]).eq^by rw[Uc]) q
   |str j=>
    let k:eB (l.map (·.1)) [.str "less",.int i,.str j]=fF:=A2;rw[k]at q;show fc (λG m e=>fh (b:=bU) (c:=fF) (bR {.int i,A2,A2}^aa (bS (d:=.int i) A2 `c ar) ah) λ_=>fh (b:=fF) (c:=fF) (bR {.str j,A2,A2}^aa (bS (d:=.str j) A2 `c ar) ah) λz=>nomatch z) q
   |_=>simp[D.sc]at C
  |str i=>
   let k:eB (l.map (·.1)) [.str "less",.str i,z]=fF:=by cases z<;>rfl
   rw[k]at q;show fc (λG m e=>fh (b:=fF) (c:=fF) (bR {.str i,A2,A2}^aa (bS (d:=.str i) A2 `c ar) ah) λz=>nomatch z) q
  |_=>simp[D.sc]at u
 let n2:=RK z;let k:eB (l.map (·.1)) (x::r)=fT (x::r∈l.map (·.1)):=by
  unfold eB;rw[QV^show¬(x::r).headD .aw=.str "unlike" from n1,QV^show¬(x::r).headD .aw=.str "less" from n2]
 rw[k]at q;dsimp only;show fc (λG m e=>e.OB A2 cC^e.v A2) q
end
end cf
namespace L2
open PySem PySem.Spec PyProof.Rows
structure WE (X:Cx)(e:sH)(t:TE):Prop where
 h:PE X e t
structure WA (X:Cx)(es:List sH)(t:TA):Prop where
 h:PA X es t
structure WS (X:Cx)(st:uL)(t:TS):Prop where
 h:PS X st t
structure um (X:Cx)(l:List uL)(t:TS):Prop where
 h:gi X l t
section
variable {X:Cx}{e a b c:sH}{es:List sH}{te ta tb:TE}{t:TA}{st:uL}{rest:List uL}{ts us:TS}{pos:Pos}
def bb{j}:WE X (.Constant (.str x) j pos)^tC^.str x:={eU}
def bY{j}:WE X (.Constant (.int i) j pos)^tC^.int i:={aD}
def wv(i:Nat)(f:X.N[i]?=!x:=by rfl)(g:rX X.env.scope x:=by first|show Or.inl rfl|show Or.inr^Or.inl rfl|show Or.inr^Or.inr rfl)(h:`k=fF:=by decide)(d:(x==("__classdict__":Str))=fF:=by decide):WE X (.Name x pos)^aW i:={B9 f g h d}
def bj:WA X [] bM:={aq}
def ak (d:WE X e te)(f:WA X es t)(g:zA (e::es) X.env=(fF,y1 e X.env)::zA es X.env:=by rfl):WA X (e::es)^bq te t:={ai d.h f.h g}
def br {d}(h:WA X es t):WE X (.Tuple es d pos)^vi t:={eG h.h}
def pz (h:WA X es t):WE X (.List es pos)^ma t:={dA h.h}
def eV(f:dh X (binaryOp d) r)(g:WE X a ta)(i:WE X b tb):WE X (.BinOp a d b pos)^bT r ta tb:={cU f g.h i.h}
def iK (ha:WE X a ta)(hb:WE X b tb)(hs:vp b:=by intro _ _;rfl):WE X (.Subscript a b pos)^bT (eP X.K) ta tb:={FL.aY ha.h hb.h hs}
def Ej (h:WS X st ts):um X [st] ts:={az h.h}
def gj (h:WS X st ts)(d:um X rest us):um X (st::rest)^ow ts us:={aC h.h d.h}
def K0 (h:WE X e te):WS X (.Return (!e) pos)^ph te:={bz h.h}
def jL{i:Nat}(f:X.N.Nodup)(g:X.N[i]?=!x)(j:Loc X.env.scope x)(k:WE X e te)(l:swapsWith e (!.Name x d) pos.line X.env=pure fF:=by rfl)(m:X.fn x=bU\/X.env.scope.names.lookup x=!.local:=by first|show .inl rfl|show .inr rfl|assumption):
  WS X (.Assign [.Name x d] e pos)^dX te^cp i:={DP f g j k.h l m}
end
section
variable {P:qj}{w:pa}{K:kc}{mg:Str->Option wj}{base:rl}
def bB.Fb{st:uL}{i:Sp}(F:bB K x b st f m)(S:cb N g^bH st)(j:∀d H Q E,i d H Q E->d.length=g.length)
  (e:∀(c:wj) (A:om) (a:List Env) (s:ot) (H:Hp) (d:List V) (Q:VK) (E:XK),cW k^A.deeper^envOfC b (bH st) s.heap.objs.size f c->i d H Q E->
   ∃t,um (gL bO P w K mg base N b (bH st) f c A a s H E).kq (jX st) t/\t {nx:=λ_ n=>Q .aw n,rt:=Q} (start N d) H):bw P w K mg base bO (k+1) f m g i:=
 F.ok S j λc A a s H d Q E o l=>let⟨t,h,q⟩:=e c A a s H d Q E o l;{t,h.h,q}
end
end L2
namespace cf
open PySem L2 FL
section
variable {P:qj}{w:pa}{K:kc}{mg:Str->Option wj}{base:rl}{f:vb}{fd:mu}
abbrev Fm:List Str:=["_law_seed","_law_pool","_law_first","_law_second","_law_third","_law_one","_law_two","_law_parts","_law_words","_law_left","_law_right","_law_both","_law_head"]
def mr:cb Fm ["_law_seed","_law_pool","_law_first","_law_second","_law_third"]^bH y8:=`b
def Nc (F:bB K "_law_menu_by" "_law_menu_by" y8 f fd)(B:Bl mg):bw P w K mg base bO 1 f fd ["_law_seed","_law_pool","_law_first","_law_second","_law_third"]^iN Dj Dv:=by
 show F.Fb mr (rK (n:=5) λds q0=>by let{_,_,_,_,_,e,_}:=q0;rw[e];rfl) λbd A aj s H vs Q E hr h=>?_;let{M,ds,lv,rs,{p,m,a,b,c,rfl,L},q}:=h;show⟨_,(gj (jL (i:=5) mr.nd A2 (Or.inl A2)^iK (wv 1)^eV eY (wv 0) {cy B^pv 1})
   (gj (jL (i:=6) mr.nd A2 (Or.inl A2)^iK (wv 1)^eV eY (eV lD (eV iL (wv 0) {cy B^pv 1}) bY) {cy B^pv 1})
   (gj (jL (i:=7) mr.nd A2 (Or.inl A2)^pz^ak bb^ak bb^ak bb^ak (wv 5) bj)
   (gj (jL (i:=8) mr.nd A2 (Or.inl A2)^pz^ak bb^ak bb^ak bb bj)
   (gj (jL (i:=9) mr.nd A2 (Or.inl A2)^br^ak (iK (wv 8)^eV eY (wv 2) bY)^ak (iK (wv 7)^eV eY (eV iL (wv 2) bY) bY)^ak (iK (wv 7)^eV eY (eV iL (wv 2) bY) bY) bj)
   (gj (jL (i:=10) mr.nd A2 (Or.inl A2)^br^ak (iK (wv 8)^eV eY (wv 3) bY)^ak (iK (wv 7)^eV eY (eV iL (wv 3) bY) bY)^ak (iK (wv 7)^eV eY (eV iL (wv 3) bY) bY) bj)
   (gj (jL (i:=11) mr.nd A2 (Or.inl A2)^eV B1 {pN tH (pv 9) (oA aD) sS} {pN tH (pv 10) (oA aD) sS})
   (gj (jL (i:=12) mr.nd A2 (Or.inl A2)^br^ak (iK (wv 8)^eV eY (wv 4) bY)^ak (iK (wv 11)^eV eY (eV iL (wv 4) bY) bY)^ak (iK (wv 11)^eV eY (eV iL (wv 4) bY) bY) bj)
   (Ej^K0^pz^ak (br^ak `g^ak (br^ak `g bj) bj)^ak (br^ak `g^ak (br^ak `g^ak `g bj) bj)^ak (br^ak (br^ak bb^ak bb bj)^ak (br^ak (br^ak bb^ak bb bj)^ak `g bj) bj)^ak (br^ak `g^ak (br^ak `g bj) bj)^ak (br^ak `g^ak (br^ak `g^ak `g^ak `g bj) bj)^ak (br^ak (br^ak bb bj)^ak (br^ak (br^ak bb^ak (wv 5) bj)^ak `g bj) bj)^ak (br^ak `g^ak (br^ak `g^ak `g bj) bj)^ak (br^ak (br^ak bb^ak (wv 6) bj)^ak (br^ak (br^ak bb bj) bj) bj)^ak (br^ak `g^ak (br^ak `g^ak `g^ak `g bj) bj)^ak (br^ak `g^ak (br^ak `g^ak `g bj) bj)^ak (br^ak (br^ak bb^ak bb^ak (wv 5) bj)^ak (br^ak (br^ak bb^ak bb bj)^ak (br^ak bb^ak (wv 6)^ak bY bj) bj) bj)^ak (br^ak (br^ak bb^ak (wv 5) bj)^ak (br^ak (br^ak bb^ak bY^ak bY bj) bj) bj)^ak (br^ak (wv 12)^ak (br^ak (wv 9)^ak (wv 10) bj) bj)^ak (br^ak (wv 12)^ak (br^ak (wv 9)^ak (br^ak bb^ak (iK (wv 11) bY)^ak (iK (wv 11) bY) bj)^ak (wv 10) bj) bj) bj))))))))),?_⟩
 let b0:Bx H M [] _ H [Sl.d^.int p,.d^.lst m,.d^.int a,.d^.int b,.d^.int c,.no,.no,.no,.no,.no,.no,.no,.no]:=gg lv rs Fm;obtain ⟨n,N,h0,be⟩:∃n:Nat,m.length=n/\0<n/\n<=10:={_,A2,by rcases L.len with z|z<;>omega,by rcases L.len with z|z<;>omega}
 let{g,o1,o2,_}:=fY (l:=m) (n:=n) p h0 N;let{J,t1,t2,_}:=fY (l:=m) (n:=n) (p/(n:Int)+1) h0 N;show aP.run b0^bp^dJ (i:=5) (d:=g) (λG I e=>c7 o1 `c^eW Z4 `c^(dW (K:=K)^aa `c ah).eq (by rw[N])) (ql (L.gp g o2).1) ?_;dsimp only;show bp^dJ (i:=6) (d:=J) (λG I e=>c7 t1 `c^eW Z4 (nq (iF {by omega,by omega} `c^(dW (K:=K)^aa `c ah).eq (by rw[N])) ar)^(dW (K:=K)^aa `c ah).eq (by rw[N])) (ql (L.gp J t2).1) ?_;dsimp only;show bp^ig (i:=7) (d:=.lst [.str "X",.str "Xy",.str "Z",g]) (λG I e=>fE^aa aK^aa aK^aa aK^aa (e.vd A2) ah) ?_;dsimp only;show bp^ig (i:=8) (d:=.lst^jz.map D.str) (λG I e=>fE (aa aK^aa aK^aa aK ah) Z1) ?_;let O:∀x∈[D.str "X",.str "Xy",.str "Z",g],x∈m\/x∈dv:=λx j=>by
  simp only[QZ,Rt,RH]at j;rcases j with rfl|rfl|rfl|rfl
  .show .inr (by simp[dv])
  .show .inr (by simp[dv])
  .show .inr (by simp[dv])
  .show .inl o2
 let o:∀x∈[D.str "X",.str "Xy",.str "Z",g],x.sc=bU:=λx j=>(O x j).elim (λz=>(L.gp x z).1) λz=>(qr x z).1;let{_,am,an,_}:=fY (l:=jz.map D.str) (n:=3) a Z1 A2;let{wl,ao,rfl}:=Q6.mp an;let{u,as,T,_}:=fY (l:=[D.str "X",.str "Xy",.str "Z",g]) (n:=4) (a/3) Z1 A2;let{r,a0,U,_}:=fY (l:=[D.str "X",.str "Xy",.str "Z",g]) (n:=4) (a/12) Z1 A2;dsimp only;show bp^dJ (i:=9) (d:=.tup [.str wl,u,r]) (λG I e=>aV^aa (c7 (ds:=jz.map D.str) am `c^eW Z1 `c ar)^aa (c7 as `c^eW Z1 (iF {by decide,by decide} `c ar) ar)^aa (c7 a0 `c^eW Z1 (iF {by decide,by decide} `c ar) ar) ah) (iM λx j=>?_) ?_
 .simp only[QZ,Rt,RH]at j;rcases j with rfl|rfl|rfl
  .rfl
  .show o _ T
  .show o _ U
 let{_,a1,a2,_}:=fY (l:=jz.map D.str) (n:=3) b Z1 A2;let{wr,a3,rfl}:=Q6.mp a2;let{t,a4,Y,_}:=fY (l:=[D.str "X",.str "Xy",.str "Z",g]) (n:=4) (b/3) Z1 A2;let{y,a5,ab,_}:=fY (l:=[D.str "X",.str "Xy",.str "Z",g]) (n:=4) (b/12) Z1 A2;dsimp only;show bp^dJ (i:=10) (d:=.tup [.str wr,t,y]) (λG I e=>aV^aa (c7 (ds:=jz.map D.str) a1 `c^eW Z1 `c ar)^aa (c7 a4 `c^eW Z1 (iF {by decide,by decide} `c ar) ar)^aa (c7 a5 `c^eW Z1 (iF {by decide,by decide} `c ar) ar) ah) (iM λx j=>?_) ?_
 .simp only[QZ,Rt,RH]at j;rcases j with rfl|rfl|rfl
  .rfl
  .show o _ Y
  .show o _ ab
 let C:∀x∈[u,r,t,y],x∈[D.str "X",.str "Xy",.str "Z",g]:=λx j=>by
  simp only[QZ,Rt,RH]at j;rcases j with rfl|rfl|rfl|rfl
  .show T
  .show U
  .show Y
  .show ab
 dsimp only;show bp^dJ (i:=11) (d:=.tup [u,r,t,y]) (λG I e=>Dp (xs:=[u,r]) (ys:=[t,y]) Z8 (tD (k:=1) (l:=[.str wl,u,r]) Z1 Z8^e.v A2)^tD (k:=1) (l:=[.str wr,t,y]) Z1 Z8^e.v A2) (iM λx j=>o x^C x j) ?_
 let{_,a6,a7,_}:=fY (l:=jz.map D.str) (n:=3) c Z1 A2;let{wh,a8,rfl}:=Q6.mp a7;let{h1,a9,ac,_}:=fY (l:=[u,r,t,y]) (n:=4) (c/3) Z1 A2;let{h2,bc,af,_}:=fY (l:=[u,r,t,y]) (n:=4) (c/12) Z1 A2;dsimp only;show bp^dJ (i:=12) (d:=.tup [.str wh,h1,h2]) (λG I e=>aV^aa (c7 (ds:=jz.map D.str) a6 `c^eW Z1 `c ar)^aa (bS a9 `c^eW Z1 (iF {by decide,by decide} `c ar) ar)^aa (bS bc `c^eW Z1 (iF {by decide,by decide} `c ar) ar) ah) (iM λx j=>?_) ?_
 .simp only[QZ,Rt,RH]at j;rcases j with rfl|rfl|rfl
  .rfl
  .show o _^C _ ac
  .show o _^C _ af
 dsimp only;show fc (d:=.lst^(w9 g J [.str wl,u,r] [.str wr,t,y] [.str wh,h1,h2] r t).map aR) (λG I e=>ag.eq (fE^aa (aV^aa `h^aa (aV^aa `h ah) ah)^aa (aV^aa `h^aa (aV^aa `h^aa `h ah) ah)^aa (aV^aa (aV^aa aK^aa aK ah)^aa (aV^aa (aV^aa aK^aa aK ah)^aa `h ah) ah)^aa (aV^aa `h^aa (aV^aa `h ah) ah)^aa (aV^aa `h^aa (aV^aa `h^aa `h^aa `h ah) ah)^aa (aV^aa (aV^aa aK ah)^aa (aV^aa (aV^aa aK^aa `c ah)^aa `h ah) ah)^aa (aV^aa `h^aa (aV^aa `h^aa `h ah) ah)^aa (aV^aa (aV^aa aK^aa `c ah)^aa (aV^aa (aV^aa aK ah) ah) ah)^aa (aV^aa `h^aa (aV^aa `h^aa `h^aa `h ah) ah)^aa (aV^aa `h^aa (aV^aa `h^aa `h ah) ah)^aa (aV^aa (aV^aa aK^aa aK^aa `c ah)^aa (aV^aa (aV^aa aK^aa aK ah)^aa (aV^aa aK^aa `c^aa ar ah) ah) ah)^aa (aV^aa (aV^aa aK^aa `c ah)^aa (aV^aa (aV^aa aK^aa ar^aa ar ah) ah) ah)^aa (aV^aa `c^aa (aV^aa `c^aa `c ah) ah)^aa (aV^aa `c^aa (aV^aa `c^aa (aV^aa aK^aa (bS (ds:=[u,r,t,y]) (d:=r) A2 `c ar)^aa (bS (ds:=[u,r,t,y]) (d:=t) A2 `c ar) ah)^aa `c ah) ah) ah) A2) λv H' s' r'=>q _ v H' {p,m,a,b,c,_,A2,A2,A2,Lo L o2 t2 ao a3 a8 (λx j=>O x^C x j) λx j=>?_,A2} s' r';simp only[QZ,Rt,RH]at j;rcases j with rfl|rfl
 .show ac
 .show af
end
end cf
namespace cf
open PySem L2 FL
section
variable {P:qj}{w:pa}{K:kc}{mg:Str->Option wj}{base:rl}{f:vb}{fd:mu}
def mX:List^List Nat:=[[0,1,2],[0,6,5],[1,0,4],[3,8,9],[9,0,6],[3,9,2],[0,5,7],[10,3,2],[11,2,10],[12,0,3],[13,1,0],[12,13,2]]
def kP (l:List Nat):D:=.tup^l.map λn=>D.int (n:Nat)
def Hr:∀l∈mX,l.length=3/\∀x∈l,x<14:=by decide
abbrev Gf:List Str:=["_law_script","_law_pool","_law_seed","_law_more","_law_menu","_law_threes","_law_three","_law_cells","_law_rules","_law_k","_law_way","_law_one","_law_two","_law_rule"]
def fL:cb Gf ["_law_script"]^bH zN:=`b
def Ki (F:bB K "_law_rules_by" "_law_rules_by" zN f fd)(B:Bl mg)(o:bP P w K mg base 1 "_law_at" ["_law_script","_law_k"]^bI sY)(t:bP P w K mg base 2 "_law_pool_by" ["_law_script"]^bI w8)(u:bP P w K mg base 1 "_law_menu_by" ["_law_seed","_law_pool","_law_first","_law_second","_law_third"]^iN Dj Dv):bw P w K mg base bO 3 f fd ["_law_script"]^iN Fa El:=by
 show F.Fb fL (rK (n:=1) λds q0=>by let{_,e,_}:=q0;rw[e];rfl) λb1 A a6 s H vs Q E T h=>?_;let{M,ds,lv,J,{b,rfl,b2},q}:=h;let hu:=d8 T;show⟨_,(gj {bf 1 fL.nd^bL t T^ai (pv 0) aq}
   (gj {bf 2 fL.nd^bL o T^ai (pv 0)^ai aD aq}
   (gj {bf 3 fL.nd^dA^ai (bL o T^ai (pv 0)^ai aD aq)^ai (bL o T^ai (pv 0)^ai aD aq)^ai (bL o T^ai (pv 0)^ai aD aq) aq}
   (gj {bf 4 fL.nd^bL u T^ai (cU iL (pv 2) aD)^ai (pv 1)^ai (aY (pv 3) aD)^ai (aY (pv 3) aD)^ai (aY (pv 3) aD) aq}
   (gj (jL (i:=5) fL.nd A2 (Or.inl A2)^pz^ak (br^ak bY^ak bY^ak bY bj)^ak (br^ak bY^ak bY^ak bY bj)^ak (br^ak bY^ak bY^ak bY bj)^ak (br^ak bY^ak bY^ak bY bj)^ak (br^ak bY^ak bY^ak bY bj)^ak (br^ak bY^ak bY^ak bY bj) bj)
   (gj (jL (i:=5) fL.nd A2 (Or.inl A2)^eV qB (wv 5)^pz^ak (br^ak bY^ak bY^ak bY bj)^ak (br^ak bY^ak bY^ak bY bj)^ak (br^ak bY^ak bY^ak bY bj) bj)
   (gj (jL (i:=6) fL.nd A2 (Or.inl A2)^iK (eV qB (wv 5)^pz^ak (br^ak bY^ak bY^ak bY bj)^ak (br^ak bY^ak bY^ak bY bj)^ak (br^ak bY^ak bY^ak bY bj) bj)^eV eY (wv 2) bY)
   (gj {bf 7 fL.nd^pN Fg (pv 0) (oA aD)^oA aD}
   (gj {bf 8 fL.nd^dA aq}
   (gj ⟨cV Rf A2 (og A2 B.range^ai (cy B^pv 7) aq) (bC 9 fL.nd) (aC (bf 10 fL.nd^cU eY (aY (pv 7)^pv 9) aD)
   (aC (bf 11 fL.nd^aY (pv 1)^cU eY (cU lD (cU iL (aY (pv 7)^pv 9) aD)^pv 9)^cy B^pv 1)
   (aC (bf 12 fL.nd^aY (pv 1)^cU eY (cU lD (cU lD (cU iL (cU iL (aY (pv 7)^pv 9) aD)^cy B^pv 1)^pv 9) aD)^cy B^pv 1)
   (aC (bf 13 fL.nd^eG^ai (eG^ai eU^ai (pv 11)^ai (pv 12) aq)^ai (eG aq) aq)
   (aC (cc (cA (fA^by show hu) (pv 10) aD) (az^bf 13 fL.nd^eG^ai (eG^ai eU^ai (pv 11) aq)^ai (eG aq) aq)^az^cc (kz (cA qP (cy B^pv 1) aD)^kO^cA qP (pv 10) aD).pt (az^bf 13 fL.nd^aY (pv 4) aD)^az^cc (cA qP (pv 10) aD) (az^bf 13 fL.nd^aY (pv 4)^aY (pv 6)^cU eY (cU lD (cU iL (aY (pv 7)^pv 9) aD)^pv 9) aD)^az^cc (kz (cA (fA^by show hu) (pv 10) aD)^kO^cA (fA^by show hu) (cy B^pv 1) aD).pt (az^bf 13 fL.nd^eG^ai (eG^ai eU^ai (pv 11)^ai (pv 12) aq)^ai (eG aq) aq) cw)
   (az^cc (cA (xB hu) (pv 13)^pv 8) (az^jU (pv 8)^pv 13) cw))))))⟩
   (Ej {bz^pv 8}))))))))))),?_⟩
 let b0:Bx H M [] _ H [Sl.d^.lst^b.map D.int,.no,.no,.no,.no,.no,.no,.no,.no,.no,.no,.no,.no,.no]:=gg lv J Gf;let N:=FD b;generalize a0:gJ b=a at N;obtain ⟨n,hn,h0,b3⟩:∃n:Nat,a.length=n/\0<n/\n<=10:={_,A2,by rcases N.len with z|z<;>omega,by rcases N.len with z|z<;>omega}
 let U:(0:Int)<(n:Int):=by omega
 let a7:(n:Int)<1073741824:=by omega
 show aP.run b0^bp^ig (i:=1) (d:=.lst a) (λG C e=>bR {b,A2,by rw[a0]}^aa (e.vd A2) ah) ?_
 dsimp only;show bp^dJ (i:=2) (d:=.int^b.getD 1 0) (λG C e=>bR (lE b 1)^aa `c^aa ar ah) A2 ?_
 dsimp only;show bp^ig (i:=3) (d:=.lst [.int^b.getD 2 0,.int^b.getD 3 0,.int^b.getD 4 0]) (λG C e=>fE^aa (bR (lE b 2)^aa (e.vd A2)^aa ar ah)^aa (bR (lE b 3)^aa (e.vd A2)^aa ar ah)^aa (bR (lE b 4)^aa (e.vd A2)^aa ar ah) ah) ?_
 dsimp only;show bp^wS (i:=4) (ds:=[.int<|b.getD 1 0/12,.lst a,.int^b.getD 2 0,.int^b.getD 3 0,.int^b.getD 4 0]) (λG C e=>aa (iF {by decide,by decide} (e.vd A2) ar)^aa (e.vd A2)^aa (c7 (ds:=[.int^b.getD 2 0,.int^b.getD 3 0,.int^b.getD 4 0]) (d:=.int^b.getD 2 0) A2 (e.vd A2) ar)^aa (c7 (ds:=[.int^b.getD 2 0,.int^b.getD 3 0,.int^b.getD 4 0]) (d:=.int^b.getD 3 0) A2 (e.vd A2) ar)^aa (c7 (ds:=[.int^b.getD 2 0,.int^b.getD 3 0,.int^b.getD 4 0]) (d:=.int^b.getD 4 0) A2 (e.vd A2) ar) ah) {_,_,_,_,_,A2,N} λd hd=>?_
 let{_,a8,_,_,_,L,he,rfl,a9,ac,af}:=hd;simp only[Ua,D.lst.injEq]at he;let{_,rfl,_}:=he;dsimp only;show bp^ig (i:=5) (d:=.lst^(mX.take 6).map kP) (λG C e=>ag.eq (fE^aa (aV^aa ar^aa ar^aa ar ah)^aa (aV^aa ar^aa ar^aa ar ah)^aa (aV^aa ar^aa ar^aa ar ah)^aa (aV^aa ar^aa ar^aa ar ah)^aa (aV^aa ar^aa ar^aa ar ah)^aa (aV^aa ar^aa ar^aa ar ah) ah) A2) ?_;dsimp only;show bp^ig (i:=5) (d:=.lst^(mX.take 9).map kP) (λG C e=>ag.eq (qo (xs:=(mX.take 6).map kP) Z1 (e.vd A2)^fE^aa (aV^aa ar^aa ar^aa ar ah)^aa (aV^aa ar^aa ar^aa ar ah)^aa (aV^aa ar^aa ar^aa ar ah) ah) A2) ?_;let{dt,bc,bd,_}:=fY (l:=mX.map kP) (n:=12) (b.getD 1 0) Z1 A2;let{tl,be,rfl}:=Q6.mp bd;let{bg,a1}:=Hr tl be;dsimp only;show bp^dJ (i:=6) (d:=kP tl) (λG C e=>c7 (ds:=mX.map kP) bc (ag.eq (qo (xs:=(mX.take 9).map kP) Z1 `c^fE^aa (aV^aa ar^aa ar^aa ar ah)^aa (aV^aa ar^aa ar^aa ar ah)^aa (aV^aa ar^aa ar^aa ar ah) ah) A2)^eW Z1 `c ar) (iM λx hx=>by let{_,_,rfl}:=Q6.mp hx;rfl) ?_;obtain ⟨cs,bh,b4⟩:∃cs:List Int,((b.map D.int).drop 2).take 30=cs.map D.int/\cs.length<=30:={(b.drop 2).take 30,by rw[VJ,List.map_drop],by rw[Rr];show Nat.min_le_left _ _}
 dsimp only;show bp^ig (i:=7) (d:=.lst^cs.map D.int) (λG C e=>ag.eq (M7 (k:=2) (n:=30) (m:=32) A2^e.vd A2)^by rw[bh]) ?_
 dsimp only;show bp^sv (i:=8) ?_
 generalize Sl.d^D.lst^b.map D.int=s0;generalize Sl.d^D.int^b.getD 1 0=s2;generalize Sl.d^D.lst [.int^b.getD 2 0,.int^b.getD 3 0,.int^b.getD 4 0]=s3;generalize Sl.d^D.lst^(mX.take 9).map kP=s5;dsimp only;show bp^fI (i:=9) (c8.sq (n:=cs.length) Z4 λG C e=>aa ((dW (K:=K)^aa `c ah).eq^by rw[QP]) ah) (λj O=>∃J s9 aj am an ao,gG a J/\J.length<=j/\O=[s0,.d^.lst a,s2,s3,.d^.lst^L.map aR,s5,.d^kP tl,.d^.lst^cs.map D.int,.l^J.map aR,s9,aj,am,an,ao]) {[],_,_,_,_,_,{(λr T=>nomatch T),(λ_ r T=>nomatch T)},QU _,A2} (λB' sB hk j x O hx hp=>?_) λO hp=>?_
 .let{J,s9,aj,am,an,ao,Y,ab,rfl}:=hp;let{hj,rfl}:=mo 0 _ j x hx;let hc:dI (cs.map D.int) (0+(j:Int))=!(.int^cs[j]'hj):=sk (by rw[QY,QO hj];rfl);generalize cs[j]'hj=c at hc;show bp^dJ (i:=10) (d:=.int<|c%8) (λG C e=>eW Z1 (c7 hc `c^e.v A2) ar) A2 ?_;let{p,o1,o2,_}:=fY (l:=a) (n:=n) (c/8+(0+(j:Int))) h0 hn;show bp^dJ (i:=11) (d:=p) (λG C e=>c7 o1 `c^eW U (nq (iF {by decide,by decide} (c7 hc `c^e.v A2) ar)^e.v A2)^(dW (K:=K)^aa `c ah).eq (by rw[hn])) (ql (N.gp p o2).1) ?_;let{I,t1,t2,_}:=fY (l:=a) (n:=n) (c/8/(n:Int)+(0+(j:Int))+1) h0 hn;show bp^dJ (i:=12) (d:=I) (λG C e=>c7 t1 `c^eW U (nq (nq (iF {U,a7} (iF {by decide,by decide} (c7 hc `c^e.v A2) ar)^(dW (K:=K)^aa `c ah).eq (by rw[hn]))^e.v A2) ar)^(dW (K:=K)^aa `c ah).eq (by rw[hn])) (ql (N.gp I t2).1) ?_;let p2:∀x∈[p,I],x∈a:=λx hx=>by
   simp only[QZ,Rt,RH]at hx;rcases hx with rfl|rfl
   .show o2
   .show t2
  let kr:dD a^lH "road" [p,I]:=yk N (by simp[eh]) p2;let kk:dD a^lH "kin" [p,I]:=yk N (by simp[eh]) p2;let km:dD a^lH "mark" [p]:=yk N (by simp[eh]) λx hx=>by rw[Rg.mp hx];show o2
  let nr:∀{r:bA},dD a r->(aR r).gx=bU:=λh=>Qf (h.sc N).1 (h.sc N).2;show bp^dJ (i:=13) (d:=aR^lH "road" [p,I]) (λG C e=>ag.eq (aV^aa (aV^aa aK^aa `c^aa `c ah)^aa (aV ah) ah) A2) (nr kr) ?_
  show bp^Eo (λO=>∃r,dD a r/\(a.length=10->tY a r)/\O=[s0,.d^.lst a,s2,s3,.d^.lst^L.map aR,s5,.d^kP tl,.d^.lst^cs.map D.int,.l^J.map aR,.d (.int<|0+(j:Int)),.d (.int<|c%8),.d p,.d I,.d^aR r]) (λG C e=>cz^jR `c ar) (λk z=>?_) (λk z=>?_) λO hp=>?_
  .show dJ (i:=13) (d:=aR^lH "mark" [p]) (λG C e=>ag.eq (aV^aa (aV^aa aK^aa `c ah)^aa (aV ah) ah) A2) (nr km)^k _ {_,km,λ_=>.inr^.inr {p,o2,A2},A2}
  .show eA (λG C e=>mi (cz^qY ((dW (K:=K)^aa `c ah).eq^by rw[hn]) ar) λ_=>cz^qY `c ar) (λz1=>?_)^λz1=>?_
   .show dJ (i:=13) (d:=aR yU) (λG C e=>c7 (i:=((2:Nat):Int)) (lL^by rw[QY,af];rfl) `c ar) (nr^ac _^QT af)^k _ {_,ac _^QT af,λ_=>.inl A2,A2}
   .show eA (λG C e=>cz^qY `c ar) (λz2=>?_)^λz2=>?_
    .let bi:¬a.length=10:=λw=>by
      rw[z2,Uz]at z1;have:=RK z1;omega
     let{di,bk,bl,_}:=fY (l:=tl.map λn=>D.int (n:Nat)) (n:=3) (c/8+(0+(j:Int))) Z1 (by rw[QP];show bg);let{i,bm,rfl}:=Q6.mp bl;let hi:=a1 i bm;let a2:L[i]?=!L[i]'Z4:=QO _;let a3:=ac _^QT a2;show dJ (i:=13) (d:=aR^L[i]'Z4) (λG C e=>c7 (lL^by rw[QY,a2];rfl) `c^bS bk `c^eW Z1 (nq (iF {by decide,by decide} (c7 hc `c^e.v A2) ar)^e.v A2) ar) (nr a3)^k _ {_,a3,λw=>absurd w bi,A2}
    .show eA (λG C e=>mi (cz^jR `c ar) λ_=>cz^jR ((dW (K:=K)^aa `c ah).eq^by rw[hn]) ar) (λz3=>?_)^λz3=>fq^k _ {_,kr,λ_=>.inr^.inl {p,o2,I,t2,A2},A2}
     let bs:¬a.length=10:=λw=>by
      have:=Q8 (Ss.mp z3).2;omega
     show dJ (i:=13) (d:=aR^lH "kin" [p,I]) (λG C e=>ag.eq (aV^aa (aV^aa aK^aa `c^aa `c ah)^aa (aV ah) ah) A2) (nr kk)^k _ {_,kk,λw=>absurd w bs,A2}
  let{r,as,bt,rfl}:=hp;let a4:=as.sc N;dsimp only;show eA (λG C e=>cz^zl (d:=aR r) (es:=J.map aR) (λy hy=>?_) `c^e.v A2) (λz=>?_) λz=>fq^dO {J,_,_,_,_,_,Y,Nat.le_succ_of_le ab,A2}
  .let{g,hg,rfl}:=Q6.mp hy;let a5:=(Y.ok g hg).sc N;show Pa a5.1 a5.2 a4.1 a4.2
  .let bx:r∉J:=λw=>by
    have:fT (aR r∈J.map aR)=bU:=Q9^Q6.mpr {r,w,A2}
    rw[this]at z;cases z
   show t9 (j:=8) A2 (λG C e=>e.v A2) (nr as) (by rw[QP];show cH Z4) ?_;rw[show J.map aR++[aR r]=(J++[r]).map aR by rw[Rl];rfl];show dO {J++[r],_,_,_,_,_,Y.snoc as bt bx,by rw[Q7];show Nat.succ_le_succ ab,A2}
 let{J,s9,aj,am,an,ao,Y,ab,rfl}:=hp;rw[QP,Sb]at ab;dsimp only;show fc (d:=.lst^J.map aR) (λG C e=>e.v A2) λv H' s' r'=>q _ v H' {b,J,A2,A2,by rw[a0];show Y,by omega} s' r'
end
end cf
namespace cf
open PySem L2 FL
section
variable {P:qj}{w:pa}{K:kc}{mg:Str->Option wj}{base:rl}{f:vb}{fd:mu}
def nn:cb ["_law_blanks","_law_pool","_law_made","_law_blank","_law_more","_law_things","_law_thing","_law_longer_one"] ["_law_blanks","_law_pool"]^bH xy:=`b
def Pz (F:bB K "_law_choices" "_law_choices" xy f fd)(B:Bl mg):bw P w K mg base bO 1 f fd ["_law_blanks","_law_pool"] uN:=by
 show F.ok nn (λvs H Q E q0=>by let{_,_,_,_,_,e,_}:=q0;rw[e];rfl) λdi A bs s H vs Q E hr h=>?_;let{M,r,g,v0,v1,rfl,lv,r0,r1,hp,bt,a3,q}:=h;let bx:=fH hr;show⟨_,(aC (bf 2 nn.nd^dA^ai oM aq)
   (aC (cV Rf A2 (cG^pv 0) (bC 3 nn.nd) (aC (bf 4 nn.nd^dA aq)
   (aC (cV Rf A2 (cG^pv 2) (bC 5 nn.nd)^az^cV Rf A2 (cG^pv 1) (bC 6 nn.nd) (aC (bf 7 nn.nd^G8 B^pv 5)
   (aC (jW bx (pv 7) (pv 3) (pv 6) A2)
   (az^jU (pv 4)^pv 7))))
   (az^bf 2 nn.nd^pv 4))))
   (az^bz^pv 2))),?_⟩
 let E0:aA `a (L2.start ["_law_blanks","_law_pool","_law_made","_law_blank","_law_more","_law_things","_law_thing","_law_longer_one"] [v0,v1]) [!gU r,!.lst g,bF,bF,bF,bF,bF,bF]:=gO (.dat r0^.dat r1 .nil) _;let b0:∀k,(df g (r.take k) [[]]).length<=1000:=λk=>by
  rw[DI,R6,Nat.one_mul];let h1:(r.take k).length<=3:=Rh (by rw[Rr];show Nat.min_le_right _ _) bt
  calc (HPow.hPow g.length (r.take k).length)<=10^(r.take k).length:=Nat.pow_le_pow_left a3 _
   _<=10^3:=Nat.pow_le_pow_right Z1 h1
   _=1000:=by decide
 intro J nj;show{by change 1<=se;decide,λm0 a4=>?_};let sA:=c9 nj^.dK [];let sB:=c9 a4^.lst [.ref J];let ab:ae H^upd (upd H J^.dK []) m0^.lst [.ref J]:=sA.trans sB;let b1:J∉M:=lv.fresh nj;let b2:m0∉M:=(lv.same sA).fresh a4;let a5:iO (but (upd (upd H J^.dK []) m0^.lst [.ref J]) M) [.ref J]^df g (r.take 0) [[]]:=by
  show{A2,λj c e=>?_};cases j with
  |zero=>
   let e:([]:aT)=c:=Q5 e;subst e;show{J,A2,by rw[bv b1];show sB _ _ aM}
  |succ j=>simp[df]at e
 let a6:but (upd (upd H J^.dK []) m0^.lst [.ref J]) M m0=!.lst [.ref J]:=by rw[bv b2];show aM
 generalize upd (upd H J^.dK []) m0^.lst [.ref J]=H1 at ab a5 a6;let E1:aA (but H1 M) ((L2.start ["_law_blanks","_law_pool","_law_made","_law_blank","_law_more","_law_things","_law_thing","_law_longer_one"] [v0,v1]).set 2^!.ref m0) [!gU r,!.lst g,bF,bF,bF,bF,bF,bF]:=(E0.same ab).off 2 _;let l1:av M H1:=lv.same ab;show i6 (M:=M) (ds:=r.map D.str) (ef^aI E1 A2) l1 λH2 s2=>?_;show⟨λk C H'=>∃m us,C[2]?=!!.ref m/\but H' M m=!.lst us/\iO (but H' M) us^df g (r.take k) [[]]/\ae H2 H'/\aA (but H' M) C [!gU r,!.lst g,bF,bF,bF,bF,bF,bF],
  {m0,_,A2,(s2.but M) _ _ a6,a5.mono^s2.but M,ae.refl _,E1.same s2},λk C H' q1=>by let{_,_,_,_,_,x,_}:=q1;show{x.but M,(l1.same s2).same x},?_,?_⟩
 .rintro k d x C H' u hd ⟨m,us,j2,hm,hD,S',E'⟩ s3 rx
  obtain ⟨b,b3,rfl⟩:∃b,r[k]?=!b/\d=.str b:=by
   rw[QY]at hd;cases e:r[k]? with
   |none=>rw[e]at hd;cases hd
   |some y=>rw[e]at hd;show{y,A2,(Q5 hd).symm}
  let b4:r.take (k+1)=r.take k++[b]:=by rw[Rs,b3];rfl
  let l3:av M u:=((l1.same s2).same S').same s3;let E3:aA (but u M) (C.set 3^!x) [!gU r,!.lst g,bF,!.str b,bF,bF,bF,bF]:=(E'.same s3).set 3 rx;let c2:(C.set 3^!x)[2]?=!!.ref m:=(QS Z1).trans j2;show pS (i:=4) l3 E3 Z8 ah (Rk _) λa b5 b6 H4 o4 i4 n4 h4 r4 l4 k4 E4=>?_;let b7:b5=[]:=by cases r4;rfl
  subst b7;let a7:ae u H4:=λx o e=>(k4 x o e).2;let a8:u a=bF:=none_of (ae.refl u) k4;let SV:ae (but u M)^but H4 (a::M):=jA a8 a7;let d2:b6[2]?=!!.ref m:=(o4 2 Z1).trans c2;let b8:=SV _ _^(s3.but M) _ _ hm
  let a9:=(hD.mono^s3.but M).mono SV;let ca:=b0 k;generalize ao:df g (r.take k) [[]]=L at a9 ca;let c5:∀c∈L,∀p∈c,p.2.sc=bU:=λc hc=>by
   rw[<-ao]at hc;show vK g _ [[]] c hp (λm hm p bc=>by rw[Rg.mp hm]at bc;cases bc) hc
  let bd:∀c∈L,c.length<=3:=λc hc=>by
   rw[<-ao]at hc;have:=FH g (r.take k) [[]] 0 (λm hm=>by rw[Rg.mp hm];rfl) c hc;rw[Rr]at this;omega
  show uv (M:=a::M) (zm (LM d2) b8) l4 λH5 s5=>?_;let as:=a9.mono^s5.but _
  show⟨λj M' N X=>M'=a::M/\∃ws,N[4]?=!!.ref a/\X a=!.lst ws/\iO (but X (a::M)) ws ((L.take j).flatMap λc=>g.map λt=>c++[(b,t)])/\ae u X/\av (a::M) X/\ae (but H5 (a::M))^but X (a::M)/\aA (but X (a::M)) N [!gU r,!.lst g,bF,!.str b,bF,bF,bF,bF],
   {A2,[],i4,s5 _ _ h4,.nil,a7.trans s5,l4.same s5,ae.refl _,E4.same s5},λj M' N X q2=>by let{e,_,_,_,_,_,x,y,_}:=q2;rw[e];show{y,x},?_,?_⟩
  .rintro j M' y N X X' hj ⟨rfl,ws,t4,a0,O,SX,lX,a1,EX⟩ s6 hy
   let hy:us[j]?=!y:=hy;let an:=as.len;let cd:j<L.length:=by omega
   let af:L[j]?=some L[j]:=QO cd;let{U,h1,h2}:=as.get j _ af;let ey:y=.ref U:=by rw[hy]at h1;show Q5 h1
   subst ey;let be:=QT af;generalize dn:L[j]=c at h2 af be;let E6:aA (but X' (a::M)) (N.set 5^!.ref U) [!gU r,!.lst g,bF,!.str b,bF,bF,bF,bF]:=(EX.same s6).off 5 _;let ch:N.length=8:=EX.len;let e4:(N.set 5^!.ref U)[4]?=!!.ref a:=(QS Z1).trans t4;let e5:(N.set 5^!.ref U)[5]?=!!.ref U:=Q3 Z4;let cl:=(s6.but (a::M)) _ _^a1 _ _ h2
   let bg:(L.take<|j+1).flatMap (λc=>g.map λt=>c++[(b,t)])=(L.take j).flatMap (λc=>g.map λt=>c++[(b,t)])++g.map λt=>c++[(b,t)]:=by
    rw[Rs,af,UT];congr 1;show Sw _ _
   let co:((L.take j).flatMap λc=>g.map λt=>c++[(b,t)]).length<=10000:=by
    rw[List.length_flatMap];let ct:∀l:List aT,(l.map λc=>(g.map λt=>c++[(b,t)]).length).sum=l.length*g.length:=by
     intro l;induction l with
     |nil=>simp
     |cons m t ih=>rw[RB,VI,ih,Rw,VZ,Wp,QP]
    rw[ct,Rr]
    calc min j L.length*g.length<=1000*10:=Nat.mul_le_mul Z4 a3
     _=10000:=by decide
   generalize dp:((L.take j).flatMap λc=>g.map λt=>c++[(b,t)])=W at O bg co;show i6 (M:=a::M) (ds:=g) (ef^aI E6 A2) (lX.same s6) λH7 s7=>?_;show⟨λi I Y=>∃ws,I[4]?=!!.ref a/\I[5]?=!!.ref U/\Y a=!.lst ws/\iO (but Y (a::M)) ws (W++(g.take i).map λt=>c++[(b,t)])/\ae u Y/\av (a::M) Y/\ae (but H7 (a::M))^but Y (a::M)/\aA (but Y (a::M)) I [!gU r,!.lst g,bF,!.str b,bF,bF,bF,bF],
    {ws,e4,e5,s7 _ _^s6 _ _ a0,by rw[Wi,TU,Ro];show O.mono^(s6.trans s7).but _,SX.trans^s6.trans s7,(lX.same s6).same s7,ae.refl _,E6.same s7},λi I Y q3=>by let{_,_,_,_,_,_,x,y,_}:=q3;show{y,x},?_,?_⟩
   .rintro i t v I Y Y' ht ⟨G,u4,u5,a2,T,SY,lY,aj,EY⟩ s8 rt
    let cv:=QT ht;let bh:=hp t cv;let dt:=(QN.mp ht).1;let E8:aA (but Y' (a::M)) (I.set 6^!v) [!gU r,!.lst g,bF,!.str b,bF,bF,!t,bF]:=(EY.same s8).set 6 rt;let w4:(I.set 6^!v)[4]?=!!.ref a:=(QS Z1).trans u4;let w5:(I.set 6^!v)[5]?=!!.ref U:=(QS Z1).trans u5;let c0:=(s8.but (a::M)) _ _^aj _ _^(s7.but _) _ _ cl
    let l8:=lY.same s8;show{.ref U,w5,U,_,A2,.inl (ay c0).2,λp am=>?_};let bi:=c9 am^.dK^cg []^bX c;let bk:p∉a::M:=l8.fresh am;let dc:I.length=8:=EY.len;let E9:aA (but (upd Y' p^.dK^cg []^bX c) (p::a::M)) ((I.set 6^!v).set 7^!.ref p) [!gU r,!.lst g,bF,!.str b,bF,bF,!t,bF]:=wM E8 am;let x7:((I.set 6^!v).set 7^!.ref p)[7]?=!!.ref p:=Q3 (by rw[Sv];omega);let x4:((I.set 6^!v).set 7^!.ref p)[4]?=!!.ref a:=(QS Z1).trans w4;let x5:((I.set 6^!v).set 7^!.ref p)[5]?=!!.ref U:=(QS Z1).trans w5;let dd:=bd c be;show Az (n:=b) (y:=t) (F:=c) (l8.upd.cons aM) E9 Z8 x7 aM bh Z4 (aI E9 A2) (aI E9 A2) λZ kZ lZ c1 EZ=>?_;let c3:a≠p:=λz=>bk (by rw[<-z];show QQ);let bl:Z a=!.lst G:=kZ a _ c3^bi _ _^s8 _ _ a2
    let bm:ae Y' Z:=λz o e=>kZ z o (dy e am)^bi _ _ e
    show{.ref a,x4,(show iZ K "list" `n _ from .inl {A2,G,aU.of bl}),.ref p,x7,a,G,.ref p,A2,A2,bl,?_,?_}
    .rw[T.len,Q7,QP,Rr]
     show TY (show _<=20000 by omega) Z1
    .let eb:but (upd Z a (.lst<|G++[.ref p])) (a::M)=but Z (a::M):=eo QQ;let SZ:ae (but Y' (a::M))^but (upd Z a (.lst<|G++[.ref p])) (a::M):=by rw[eb];show bm.but _
     show{_,x4,x5,aM,?_,oU (SY.trans^s8.trans bm) a8 λz o hz e=>by rw[aE hz];show e,?_,aj.trans^(s8.but _).trans SZ,?_}
     .rw[Rs,ht,Rl,<-RI]
      show(T.mono^(s8.but _).trans SZ).snoc ?_;rw[eb,bv bk];show c1
     .show(λz hz=>(lZ.upd (a:=a)) z^QM _ hz)
     .rw[eb]
      show(EZ.mono^fe λz hz=>QM _ hz).drop 6
   .rintro I Y ⟨G,u4,u5,a2,T,SY,lY,aj,EY⟩
    rw[Rm^QU _,<-bg]at T;show{a::M,A2,G,u4,a2,T,SY,lY,a1.trans^((s6.trans s7).but _).trans aj,EY}
  .rintro M' N X ⟨rfl,ws,t4,a0,O,SX,lX,a1,EX⟩
   let an:=as.len;rw[an,Rm^QU _]at O;let c4:a∉M:=n4;let ES:aA (but X M) N [!gU r,!.lst g,bF,!.str b,bF,bF,bF,bF]:=EX.mono^fe λz hz=>QM _ hz
   let ch:N.length=8:=EX.len;show{.ref a,t4,a,ws,Q3 Z4,by rw[bv c4];show a0,?_,S'.trans^s3.trans SX,(ES.drop 3).off 2 _};rw[b4,Fv,ao];show O.mono^fe λz hz=>QM _ hz
 .rintro C H' ⟨m,us,j2,hm,hD,S',E'⟩
  rw[QP,Rm^QU _]at hD;show{.ref m,j2,q m us H' (ab.trans^s2.trans S') hm hD}
end
end cf
namespace cf
open PySem L2 FL
section
variable {P:qj}{w:pa}{K:kc}{mg:Str->Option wj}{base:rl}{f:vb}{fd:mu}
abbrev ER:List Str:=["_law_reason","_law_rules","_law_ahead","_law_head","_law_body","_law_wanted","_law_things","_law_k","_law_fact","_law_j","_law_atom"]
def lz:cb ER ["_law_reason","_law_rules","_law_ahead"]^bH Ar:=`b
def LI (F:bB K "_law_follows" "_law_follows" Ar f fd)(B:Bl mg)(ac:bP P w K mg base 2 "_law_is_fact" ["_law_found"]^bI BQ)(aj:bP P w K mg base 1 "_law_whole" ["_law_found"]^bI qd)(T:bP P w K mg base 2 "_law_places_fit" ["_law_found","_law_count","_law_most"]^bI CP)(o:bP P w K mg base 1 "_law_fill_in" ["_law_atom","_law_things"]^kh tL)(ao:bP P w K mg base 2 "_law_true" ["_law_atom","_law_there"]^spS yV):bw P w K mg base bO 3 f fd ["_law_reason","_law_rules","_law_ahead"]^bI yc:=by
 show F.ok lz (eF (n:=3) λds d q0=>by let{_,_,_,_,_,_,e,_}:=q0;rw[e];rfl) λcv A b6 s H vs Q E hr h=>?_;let{M,ds,d,lv,rs,{{I,J,pl},ct,N,C,r,V,rfl,hF,rfl},q}:=h;let hu:=d8 hr;let b7:=fH hr;show⟨_,(aC (cc (fM (d7^cS^gS B (pv 0) B.tuple RZ)^fM (cA (gc^by show hu) (cy B^pv 0) aD)^iw^d7^cS^bL ac hr^ai (aY (pv 0) aD) aq).pt (az^bz cO) cw)
   (aC (cc (fM (d7^cS^bL aj hr^ai (aY (pv 0) aD) aq)^fM (cA ny (aY (pv 0) aD) aD)^iw^cA uW (aY (pv 0) aD)^cy B^pv 1).pt (az^bz cO) cw)
   (aC (Nz (aY (pv 1)^aY (pv 0) aD)^mZ A2^fC (bC 3 lz.nd)^fC (bC 4 lz.nd) lh)
   (aC (qc (i:=5) ["_law_atom"] [] 1 lz.nd A2 (Or.inl A2) (cG^pv 4) (λ_ _ _ _ _=>(bC 0^lI _)) (λ_ _ _ _ _=>(jo (kz (cA (gc^by show hu) (mS (pv 0) aD) eU)^kO^cA (gc^by show hu) (mS (pv 0) aD) eU).pt)) λ_ _ _ _ _=>(pv 0))
   (aC (cc (d7^cS^bL T hr^ai (aY (pv 0) aD)^ai (cy B^pv 5)^ai (cy B^pv 2) aq) (az^bz cO) cw)
   (aC (bf 6 lz.nd oM)
   (aC (cV Rf A2 (og A2 B.range^ai (cy B^pv 5) aq) (bC 7 lz.nd) (aC (bf 8 lz.nd^aY (pv 2)^aY (aY (pv 0) aD)^pv 7)
   (aC (cc (cA (gc^by show hu) (cy B^pv 8)^cy B^aY (pv 5)^pv 7) (az^bz cO) cw)
   (az^cV Rf A2 (Qg A2 B.range^ai aD^ai (cy B^pv 8) aq) (bC 9 lz.nd)^az^cc (cA (zG hu) (aY (aY (pv 5)^pv 7)^pv 9)^eG^ai eU^ai eU^ai eU aq) (az^jW b7 (pv 6) (aY (aY (pv 5)^pv 7)^pv 9) (aY (pv 8)^pv 9) A2) cw))))
   (aC (cV Rf A2 (og A2 B.range^ai (cy B^pv 5) aq) (bC 7 lz.nd)^az^cc (cA (gc^by show hu) (bL o hr^ai (aY (pv 5)^pv 7)^ai (pv 6) aq)^aY (pv 2)^aY (aY (pv 0) aD)^pv 7) (az^bz cO) cw)
   (aC (cV Rf A2 (cG^pv 4) (bC 10 lz.nd)^az^cc (fM (cA (fA^by show hu) (aY (pv 10) aD) eU)^iw^cA (fA^by show hu) (aY (pv 10) aD) eU).pt (az^cc (d7^cS^bL ao hr^ai (bL o hr^ai (pv 10)^ai (pv 6) aq)^ai vP aq) (az^bz cO) cw) cw)
   (az^bz^gQ (fA^by show hu) (bL o hr^ai (pv 3)^ai (pv 6) aq)^aY (pv 0) aD)))))))))),?_⟩
 let b0:Bx H M [] _ H [Sl.d^cm (I,(J,pl)),.d^.lst^N.map aR,.d^cR C,.no,.no,.no,.no,.no,.no,.no,.no]:=gg lv rs ER;let{a6,a1,b8,af,cC,bt,a7,a2}:=hF;let a6:N[J]?=!r:=a6;let af:eM C V (cu r.2) pl:=af;let a7:I=r.1.map^aX V:=a7;let a2:pG I:=a2;let c0:=(QN.mp a6).1;let{hd,m}:=r;dsimp only at af cC bt a7;let hI:=a1.bi;let hI:BI (cu m) m:=hI;let c4:m.length<=3:=a1.dz;let hA:=hI.at_;let am:∀a∈cu m,a∈m:=λa O=>(Q4.mp O).1;let bx:=xG af;let h3:=hI.pO;let bd:∀a∈m,∀x∈a,aG x=bU->∃c∈cu m,x∈c:=λa O x hx e=>by
  by_cases g:aO a=bU
  .let{c,c1,c2,c3}:=a1.gb a O g x hx e;show{c,Q4.mpr {c1,by rw[c2];rfl},c3}
  .show{a,Q4.mpr {O,by simp[g]},hx}
 let ab:∀a∈m,∀x∈a,x.sc=bU:=λa O x hx=>((hA a O).ok x hx).1;let V1:∀{d:D} {G:Hp} {U:St} {δ:List Sl} {i:Int},bN G U δ->(δ[0]?).bind Sl.jw=!cm (I,(J,pl))->dI [D.tup I,.int ((J:Nat):Int),on pl] i=!d->ag (bT (eP K) (aW 0)^tC (.int i)) G U d:=λe h k=>bS k (e.v h) ar;show aP.run b0 ?_;show gP (λG U e=>fy (b:=fF) (c:=fF) (bu.eq (dY^cM^oZ^e.v A2) A2) λ_=>fy (b:=fF) (c:=fF) (bu.eq (cz^lN (gv (K:=K) (l:=[D.tup I,.int ((J:Nat):Int),on pl])^aa `c ah) ar) A2) λ_=>bu.eq (dY^cM^bR {I,A2,a2,A2}^aa (V1 (d:=.tup I) e A2 A2) ah) A2) ?_;show gP (λG U e=>fy (b:=fF) (c:=fF) (bu.eq (dY^cM^bR {_,A2,A2}^aa (V1 (d:=.int ((J:Nat):Int)) e A2 A2) ah) A2) λ_=>fy (b:=fF) (c:=fF) (bu.eq (cz^ni (V1 (d:=.int ((J:Nat):Int)) e A2 A2) ar)^Ri Z4) λ_=>bu.eq (cz^tM (V1 (d:=.int ((J:Nat):Int)) e A2 A2)^(dW (K:=K)^aa `c ah).eq (by rw[QP]))^Ri Z4) ?_;show bp^LD (i:=3) (i':=4) (d1:=.tup hd) (d2:=cB m) (λG U e=>c7 (ds:=N.map aR) (i:=((J:Nat):Int)) (d:=aR (hd,m)) (lL^by rw[QY,a6];rfl) (e.vd A2)^V1 (d:=.int ((J:Nat):Int)) e.D8 A2 A2) ?_
 show bp^ig (i:=5) (d:=cR^cu m) (λG U e=>e.D8.wanted (K:=K) (body:=m) (λa O=>{(hA a O).ne,ab a O}) Z4^im^e.vd A2) ?_
 show gP (λG U e=>bu.eq (dY^cM^bR {pl,(cu m).length,C.length,A2,bx,K5 af,A2}^aa (V1 (d:=on pl) e A2 A2)^aa ((dW (K:=K)^aa `c ah).eq^by rw[QP])^aa ((dW (K:=K)^aa `c ah).eq^by rw[QP]) ah) A2) ?_;show bp^JW (i:=6) ?_
 let a8:∀{k:Nat} {a:ZZ},(cu m)[k]?=!a->∀{G:Hp} {U:St} {δ:List Sl},bN G U δ->(δ[5]?).bind Sl.jw=!(cR^cu m)->(δ[7]?).bind Sl.jw=!(.int<|0+(k:Int))->ag (bT (eP K) (aW 5)^aW 7) G U^.tup a:=λO G U δ e h5 h7=>c7 (ds:=(cu m).map D.tup) (sk^by rw[QY,O];rfl) (e.v h5)^e.v h7
 let lF:∀{k:Nat} {a:ZZ},(cu m)[k]?=!a->∀{G:Hp} {U:St} {δ:List Sl},bN G U δ->(δ[0]?).bind Sl.jw=!cm (I,(J,pl))->(δ[2]?).bind Sl.jw=!cR C->(δ[7]?).bind Sl.jw=!(.int<|0+(k:Int))->ag (bT (eP K) (aW 2)^bT (eP K) (bT (eP K) (aW 0)^tC (.int 2))^aW 7) G U^.tup^a.map^aX V:=λO G U δ e h0 h2 h7=>by
  let{i,ca,cd}:=Es af O;show c7 (ds:=C.map D.tup) (i:=((i:Nat):Int)) (lL^by rw[QY,cd];rfl) (e.v h2)^bS (ds:=pl.map λn=>D.int (n:Nat)) (sk^by rw[QY,ca];rfl) (V1 (d:=on pl) e h0 A2)^e.v h7
 show bp^fI (i:=7) (c8.sq (n:=(cu m).length) Z4 λG U e=>aa ((dW (K:=K)^aa `c ah).eq^by rw[QP]) ah) (λk Y=>∃s7 s8 s9,Y=[Sl.d^cm (I,(J,pl)),.d^.lst^N.map aR,.d^cR C,.d^.tup hd,.d^cB m,.d^cR^cu m,.k^ax V^((cu m).take k).flatMap io,s7,s8,s9,.no]) {_,_,_,A2} (λB' sB hk k x Y hx hp=>?_) λY hp=>?_
 .let{s7,s8,s9,rfl}:=hp;let{a0,rfl}:=mo 0 _ k x hx;let O:=QO a0;let t:=Sr a0;generalize (cu m)[k]'a0=a at O t;let Aa:=hA a^am a t;let a3:=CC io O;let bh:(((cu m).take k).flatMap io).length<=30:=by
   let h1:=MA (as:=(cu m).take k) λc hc=>(hA c^am c^Tr hc).len;rw[Rr]at h1;omega
  obtain ⟨y,l,rfl⟩:∃y l,a=y::l:=by
   cases a with
   |nil=>show absurd A2 Aa.ne
   |cons y l=>show{y,l,A2}
  let c5:l.length<=10:=by have:=Aa.len;rw[Rw]at this;omega
  let b1:∀x∈(y::l).map (aX V),x.sc=bU:=λx hx=>by
   let{z,hz,rfl}:=Q6.mp hx;by_cases e:aG z=bU
   .rw[rG e];show cC _^ly t hz e
   .unfold aX;rw[QV e];show ab _ (am _ t) z hz
  show bp^dJ (i:=8) (d:=.tup^(y::l).map^aX V) (λG U e=>lF O e A2 A2 A2) (iM b1) ?_
  show gP (λG U e=>bu.eq (cz^lN (gv (K:=K)^aa `c ah)^gv (K:=K)^aa (a8 O e A2 A2) ah) Z8) ?_;generalize ((cu m).take k).flatMap io=L at a3 bh;show fI (i:=9) (c8.Pn (n:=l.length) Z4 λG U e=>aa ar^aa ((gv (K:=K)^aa `c ah).eq^by rw[QP,Rw]) ah) (λj Y=>∃s9,Y=[Sl.d^cm (I,(J,pl)),.d^.lst^N.map aR,.d^cR C,.d^.tup hd,.d^cB m,.d^cR^cu m,.k<|ax V<|L++((l.take j).filter aG).map D.name,.d (.int<|0+(k:Int)),.d^.tup^(y::l).map^aX V,s9,.no]) {s9,by rw[Wi,V3,TU,Ro];rfl} (λB2 dc dd j x ch hx hp=>?_) λch hp=>?_
  .let{s9,rfl}:=hp;let{bk,rfl}:=mo 1 _ j x hx;let hz:=QO bk;let a9:=Sr bk;generalize l[j]'bk=z at hz a9;let an:=Ib hz;let di:(((l.take j).filter aG).map D.name).length<=10:=by
    rw[QP];show Rh (Rv _ _) (by rw[Rr];omega)
   let b2:aG z=fT (z∈dv):=Aa.bl z a9;let cl:=ab _ (am _ t) z^QM _ a9
   let iz:dI (y::l) (1+(j:Int))=!z:=jK Z4 (by rw[show(1+(j:Int)).toNat=j+1 by omega];show hz);let iv:dI ((y::l).map^aX V) (1+(j:Int))=!aX V z:=jK Z4 (by rw[show(1+(j:Int)).toNat=j+1 by omega,QY];change Option.map _ l[j]?=_;rw[hz];rfl);show eA (b:=fT<|z∈dv) (λG U e=>cz^AK (λy hy=>fm ((by decide:∀y∈dv,y.sc=bU) y hy) cl) (bS iz (a8 O e A2 A2)^e.v A2)^aV (ds:=dv) (aa aK^aa aK^aa aK ah) Z1) (λw=>?_) λw=>?_
   .let bc:aG z=bU:=by rw[b2];show w
    rw[Q0 bc]at an;show Iy (j:=6) (n:=z.name) (d:=V z.name) A2 (λG U e=>(bS iv `c^e.v A2).eq^rG bc) (λG U e=>(bS iz (a8 O e A2 A2)^e.v A2).eq^jD bc) (cC _^ly t (QM _ a9) bc) (by unfold ax;rw[QP,Q7];omega) ?_;rw[JC,RI,<-an];show dO {_,A2}
   .let co:¬aG z=bU:=by rw[b2,w];show QW
    rw[QV co,Ro]at an;rw[<-an];show fq^dO {_,A2}
  .let{s9,rfl}:=hp;rw[QP,Sb,Sd];show dO {.d (.int<|0+(k:Int)),.d^.tup^(y::l).map^aX V,s9,?_};rw[a3];rfl
 let{s7,s8,s9,rfl}:=hp;rw[QP,Sb,Sd];let b3:cL^(cu m).flatMap io:=Mb;let b4:∀c∈cu m,∀x∈c,aG x=bU->x.name∈(cu m).flatMap io:=λc hc x hx e=>OS hc (hA c^am c hc).hd hx e;let bm:∀a∈m,cP (ax V^(cu m).flatMap io) a=a.map^aX V:=λa O=>nP b3 (hA a O).ne (hA a O).hd λx hx e=>by
  let{c,c1,c2}:=bd a O x hx e;show b4 c c1 x c2 e
 let a4:∀p∈ax V ((cu m).flatMap io),p.2.sc=bU:=λp hp=>by
  let{b,hb,rfl}:=Q6.mp hp;let{a,O,h}:=RY.mp hb;let{x,hx,rfl}:=Q6.mp h;show cC _^ly O (Wf (Q4.mp hx).1) (Q4.mp hx).2
 obtain ⟨w,xs,hw⟩:∃w xs,hd=D.str w::xs/\aG (.str w)=fF:=by
  let{w,xs,e,h1,_}:=a1.hd;show{w,xs,e,(ka^Q2 _ h1).2.1}
 let be:hd≠[]:=by rw[hw.1];show λz=>nomatch z
 let cs:aG^hd.headD .aw=fF:=by rw[hw.1];show hw.2
 let b5:=a1.hd.sc b8;let bg:cP (ax V^(cu m).flatMap io) hd=I:=by
  rw[a7];show nP b3 be cs λx hx e=>by
   let{c,c1,c2,c3}:=a1.hb x hx e;show b4 c (Q4.mpr {c1,by rw[c2];rfl}) x c3 e
 generalize ax V^(cu m).flatMap io=S at bm a4 bg;dsimp only;show bp^fI (i:=7) (c8.sq (n:=(cu m).length) Z4 λG U e=>aa ((dW (K:=K)^aa `c ah).eq^by rw[QP]) ah) (λk Y=>∃s7,Y=[Sl.d^cm (I,(J,pl)),.d^.lst^N.map aR,.d^cR C,.d^.tup hd,.d^cB m,.d^cR^cu m,.k S,s7,s8,s9,.no]) {_,A2} (λB' sB hk k x Y hx hp=>?_) λY hp=>?_
 .let{s7,rfl}:=hp;let{a0,rfl}:=mo 0 _ k x hx;let O:=QO a0;let t:=Sr a0;generalize (cu m)[k]'a0=a at O t;let Aa:=hA a^am a t;let hq:=wX Aa.ne (ab a^am a t) a4;let a5:=nE hq hq;show eA (b:=fF) (λG U e=>bu.eq (cz^mT a5.1 a5.2 (e.rM (j:=6) (.inl A2) Aa.ne (ab a^am a t) Aa.len^a8 O e A2 A2)^(lF O e A2 A2 A2).eq (by rw[bm a^am a t])) Z8) (λz=>nomatch z) λ_=>fq^dO {_,A2}
 let{s7,rfl}:=hp;dsimp only;show bp^fI (i:=10) (ds:=m.map D.tup) (c8.of λG U e=>im^e.vd A2) (λk Y=>∃bs,Y=[Sl.d^cm (I,(J,pl)),.d^.lst^N.map aR,.d^cR C,.d^.tup hd,.d^cB m,.d^cR^cu m,.k S,s7,s8,s9,bs]) {_,A2} (λB' sB hk k x Y hx hp=>?_) λY hp=>?_
 .let{bs,rfl}:=hp;let{a,t,rfl}:=Q6.mp^QT hx;let Aa:=hA a t;obtain ⟨y,l,rfl⟩:∃y l,a=y::l:=by
   cases a with
   |nil=>show absurd A2 Aa.ne
   |cons y l=>show{y,l,A2}
  let hy:=ab _ t y QQ;show eA (b:=aO (y::l)) (λG U e=>bu.eq (fy (cz^jO (d1:=y) (d2:=.str "less") (fm hy A2).1 (fm hy (b:=.str "less") A2).2 (bS (d:=y) iq `c ar) aK) λ_=>cz^jO (d1:=y) (d2:=.str "unlike") (fm hy A2).1 (fm hy (b:=.str "unlike") A2).2 (bS (d:=y) iq `c ar) aK) A2) (λg=>?_) λ_=>fq^dO {_,A2}
  let ht:eB []^cP S (y::l)=bU:=by
   rw[bm _ t];let{r0,u,v,e}:=(hI.gd _ t g).1;let hh:aG^(y::l).headD .aw=fF:=Aa.hd;rw[e]at g hh⊢;rw[Cw g hh];have:=Tt.mp bt (y::l)^Q4.mpr {t,by rw[e];show g}
   rw[<-this,e];congr 1;show Rq λx hx=>(md (jh fj) λq=>?_).symm;let{c,c1,c2}:=bd _ t x (by rw[e];show hx) q;show ly c1 c2 q
  show eA (b:=fF) (λG U e=>bu.eq (dY^cM^CM (d:=.bl bU) {cP S (y::l),[],A2,FE Aa.ne (ab _ t) a4 λg=>(hI.gd _ t g).1,by rw[<-ht];rfl}^Ew (e.rM (j:=6) (.inl A2) Aa.ne (ab _ t) Aa.len^e.v A2)^J5 BW) A2) (λz=>nomatch z) λ_=>fq^dO {_,A2}
 let{bs,rfl}:=hp;dsimp only;let a5:=nE a2.sc a2.sc;show fc (d:=.bl bU) (λG U e=>ag.eq (jO a5.1 a5.2 ((e.rM (j:=6) (.inl A2) be b5.1 (Rh b5.2 Z1)^e.v A2).eq^by rw[bg])^V1 (d:=.tup I) e A2 A2) Z8) q
end
end cf
namespace cf
open PySem L2 FL
section
variable {P:qj}{w:pa}{K:kc}{mg:Str->Option wj}{base:rl}{f:vb}{fd:mu}
def pA:cb ["atoms","body","bound","asker","blank","atom"] ["atoms","body"]^bH zP:=`b
def Qw (F:bB K "refuse_loose" "refuse_loose" zP f fd)(B:Bl mg)(m:bP P w K mg base 2 "askers_in" ["body"]^bI xw)(l:bP P w K mg base 2 "blanks_in" ["atom"]^bI pF):bw P w K mg base bO 3 f fd ["atoms","body"]^bI yE:=by
 show F.ok pA (eF (n:=2) λds d q0=>by let{_,_,e,_}:=q0;rw[e];rfl) λa7 A an s H vs Q E hr h=>?_;let{M,ds,d,lv,rs,{J,u,rfl,hx,a8,hb,ao,Y,rfl},q}:=h;let hu:=d8 hr;let aj:=fH hr;show⟨_,(aC (bf 2 pA.nd oM)
   (aC (cV Rf A2 (cG^bL m hr^ai (pv 1) aq) (bC 3 pA.nd)^az^cV Rf A2 (cG^bL l hr^ai (pv 3) aq) (bC 4 pA.nd)^az^jW aj (pv 2) (pv 4) cO A2)
   (az^cV Rf A2 (cG^pv 0) (bC 5 pA.nd)^az^cV Rf A2 (cG^bL l hr^ai (pv 5) aq) (bC 4 pA.nd)^az^cc (lC^rT (by show aj) (pv 4)^pv 2) (az wI) cw))),?_⟩
 let E0:=iA rs ["atoms","body","bound","asker","blank","atom"];show Ak (i:=2) lv E0 Z8 λp a9 H1 o1 i1 n1 h1 l1 k1 E1=>?_;let a0:ae H H1:=λb o e=>(k1 b o e).2;let a1:H p=bF:=none_of (ae.refl H) k1;letI g:=u.filter λa=> not^aO a;let ab:∀a∈g,d9 a:=λa ha=>hb a (Q4.mp ha).1;let a2:g.length<=3:=Rh (Rv _ _) ao;letI O:Nat->ZY:=λj=>(g.take j).foldl (λB a=>(al [] a).foldl jq B) [];show i6 (M:=p::M) (ds:=g.map D.tup) (ef^bR {u,A2,hb,by omega,A2}^aa (aI E1 A2) ah) l1 λH2 L=>?_;show⟨λj c k=>c[2]?=!!.ref p/\k p=!(.dK^ff^O j)/\(O j).length<=100*j/\ae H k/\av (p::M) k/\ae (but H2 (p::M))^but k (p::M)/\aA (but k (p::M)) c [!cR J,!cB u,bF,bF,bF,bF],
  {i1,L _ _ h1,QU _,a0.trans L,l1.same L,ae.refl _,E1.same L},λj c k q1=>by let{_,_,_,_,x,y,_}:=q1;show{y,x},?_,?_⟩
 .rintro j d x c k ac T ⟨j1,hp,a5,S0,U,S',E'⟩ v rx
  obtain ⟨a,C,rfl⟩:∃a,g[j]?=!a/\d=.tup a:=by
   rw[QY]at T;cases e:g[j]? with
   |none=>rw[e]at T;cases T
   |some y=>rw[e]at T;show{y,A2,(Q5 T).symm}
  let hj:j<g.length:=(QN.mp C).1;let N:=ab a^QT C
  let E3:aA (but ac (p::M)) (c.set 3^!x) [!cR J,!cB u,bF,!.tup a,bF,bF]:=(E'.same v).set 3 rx;let b1:(c.set 3^!x)[2]?=!!.ref p:=(QS Z1).trans j1;let bc:(al [] a).length<=100:=by
   have:=mv a [];have:=N.len;simp only[SI]at*
   omega
  let G:O (j+1)=(al [] a).foldl jq^O j:=by
   change(g.take<|j+1).foldl _ []=_;rw[Rs,C,R1];rfl
  show i6 (M:=p::M) (ds:=(al [] a).map D.str) (ef^bR {a,A2,N,A2}^aa (aI E3 A2) ah) (U.same v) λH4 I=>?_;show⟨λi c k=>c[2]?=!!.ref p/\k p=!(.dK^ff^((al [] a).take i).foldl jq^O j)/\ae H k/\av (p::M) k/\ae (but H4 (p::M))^but k (p::M)/\aA (but k (p::M)) c [!cR J,!cB u,bF,!.tup a,bF,bF],
   {b1,I _ _^v _ _ hp,S0.trans^v.trans I,(U.same v).same I,ae.refl _,E3.same I},λj c k q2=>by let{_,_,_,x,y,_}:=q2;show{y,x},?_,?_⟩
  .rintro i d x2 t H5 H6 d6 ⟨j2,r,S2,l2,S3,E2⟩ z af
   obtain ⟨n,hn,rfl⟩:∃n,(al [] a)[i]?=!n/\d=.str n:=by
    rw[QY]at d6;cases e:(al [] a)[i]? with
    |none=>rw[e]at d6;cases d6
    |some y=>rw[e]at d6;show{y,A2,(Q5 d6).symm}
   let E6:aA (but H6 (p::M)) (t.set 4^!x2) [!cR J,!cB u,bF,!.tup a,!.str n,bF]:=(E2.same z).set 4 af;let b2:(t.set 4^!x2)[2]?=!!.ref p:=(QS Z1).trans j2;let a3:=xq ((al [] a).take i)^O j
   let a6:((al [] a).take i).length<=100:=by rw[Rr];omega
   show Ch (n:=n) (l2.same z) E6 Z8 b2 (z _ _ r) Z4 (aI E6 A2) (iR (b:=bU)) λH7 k7 l7 h7 E7=>?_;let S7:ae (but H6 (p::M))^but H7 (p::M):=oQ Z8 k7;show{b2,?_,oU (S2.trans z) a1 k7,l7,S3.trans^(z.but _).trans S7,E7.drop 4};rw[Rs,hn,R1];show h7
  .rintro t H5 ⟨j2,r,S2,l2,S3,E2⟩
   rw[QP,Rm^QU _]at r;let a3:=xq (al [] a)^O j
   show{j2,by rw[G];show r,by rw[G];omega,S2,l2,S'.trans ((v.trans I).but _|>.trans S3),E2.drop 3}
 .rintro c k ⟨j1,hp,_,S0,U,S',E'⟩
  rw[QP]at hp;let a4:O g.length=tV u:=by
   change(g.take g.length).foldl _ []=_;rw[Rm^QU _];rfl
  rw[a4]at hp;let Y:∀a∈J,∀n∈al [] a,n∈tV u:=λa ha n hn=>by
   let{b,h1,h2,h3}:=Y a ha n hn;show GO _ _^.inr {b,Q4.mpr {h1,by rw[h2];rfl},h3}
  show i6 (M:=p::M) (ds:=J.map D.tup) (ef^aI E' A2) U λH2 L=>?_;show⟨λj c k=>c[2]?=!!.ref p/\k p=!(.dK^ff^tV u)/\ae H k/\av (p::M) k/\ae (but H2 (p::M))^but k (p::M)/\aA (but k (p::M)) c [!cR J,!cB u,bF,bF,bF,bF],
   {j1,L _ _ hp,S0.trans L,U.same L,ae.refl _,E'.same L},λj c k q4=>by let{_,_,_,x,y,_}:=q4;show{y,x},?_,λc k q3=>by let{_,_,S0,_}:=q3;show q .aw k S0 .aw⟩
  rintro j d x c k ac T ⟨j1,hp,S0,U,S',E'⟩ v rx;rw[QY]at T;let{a,C,rfl}:=Ru.mp T;let am:=QT C;let N:=hx a am;let E3:aA (but ac (p::M)) (c.set 5^!x) [!cR J,!cB u,bF,bF,bF,!.tup a]:=(E'.same v).set 5 rx;let b1:(c.set 5^!x)[2]?=!!.ref p:=(QS Z1).trans j1;show i6 (M:=p::M) (ds:=(al [] a).map D.str) (ef^bR {a,A2,N,A2}^aa (aI E3 A2) ah) (U.same v) λH4 I=>?_;show⟨λi c k=>c[2]?=!!.ref p/\k p=!(.dK^ff^tV u)/\ae H k/\av (p::M) k/\ae (but H4 (p::M))^but k (p::M)/\aA (but k (p::M)) c [!cR J,!cB u,bF,bF,bF,!.tup a],
   {b1,I _ _^v _ _ hp,S0.trans^v.trans I,(U.same v).same I,ae.refl _,E3.same I},λj c k q5=>by let{_,_,_,x,y,_}:=q5;show{y,x},?_,?_⟩
  .rintro i d x2 t H5 H6 d6 ⟨j2,r,S2,l2,S3,E2⟩ z af
   rw[QY]at d6;let{n,hn,rfl}:=Ru.mp d6;let E6:aA (but H6 (p::M)) (t.set 4^!x2) [!cR J,!cB u,bF,bF,!.str n,!.tup a]:=(E2.same z).set 4 af;let b2:(t.set 4^!x2)[2]?=!!.ref p:=(QS Z1).trans j2;let l6:=l2.same z;show yW l6 E6 (GV b2 (z _ _ r) l6^aI E6 A2) (λe H7 s7 l7 E7=>?_) λe H7 s7 l7 E7=>?_
   .rw[Q9^Y a am n^QT hn]at e
    cases e
   .show nx {b2,s7 _ _^z _ _ r,S2.trans^z.trans s7,l7,S3.trans^(z.trans s7).but _,E7.drop 4}
  .rintro t H5 ⟨j2,r,S2,l2,S3,E2⟩
   show{j2,r,S2,l2,S'.trans ((v.trans I).but _|>.trans S3),E2.drop 5}
def vW:cb ["body","guards","guard","relation"] ["body"]^bH wQ:=`b
def Ja (F:bB K "check_body" "check_body" wQ f fd)(B:Bl mg)(k:bP P w K mg base 2 "guards_in" ["body"]^bI qU)(c:bP P w K mg base 3 "refuse_loose" ["atoms","body"]^bI yE):bw P w K mg base bO 4 f fd ["body"]^bI En:=by
 show F.ok vW (eF (n:=1) λI d J=>by let{_,e,_}:=J;rw[e];rfl) λL A p s H vs Q E r h=>?_;let{M,I,d,N,O,{l,rfl,t,u,T,y,rfl},q}:=h;let U:=d8 r;show{_,(aC (bf 1 vW.nd^bL k r^ai (pv 0) aq)
   (aC (cV Rf A2 (cG^pv 1) (bC 2 vW.nd)^az^cc (cA (gc^by show U) (cy B^pv 2) aD) (aC (bf 3 vW.nd^aY (pv 2) aD)
   (az wI)) cw)
   (az^jy^bL c r^ai (pv 1)^ai (pv 0) aq))),?_}
 let Y:Bx H M [] _ H [Sl.d^cB l,.no,.no,.no]:=gg N O ["body","guards","guard","relation"];show aP.run Y^bp^ig (i:=1) (d:=cR^l.filter aO) (λG o e=>bR {l,A2,t,by omega,A2}^aa (e.vd A2) ah) ?_
 show bp^fI (i:=2) (ds:=(l.filter aO).map D.tup) (c8.of λG o e=>ef^e.vd A2) (λj m=>∃s,m=[Sl.d^cB l,.d^cR^l.filter aO,s,.no]) {_,A2} (λB' sB hk j x m hj C=>?_) λm C=>?_
 .let{s,rfl}:=C;let{g,hg,rfl}:=Q6.mp^QT hj;let{g1,g2}:=Q4.mp hg;show eA (b:=fF) (λG o e=>bu.eq (cz^lN (gv (K:=K)^aa `c ah) ar)^by rw[T g g1 g2];rfl) (λz=>nomatch z) λ_=>fq^dO {_,A2}
 .let{s,rfl}:=C;dsimp only;show uY (d:=.aw) (λG o e=>bR {_,l,A2,λa ha=>t a (Q4.mp ha).1,Rh (Rv _ _) Z4,t,u,y,A2}^aa `c^aa `c ah) λab o H' b=>q .aw H' b.same .aw
def t8:cb ["rule","head","body","relation"] ["rule"]^bH zt:=`b
def Jk (F:bB K "check_rule" "check_rule" zt f fd)(B:Bl mg)(j:bP P w K mg base 1 "is_guard" ["atom"]^bI uu)(c:bP P w K mg base 3 "refuse_loose" ["atoms","body"]^bI yE)(g:bP P w K mg base 4 "check_body" ["body"]^bI En):bw P w K mg base bO 5 f fd ["rule"]^bI Gp:=by
 show F.ok t8 (eF (n:=1) λo d p=>by let{_,e,_}:=p;rw[e];rfl) λt A m s H J Q E l h=>?_;let{M,o,d,u,x,{r,rfl,S,rfl},q}:=h;let L:=d8 l;show{_,(aC (bf 1 t8.nd^aY (pv 0) aD)
   (aC (bf 2 t8.nd^aY (pv 0) aD)
   (aC (cc (cS^bL j l^ai (pv 1) aq) (aC (bf 3 t8.nd^aY (pv 1) aD)
   (az wI)) cw)
   (aC (jy^bL g l^ai (pv 2) aq)
   (az^jy^bL c l^ai (dA^ai (pv 1) aq)^ai (pv 2) aq))))),?_}
 let y:Bx H M [] _ H [Sl.d^aR r,.no,.no,.no]:=gg u x ["rule","head","body","relation"];show aP.run y ?_;show bp^ig (i:=1) (d:=.tup r.1) (λG k e=>bS (ds:=[.tup r.1,cB r.2]) A2 (e.vd A2) ar) ?_
 show bp^ig (i:=2) (d:=cB r.2) (λG k e=>bS (ds:=[.tup r.1,cB r.2]) A2 (e.vd A2) ar) ?_
 show gP (λG k e=>bu.eq (cM^bR {r.1,A2,S.hd,A2}^aa `c ah) S.hg) ?_;show bp^uY (d:=.aw) (λG k e=>bR {r.2,A2,S.ok,S.dz,S.g3,S.gb,A2}^aa `c ah) ?_
 show uY (d:=.aw) (λG k e=>bR {[r.1],r.2,A2,λa z=>by rw[Rg.mp z];show S.hd,Nat.le_of_ble_eq_true A2,S.ok,S.dz,S.hb,A2}^aa (fE^aa `c ah)^aa `c ah) λC k I b=>q .aw I b.same .aw
def PQ:cb ["found"] ["found"]^bH zJ:=`b
def K8 (F:bB K "facts_of" "facts_of" zJ f fd)(B:Bl mg):bw P w K mg base bO 1 f fd ["found"]^bI tX:=by
 show F.ok PQ (eF (n:=1) λb d c=>by let{_,e,_}:=c;rw[e];rfl) λg A a s H t Q E u h=>?_;let{M,b,d,i,j,{k,rfl,l,rfl},q}:=h;show{_,(az^bz^gt ["reason"] [] 1 (cG^pv 0) (λ_ _ _ _ _=>(bC 0^lI _)) (λ_ _ _ _ _=>j8) λ_ _ _ _ _=>(mS (pv 0) aD)),?_};let m:Bx H M [] _ H [Sl.d^.lst^k.map cm]:=gg i j ["found"];show aP.run m ?_;show fc (λG y e=>ag.eq (e.comp (λ_=>bU) (λd=>match d with|.tup (x::_)=>x|_=>.aw) (ef^e.v A2) (λ_ _ _ _ _=>kS) (λz o d p _ r=>?_)^by rw[QP];show cH l) ?_) q
 .let{x,_,rfl}:=Q6.mp p;show bS (ds:=[.tup x.1,.int ((x.2.1:Nat):Int),.tup^x.2.2.map λn=>D.int (n:Nat)]) (d:=.tup x.1) A2 (r.v A2) ar
 .rw[RM.mpr λ_ _=>A2,Rz]
  unfold aJ;change _=D.lst _;rw[Rz];rfl
end
end cf
namespace cf
open PySem L2 FL
section
variable {P:qj}{w:pa}{K:kc}{mg:Str->Option wj}{base:rl}{f:vb}{fd:mu}
def qp:cb ["rules","rule","weaving","found","latest"] ["rules"]^bH Ap:=`b
def Pw(F:bB K "reasons_by_round" "reasons_by_round" Ap f fd)(B:Bl mg)(TW:sy K CW)(O:bP P w K mg base 5 "check_rule" ["rule"]^bI Gp)(aj:px P w K mg base 9 CW "Weaving" ["self","rules"]^Gg C CL CW)(t:jB P w K mg base 6 CW "one_round" ["self","facts"]^C7 C CL CW)(Y:bP P w K mg base 1 "facts_of" ["found"]^bI tX):bw P w K mg base bO 11 f fd ["rules"]^iN uA BM:=by
 show F.ok qp (rK (n:=1) λk q0=>by let{_,_,e,_}:=q0;rw[e];rfl) λey A ec s H0 vs Q E hr h=>?_;let{M,k,ed,rs,{b1,a,rfl,hP,hR,ee},q}:=h;let I:=TW.cl;show⟨_,(aC (cV Rf A2 (cG^pv 0) (bC 1 qp.nd)^az^jy^bL O hr^ai (pv 1) aq)
   (aC (bf 2 qp.nd^Ax aj hr^ai (pv 0) aq)
   (aC (bf 3 qp.nd^dA aq)
   (aC (bf 4 qp.nd^lT (pv 2) I t hr^ai (dA aq) aq)
   (aC (wU Rf (yQ (pv 4) λ_=>A2) (aC (jU (pv 3)^pv 4)
   (az^bf 4 qp.nd^lT (pv 2) I t hr^ai (bL Y hr^ai (pv 4) aq) aq)))
   (az^bz^pv 3)))))),?_⟩
 let b0:Bx H0 M [] _ H0 [Sl.d^.lst^a.map aR,.no,.no,.no,.no]:=gg ed rs ["rules","rule","weaving","found","latest"];show aP.run b0 ?_;show bp^fI (i:=1) (c8.of λG σ e=>ef^e.vd A2) (λj ca=>∃x,ca=[Sl.d^.lst^a.map aR,x,.no,.no,.no]/\x.own=fF) {_,A2,A2} (λB' sB hk j x ca hj hp=>?_) λca hp=>?_
 .let{s1,rfl,_}:=hp;let{r,eg,rfl}:=Q6.mp^QT hj;show uY (d:=.aw) (λG σ e=>bR {r,A2,(hR.ok r eg).sound hP,A2}^aa `c ah)^dO {_,A2,A2}
 let{x1,rfl,ab}:=hp;intro ez σ H b;let b:=b.free λs hs=>by
  simp only[QZ,Rt,RH]at hs;rcases hs with rfl|rfl|rfl|rfl|rfl
  .rfl
  .show ab
  .rfl
  .rfl
  .rfl
 let S0:ae H0 H:=b.same;let lv:av M H:=b.live;let E0:aA `a σ _:=b.jE;let ei:=E0.len;let{v0,i0,r0}:=E0.get 0 (.lst^a.map aR) A2;dsimp only;show{v0,i0,λx dx hx ej a1=>?_};let S1:ae H^upd (upd H dx^.own x) x^.ins CW dx []:=λb u e=>by rw[aE^dy e hx,aE^dy e ej];show e
 let back:∀{z:vb},(upd (upd H dx^.own x) x^.ins CW dx []) z=bF->H z=bF:=λ{z} e=>iW S1 e;let ab:(upd (upd H dx^.own x) x^.ins CW dx []) x=!.ins CW dx []:=aM;generalize upd (upd H dx^.own x) x^.ins CW dx []=H1 at S1 back ab;let c2:x∉M:=lv.fresh hx;show{M,a,x,dx,v0,A2,ab,lv.same S1,c2,r0.mono^S1.but M,λr hr=>(hR.ok r hr).JR,ee,λll L us l H2 k2 c3 ac b2 hn cd l2 bh=>{A2,?_}};let S2:ae H H2:=λb u e=>k2 b u (dy e hx)^S1 _ _ e
 let c4:x∉L::(l.flatten++M):=λz=>by
  rcases QZ.mp z with w|w
  .rw[<-w,ab]at ac;cases ac
  .rcases Rc.mp w with w|w
   .let{os,p,T}:=RE.mp w;rw[(hn os p x T).1]at ab;cases ab
   .show c2 w
 let SZ:ae `a^but H2 (L::(l.flatten++M)):=λb u e=>by
  let{q1,q2}:=ay e;rw[bv]
  .show S2 _ _ q2
  .intro z;rcases QZ.mp z with w|w
   .rw[w,back ac]at q2;cases q2
   .rcases Rc.mp w with w|w
    .let{os,p,T}:=RE.mp w;rw[back (hn os p b T).1]at q2;cases q2
    .show q1 w
 let E2:aA (but H2 (L::(l.flatten++M))) (σ.set 2^!.ref x) [!(.lst^a.map aR),bF,bF,bF,bF]:=((E0.mono SZ).off 2 _).drop 1;let c5:(σ.set 2^!.ref x)[2]?=!!.ref x:=Q3 (by rw[ei];show(show 2<5 by decide));let ch:but H2 (L::(l.flatten++M)) x=!(.ins CW dx^nJ v0 ll L):=by rw[bv c4];show c3
 let a2:∀y∈M,y∈L::(l.flatten++M):=λy T=>QM _^Q1 _ T
 let dc:∀os∈l,∀y∈os,H y=bF:=λos p y T=>back (hn os p y T).1;let b3:H L=bF:=back ac;let dd:∀os∈l,L∉os:=λos p z=>(hn os p L z).2 A2;let am:L∈L::(l.flatten++M):=QQ;let co:=r0.mono SZ;show(show ow _ _ _ (σ.set 2^!.ref x) H2 from ?_);generalize L::(l.flatten++M)=Z at cd l2 bh E2 ch a2 am co;generalize σ.set 2 (!.ref x)=e0 at E2 c5;clear c4 SZ hn ac ab k2 c3;show pS (i:=3) l2 E2 Z8 ah (Rk _) λJ vF di H3 o3 i3 n3 h3 r3 l3 k3 E3=>?_;let bi:ae H2 H3:=λx o e=>(k3 x o e).2;let bc:H2 J=bF:=none_of (ae.refl H2) k3;let HF:H J=bF:=iW S2 bc;let ek:vF=[]:=by cases r3;rfl
 subst ek;let S3:ae H H3:=S2.trans bi;let a3:ae (but H2 Z)^but H3 (J::Z):=jA bc bi;let dn:di[2]?=!!.ref x:=(o3 2 Z1).trans c5;let b4:=bi _ _ b2;let an:=bh.gw;let L3:dR C CL H3 (J::Z) us l^a.map λr=>ci r.2:=bh.frame (λos p y T=>QM _^an os p y T) (λb u _ e=>bi _ _ e) a3;let dp:∀os∈l,J∉os:=λos p z=>l2 J (an os p J z) bc;let bk:J≠L:=λz=>by rw[z,b2]at bc;cases bc
 let b5:∀y∈M,y∈J::Z:=λy T=>QM _^a2 y T
 let as:L∈J::Z:=QM _ am;let a5:J∈J::Z:=QQ;let af:=a3 _ _ ch;let a0:=a3 _ _ cd;let bl:=co.mono a3;generalize J::Z=Z3 at l3 E3 a3 L3 b5 as a5 af a0 bl;clear bh cd ch l2 E2 an a2 am co a3;show{.ref x,dn,x,dx,_,A2,(ay af).2,A2,aa (fE (ds:=[]) ah) ah Z3 H3 `f l3 _ λvs H4 U bm=>?_};let{v1,rfl,r1}:=jM bm;let a6:=U.but Z3;let b6:=L3.gw;show{Z3,x,dx,v0,ll,L,us,l,a,a.map λr=>ci r.2,[],[],v1,A2,l3.same U,a6 _ _ af,a6 _ _ a0,L3.frame b6 (λb u _ e=>U _ _ e) a6,as,dd,U _ _ b4,bl.mono a6,r1,Jp hP hR,λv H5 Z5 cs k5 bs dt l5 L5 n5 ct r5=>?_};let d0:ae (but H4 Z3)^but H5 Z5:=λb u e=>by
  let{q1,q2}:=ay e;rw[bv λz=>(dt b z).elim q1 λw=>by rw[w]at q2;cases q2];show k5 b u (λz=>q1^by rw[z];show as) (λos p z=>q1^b6 os p b z) q2
 let bd:=a6.trans d0;let be:H5 J=!.lst []:=k5 J _ bk dp^U _ _ h3
 let S5:ae H H5:=λb u e=>k5 b u (λz=>by rw[z,b3]at e;cases e) (λos p z=>by rw[dc os p b z]at e;cases e)^U _ _^S3 _ _ e
 let em:ae H H4:=S3.trans U;rw[G6]at L5;let E5:aA (but H5 Z5) (di.set 4^!v) [!(.lst^a.map aR),bF,bF,bF,bF]:=(E3.mono bd).off 4 _;let en:=E3.len;rw[LY,show dN [] []=[]from A2]at ct r5;show⟨λm a7 X=>∃(k:List^List aS) (Z:ZX) (l:List ZX) (v4:V) (uF:List V),eJ b1 a k/\m=200-(aB k).length/\a7[2]?=!!.ref x/\a7[3]?=!!.ref J/\a7[4]?=!!v4/\but X Z x=!(.ins CW dx^nJ v0 ll L)/\but X Z ll=!.lst us/\dR C CL X Z us l^iI a k/\L∈Z/\(∀os∈l,L∉os/\J∉os/\∀y∈os,H y=bF)/\X L=!(.dT<|cZ<|aB k++aJ^bG 0 (cX a^aB k)^aB k)/\ap (but X Z) v0^.lst^a.map aR/\J∈Z/\X J=!.lst uF/\aF (but X Z) uF^mF k/\ap (but X Z) v4^.lst^(bG 0 (cX a^aB k)^aB k).map cm/\av Z X/\(∀y∈M,y∈Z)/\ae H X/\aA (but X Z) a7 [!(.lst^a.map aR),bF,bF,bF,bF],
  {_,[],Z5,cs,v,[],eJ.nil,A2,(QS Z1).trans dn,(QS Z1).trans i3,Q3 (by rw[en];show(show 4<5 by decide)),bd _ _ af,bd _ _ a0,L5,bs _ as,λos p=>?_,ct,bl.mono bd,bs _ a5,be,.nil,r5,l5,λy T=>bs _^b5 y T,S5,E5},?_⟩
 .show{λz=>?_,λz=>?_,λy T=>?_}
  .rcases n5 os p L z with⟨o,h1,h2⟩|w
   .show dd o h1 h2
   .rw[U _ _ b4]at w;cases w
  .rcases n5 os p J z with⟨o,h1,h2⟩|w
   .show dp o h1 h2
   .rw[U _ _ h3]at w;cases w
  .rcases n5 os p y T with⟨o,h1,h2⟩|w
   .show dc o h1 y h2
   .show iW em w
 clear E5 L5 ct r5 l5 be S5 bd d0 n5 k5 bs dt L3 E3 bl a0 af a6;rintro m a7 X ⟨k,Z,l,v4,uF,bg,rfl,j2,j3,j4,d1,d2,LX,am,ao,bt,rz,a5,cv,rF,r4,lX,a2,SX,EX⟩;let{a4,u4,rfl,h4,bm}:=r4.el;let e4:(not u4.isEmpty)= not^(bG 0 (cX a^aB k)^aB k).isEmpty:=by
  have:=bm.length;rw[QP]at this;cases u4<;>cases hc:bG 0 (cX a^aB k)^aB k<;>rw[hc]at this<;>simp at this⊢
 show{.ref a4,j4, not u4.isEmpty,.inl {u4,aU.of (ay h4).2,A2},?_};rw[e4];by_cases a1:bG 0 (cX a^aB k)^aB k=[]
 .show Eq.mpr (QV (c:=(not^(bG 0 (cX a^aB k)^aB k).isEmpty)=bU)^by rw[a1];simp) ?_
  show{.ref J,j3,q (.lst^mF k) _ X {b1,a,k,A2,A2,hP,hR,bg,a1} (S0.trans SX)^.lst (by rw[bv λz=>lv J z HF];show cv)^rF.mono^fe a2}
 let N:=bg.snoc hR a1;let ew:=rW hP N.nd N.hd;let ex:0<(bG 0 (cX a^aB k)^aB k).length:=List.length_pos_iff.mpr a1;let ep:=wk hP hR N;let eq:=AJ hR N;let er:=PL a k^bG 0 (cX a^aB k)^aB k
 show Eq.mpr (Q0 (c:=(not^(bG 0 (cX a^aB k)^aB k).isEmpty)=bU)^by rw[<-e4];cases u4 with|nil=>(show absurd (by have:=bm.length;rw[QP]at this;show SR this.symm) a1)|cons _ _=>rfl) ?_;let eT:aB k++aJ^bG 0 (cX a^aB k)^aB k=aB (k++[bG 0 (cX a^aB k)^aB k]):=by rw[jP,mq]
 rw[eT]at bt;let e1:(aB<|k++[bG 0 (cX a^aB k)^aB k]).length=(aB k).length+(bG 0 (cX a^aB k)^aB k).length:=by rw[<-eT,Q7];unfold aJ;rw[QP]
 let e2:(aJ^bG 0 (cX a^aB k)^aB k)=aJ^bG 0 (cX a^aB k)^aB k:=A2;let d3:∀g∈aJ (bG 0 (cX a^aB k)^aB k),g∈aB (k++[bG 0 (cX a^aB k)^aB k]):=λg hg=>by rw[<-eT];show Q1 _ hg
 let e3:k.length<=(aB k).length:=J8 bg;generalize bG 0 (cX a^aB k)^aB k=a8 at*
 let d4:aA (but X Z) a7 [!(.lst^a.map aR),bF,bF,bF,!(.lst^a8.map cm)]:=Kq EX j4 r4;show{_,λ_ _ h=>h,?_};show vc (d:=.lst^a8.map cm) lX d4 a5 j3 cv rF (by unfold mF;rw[QP];show cH Z4) (aI (i:=4) d4 A2) λv5 X5 k5 l5 be d5 E5=>?_;let an:=LX.gw;let S5:ae (but X Z)^but X5 Z:=λb u e=>by
  let{q1,q2}:=ay e;rw[bv q1];show k5 b u (λz=>q1^by rw[z];show a5) q2
 let es:ae H X5:=λb u e=>k5 b u (λz=>by rw[z,HF]at e;cases e)^SX _ _ e
 let bk:L≠J:=λz=>by rw[z,cv]at bt;cases bt
 let b7:=k5 L _ bk bt;let et:dR C CL X5 Z us l^iI a k:=LX.frame an (λb u q3 e=>by let{os,p,hb}:=q3;show k5 b u (λz=>(ao os p).2.1 (by rw[<-z];show hb)) e) S5;let b8:=S5 _ _ d1;dsimp only;show{.ref x,j2,x,dx,_,A2,(ay b8).2,A2,aa (bR (d:=cR^aJ a8) {a8,A2,by omega,A2}^aa (aI (i:=4) E5 A2) ah) ah Z X5 `f l5 _ λvs X6 s6 eu=>?_};let{v1,rfl,r1}:=jM eu;let a9:=s6.but Z;show{Z,x,dx,v0,ll,L,us,l,a,iI a k,_,aJ a8,v1,A2,l5.same s6,a9 _ _ b8,a9 _ _^S5 _ _ d2,et.frame an (λb u _ e=>s6 _ _ e) a9,am,λos p=>(ao os p).1,s6 _ _ b7,(rz.mono S5).mono a9,r1,ep,λv X7 Z7 c0 k7 c1 ev l7 L7 n7 ea r7=>?_};rw[yF _ _ d3,eq]at ea r7;rw[er]at L7;let eb:ae (but X6 Z)^but X7 Z7:=λb u e=>by
  let{q1,q2}:=ay e;rw[bv λz=>(ev b z).elim q1 λw=>by rw[w]at q2;cases q2];show k7 b u (λz=>q1^by rw[z];show am) (λos p z=>q1^an os p b z) q2
 let bx:=S5.trans^a9.trans eb
 let K6:ae H X6:=es.trans s6;show{_,?_,k++[a8],Z7,c0,v,_,N,A2,(QS Z1).trans j2,(QS Z1).trans j3,Q3 (by rw[EX.len];show(show 4<5 by decide)),bx _ _ d1,bx _ _ d2,L7,c1 _ am,λos p=>?_,ea,rz.mono bx,c1 _ a5,k7 J _ (RG bk) (λos p=>(ao os p).2.1)^s6 _ _ be,?_,r7,l7,λy T=>c1 _^a2 y T,λb u e=>?_,(EX.mono bx).off 4 _}
 .omega
 .show{λz=>?_,λz=>?_,λy T=>?_}
  .rcases n7 os p L z with⟨o,h1,h2⟩|w
   .show(ao o h1).1 h2
   .rw[s6 _ _ b7]at w;cases w
  .rcases n7 os p J z with⟨o,h1,h2⟩|w
   .show(ao o h1).2.1 h2
   .rw[s6 _ _ be]at w;cases w
  .rcases n7 os p y T with⟨o,h1,h2⟩|w
   .show(ao o h1).2.2 y h2
   .show iW K6 w
 .unfold mF at d5⊢;rw[Rl];show d5.mono^a9.trans eb
 .show k7 b u (λz=>by rw[z,b3]at e;cases e) (λos p z=>by rw[(ao os p).2.2 b z]at e;cases e)^K6 _ _ e
def Ao:cb ["rules","every","found"] ["rules"]^bH zx:=`b
def OO (F:bB K "reasons" "reasons" zx f fd)(c:bP P w K mg base 11 "reasons_by_round" ["rules"]^iN uA BM):bw P w K mg base bO 12 f fd ["rules"]^iN uA AV:=by
 show F.ok Ao (rK (n:=1) λds q0=>by let{_,_,e,_}:=q0;rw[e];rfl) λab A C s H vs Q E hr h=>?_;let{M,ds,lv,rs,{y,k,rfl,hP,hR,I},q}:=h;show{_,(aC (bf 1 Ao.nd^dA aq)
   (aC (cV Rf A2 (cG^bL c hr^ai (pv 0) aq) (bC 2 Ao.nd)^az^jy^qe Sc TN UC xa (pv 1)^ai (pv 2) aq)
   (az^bz^pv 1))),?_}
 let b0:Bx H M [] _ H [Sl.d^.lst^k.map aR,.no,.no]:=gg lv rs ["rules","every","found"];show aP.run b0^bp^sv (i:=1) ?_
 intro m J H1 b;show .inl ?_;unfold kW ja;show aa (b.jE.vd (i:=0) A2) ah (m++M) H1 `f b.fJ _ λvs H2 u L=>{m++M,_,b.fJ.same u,by rw[Ro];show L,{y,k,A2,hP,hR,I},λd v z hd s3 N=>?_}
 let{p,o,g,e1,rfl,B}:=hd;let Y:(aB g).length<=110:=rW B.pk B.run.nd B.run.hd;let b3:=b.grow^u.trans s3;let sub:=b3.sub;let N:ap (but (but z m) M) v^.lst^mF g:=by
  have:but (but z m) M=but z (m++M):=by
   funext a;unfold FL.but;by_cases z1:a∈m<;>by_cases z2:a∈M<;>simp[z1,z2]
  rw[this];show N
 show(show mw (kW K^tK v) (cp 2) _ _ J z from ?_);show aP.run b3.base^fI (i:=2) (c8.known N) (λj t=>∃u,t=[Sl.d^.lst^k.map aR,.l^(g.take j).flatten.map cm,u]) {_,A2} (λB' sB hk j x t O T=>?_) λt T=>?_
 .let{u,rfl}:=T;unfold mF at O;rw[QY]at O;let{r,U,rfl}:=Ru.mp O;let ej:g.take (j+1)=g.take j++[r]:=by rw[Rs,U];rfl
  show HP (j:=1) (ys:=r.map cm) A2 (λG J e=>e.vd A2) ?_^dO {.d^.lst^r.map cm,?_}
  .let h1:((g.take<|j+1).flatten).length<=g.flatten.length:=by
    conv=>rhs;rw[<-Tk (j+1) g,R9,Q7]
    show RL _ _
   let h2:(aB g).length=g.flatten.length:=by unfold aB aJ;rw[QP]
   rw[ej,R9,Q7,RU,SM,Ro]at h1;rw[QP,QP];show Sf^cH Z4
  .rw[ej,R9,Rl,RU,SM,Ro]
   rfl
 .let{u,rfl}:=T;unfold mF;rw[QP,Sd];show fc (λG J e=>e.v A2) λv H' s' r'=>q (.lst^g.flatten.map cm) v H' {p,o,g,e1,A2,B} (sub.trans s') r'
end
end cf
namespace FL
open PySem L2
def Fs (K:kc)(mg:Str->Option wj)(x:Str)(st:uL):Prop:=∃f d,bB K x x st f d/\mg x=!.ref f
def Ms (K:kc)(C:vb)(x q:Str)(st:uL):Prop:=∃f d,bB K x q st f d/\ri K C x f
def Cs (K:kc)(mg:Str->Option wj)(x:Str)(C:vb):Prop:=mg x=!.ref C/\eX K C/\PySem.W.makesIn K C=bU/\PySem.W.keepIn K^.ref C=bU
def Xs (K:kc)(mg:Str->Option wj)(x:Str)(C:vb):Prop:=eR K mg x C/\PySem.W.typeIn K^.ref C=!.type "type"/\oD K C^.type "BaseException"=!bU/\oD K C^.ref C=!bU
def Pin (_:qj)(_:pa)(_:rl):Prop:=True
section
variable {P:qj}{w:pa}{K:kc}{mg:Str->Option wj}{base h:rl}{x q v:Str}{st:uL}{f C:vb}{fd:mu}{oc kV dc pm cd ct:wj}{od an:Option vb}{sl:Array^Option wj}{n:Nat}{ps:List Str}{sp:Sp}{t:Tok}
def c6 (X:K.In h)(G:h.Ns jk mg)(a:W.nsIn K jk x=!!.ref f:=by k_is)(l:K.lookup f=!{oc,od,.func^A1 x x (o0 st) (jX st) (bH st) .none kV dc pm an cd ct,sl}:=by k_is)(c:l0 K cd x=bU:=by k_is)(k:zC K^.ref f=bU:=by k_is):Fs K mg x st:={f,_,zW l c k,U6 X G a}
def jp (a:qm K (.ref C) x=!!.ref f:=by k_is)(i:W.isFn K^.ref f=bU:=by k_is)(l:K.lookup f=!{oc,od,.func^A1 x q (o0 st) (jX st) (bH st) .none kV dc pm an cd ct,sl}:=by k_is)(c:l0 K cd q=bU:=by k_is)(k:zC K^.ref f=bU:=by k_is):Ms K C x q st:={f,_,zW l c k,{a,i,k}}
def wA (X:K.In h)(G:h.Ns jk mg)(n:W.nsIn K jk x=!!.ref C:=by k_is)(a:W.plainGet K C Str.empty=bU:=by k_is)(b:W.hasDictIn K C=bU:=by k_is)(c:W.plainOver K C=bU:=by k_is)(d:qm K (.ref C) "__setattr__"=!!.builtin "object.__setattr__":=by k_is)(e:W.makesIn K C=bU:=by k_is)(g:zC K^.ref C=bU:=by k_is):Cs K mg x C:={U6 X G n,{a,b,c,d},e,g}
def pK (X:K.In h)(G:h.Ns jk mg)(n:W.nsIn K jk x=!!.ref C:=by k_is)(e:W.excIn K C [.type "ValueError",.type "Exception",.type "BaseException",.type "object"] "ValueError.__new__"=bU:=by k_exc)(a:zz K^.ref C=!.type "type":=by k_is)(b:oD K C^.type "BaseException"=!bU:=by k_is)(c:oD K C^.ref C=!bU:=by k_is):Xs K mg x C:={{U6 X G n,e},a,b,c}
def jb (a:qm K (.ref C) x=!bF:=by k_is):cQ K C x:=a
def Bo (X:K.In h)(G:h.Ns jk mg)(u:W.nsIn K jk x=!!.str v t:=by k_is):∃t,mg x=!.str v t/\RelV (.str v)^.str v t:={t,U6 X G u,_,A2}
def hJ (X:K.In h)(G:h.Ns jk mg)(z:W.nsIn K jk x=!bF:=by k_is):mg x=bF:=W.mg_none_of X G z
def Fs.hs (F:Fs K mg x st)(_:Pin P w base)(g:∀{f fd},bB K x x st f fd->bw P w K mg base bO n f fd ps sp)(b:∀{f fd},bB K x x st f fd->Binds K fd ps []:=by intro f fd F;show F.binds λ_ _ _ _ _ _ i j=>by rcases i with _|⟨a,_|⟨b,_|⟨c,_|⟨d,_|⟨e,_|_⟩⟩⟩⟩⟩<;>first|show rfl|show absurd j (by decide)|simp at j):bP P w K mg base n x ps sp:=by
 let{f,fd,F,m}:=F;show{{f,fd,g F,b F,F.kp,m}}
def Fs.ha (F:Fs K mg x st)(_:Pin P w base)(g:∀{f fd},bB K x x st f fd->bw P w K mg base (mH P w) n f fd ps sp)(b:∀{f fd},bB K x x st f fd->Binds K fd ps []:=by intro f fd F;show F.binds λ_ _ _ _ _ _ i j=>by rcases i with _|⟨a,_|⟨b,_|⟨c,_|⟨d,_|⟨e,_|_⟩⟩⟩⟩⟩<;>first|show rfl|show absurd j (by decide)|simp at j):tw P w K mg base n x ps sp:=by
 let{f,fd,F,m}:=F;show{f,fd,g F,b F,F.kp,m}
def Ms.hm (F:Ms K C x q st)(_:Pin P w base)(g:∀{f fd},bB K x q st f fd->bw P w K mg base bO n f fd ps sp)(b:∀{f fd},bB K x q st f fd->Binds K fd ps []:=by intro f fd F;show F.binds λ_ _ _ _ _ _ us i=>by rcases us with _|⟨a,_|⟨b,_|⟨c,_|⟨d,_|⟨e,_|_⟩⟩⟩⟩⟩<;>first|show rfl|show absurd i (by decide)|simp at i):jB P w K mg base n C x ps sp:=by
 let{f,fd,F,m}:=F;show{{f,fd,g F,b F,m}}
def Ms.hc (F:Ms K C "__init__" q st)(_:Pin P w base)(c:Cs K mg x C)(g:∀{f fd},bB K "__init__" q st f fd->bw P w K mg base bO n f fd ps sp)(b:∀{f fd},bB K "__init__" q st f fd->Binds K fd ps []:=by intro f fd F;show F.binds λ_ _ _ _ _ _ i j=>by rcases i with _|⟨a,_|⟨b,_|⟨c,_|⟨d,_|⟨e,_|_⟩⟩⟩⟩⟩<;>first|show rfl|show absurd j (by decide)|simp at j):px P w K mg base n C x ps sp:=by
 let{f,fd,F,m}:=F;show{{f,fd,g F,b F,{c.2.2.1,m.at_,m.fn,c.2.2.2},c.1}}
end
end FL
namespace cf
open PySem L2 FL
def Cy{K:kc}(d:zz K^.ref C=!.type "type")(c:oD K C^.type "BaseException"=!bU)(e:oD K a^.ref C=!b):W.exmOne K `n^.ref C=!b:=by
 let f:(W.clsIn K C).isSome=bU:=by
  let{k,h,_}:=TM.mp c;rw[h];rfl
 let g:W.subIn K (.ref C)^.type "BaseException"=!bU:=c;change(if(W.subIn K (.ref C)^.type "BaseException"==!bU)=bU then(if((W.clsIn K C).isSome&&zz K^.ref C==!.type "type")=bU then oD K a^.ref C else bF)else bF)=!b;rw[g,f,d,e];let i:((!bU:Option Bool)==!bU)=bU:=A2;let j:((!wj.type "type":Option wj)==!.type "type")=bU:=by decide+kernel
 rw[Q0 i,j,Uc,Q0 A2]
def ro{K:kc}(d:zz K^.ref C=!.type "type")(f:oD K C^.type "BaseException"=!bU)(g:oD K C^.ref C=!bU)(c:oD K a^.ref C=!b):W.kitOne K `n^.ref C=!b:=by
 let i:(W.clsIn K C).isSome=bU:=by
  let{l,h,_}:=TM.mp f;rw[h];rfl
 change(if((wj.ref a)==(wj.ref C))=bU then !bU else(if((W.clsIn K C).isSome&&zz K^.ref C==!.type "type")=bU then oD K a^.ref C else bF))=!b;by_cases e:((wj.ref a)==(wj.ref C))=bU
 .let j:a=C:=wj.ref.inj^Tw.mp e;subst j;rw[Q0 e];show g.symm.trans c
 .let k:((!wj.type "type":Option wj)==!.type "type")=bU:=by decide+kernel
  rw[QV e,i,d,c,k,Uc,Q0 A2]
def Qp{K:kc}(b:oD K a^.type "ValueError"=!bU):W.kitOne K `n^.type "ValueError"=!bU:=by
 change(if((wj.ref a)==(wj.type "ValueError"))=bU then !bU else(if W.kitMeta "ValueError"=bU then oD K a^.type "ValueError" else bF))=!bU;let e:W.kitMeta "ValueError"=bU:=by decide+kernel
 rw[e,b];split
 .rfl
 .rfl
def LZ{K:kc}(H:Xs K a "BadHead" h)(G:Xs K a "BadGuard" g)(B:Xs K a "LooseBlank" b)(L:Xs K a "LoomError" l)(N:Xs K a "NotTold" n)(R:Xs K a "NoRule" r)
 (k:qm K (.ref n) "__getattribute__"=!!.builtin "BaseException.__getattribute__":=by k_is)
 (m:qm K (.ref n) "__class__"=!!.builtin "object.__class__":=by k_is)
 (o:qm K (.ref n) "__getattr__"=!bF:=by k_is)
 (p:oD K n^.type "object"=!bU:=by k_is)
 (c:oD K n^.ref h=!fF:=by k_is)
 (d:oD K n^.ref g=!fF:=by k_is)
 (e:oD K n^.ref b=!fF:=by k_is)
 (f:oD K n^.ref r=!fF:=by k_is)
 (i:oD K n^.ref l=!bU:=by k_is)
 (j:oD K n^.type "ValueError"=!bU:=by k_is)
 :∃h g b l n r,eR K a "BadHead" h/\eR K a "BadGuard" g/\eR K a "LooseBlank" b/\eR K a "LoomError" l/\eR K a "NotTold" n/\eR K a "NoRule" r/\vT K n h g b r l:=
 {_,_,_,_,_,_,H.1,G.1,B.1,L.1,N.1,R.1,{k,m,o,N.2.2.1,p},ro H.2.1 H.2.2.1 H.2.2.2 c,ro G.2.1 G.2.2.1 G.2.2.2 d,ro B.2.1 B.2.2.1 B.2.2.2 e,ro N.2.1 N.2.2.1 N.2.2.2 N.2.2.2,ro R.2.1 R.2.2.1 R.2.2.2 f,Qp j,Cy L.2.1 L.2.2.1 i,Cy N.2.1 N.2.2.1 N.2.2.2}
section
variable {P:qj}{w:pa}{K:kc}{mg:Str->Option wj}{fa:vb}{fd:mu}
def all_mk (B:Bl mg)(F:bB K "law" "law" oh fa fd)
 (a0:Fs K mg "is_blank" wG)
 (a1:Fs K mg "filled" zp)
 (a2:Fs K mg "matched" yt)
 (a3:Fs K mg "is_guard" Am)
 (a4:Fs K mg "blanks_in" zf)
 (a5:Fs K mg "holds" s_holds)
 (a6:Fs K mg "askers_in" wc)
 (a7:Fs K mg "guards_in" yz)
 (a8:Fs K mg "slots_of" xJ)
 (a9:Fs K mg "is_ready" zM)
 (y:Fs K mg "steps_for" zF)
 (z:Fs K mg "refuse_loose" zP)
 (A:Fs K mg "check_body" wQ)
 (E:Fs K mg "check_rule" zt)
 (G:Fs K mg "facts_of" zJ)
 (H:Fs K mg "reasons_by_round" Ap)
 (I:Fs K mg "reasons" zx)
 (J:Fs K mg "_law_at" zI)
 (L:Fs K mg "_law_whole" xH)
 (M:Fs K mg "_law_mixed" yr)
 (N:Fs K mg "_law_is_fact" wF)
 (O:Fs K mg "_law_blanks_in" yl)
 (Q:Fs K mg "_law_places_fit" x6)
 (U:Fs K mg "_law_pool_by" yY)
 (Y:Fs K mg "_law_fill_in" yy)
 (ab:Fs K mg "_law_true" Ay)
 (ac:Fs K mg "_law_menu_by" y8)
 (af:Fs K mg "_law_rules_by" zN)
 (aj:Fs K mg "_law_choices" xy)
 (am:Fs K mg "_law_follows" Ar)
 (an:Fs K mg "_law_least" xL)
 (ao:Fs K mg "_law_alike" Af)
 (as:Fs K mg "_law_stays" x9)
 (bc:Fs K mg "needed_for" wz)
 (bd:Fs K mg "grounds" Aw)
 (be:Fs K mg "_law_leads_up" yw)
 (bg:Fs K mg "_law_refuses" xj)
 (S0:∃C,Cs K mg "Step" C/\cQ K C "asker"/\cQ K C "shared"/\cQ K C "guards"/\cQ K C "offers"/\cQ K C "newest"/\Ms K C "__init__" "Step.__init__" yG/\Ms K C "offer" "Step.offer" yH/\Ms K C "allows" "Step.allows" xz/\Ms K C "carry_on" "Step.carry_on" yL)
 (S1:∃C,Cs K mg "Loom" C/\cQ K C "steps"/\cQ K C "is_barred"/\cQ K C "taken_in"/\cQ K C "fresh"/\cQ K C "last_fresh_step"/\Ms K C "__init__" "Loom.__init__" xf/\Ms K C "take_in" "Loom.take_in" zy/\Ms K C "beginnings" "Loom.beginnings" xS/\Ms K C "is_whole" "Loom.is_whole" z7/\Ms K C "carried_on" "Loom.carried_on" wD)
 (S2:∃C,Cs K mg "Weaving" C/\cQ K C "rules"/\cQ K C "looms"/\cQ K C "told"/\Ms K C "given_by" "Weaving.given_by" xm/\Ms K C "one_round" "Weaving.one_round" wq/\Ms K C "__init__" "Weaving.__init__" xK)
 (u0:∃t,mg "LESS"=!.str "less" t/\RelV (.str "less")^.str "less" t)
 (v:∃t,mg "UNLIKE"=!.str "unlike" t/\RelV (.str "unlike")^.str "unlike" t)
 (n0:mg "max"=bF)
 (n1:mg "ValueError"=bF)
 (n2:mg "sorted"=bF)
 (Z:∃h g b l n r,eR K mg "BadHead" h/\eR K mg "BadGuard" g/\eR K mg "LooseBlank" b/\eR K mg "LoomError" l/\eR K mg "NotTold" n/\eR K mg "NoRule" r/\vT K n h g b r l)
 :∀base,bw P w K mg base bO 16 fa fd ["_law_script"]^uq K:=by
 intro base;let p:Pin P w base:=trivial;let{a,c0,t0,t1,t2,t3,t4,m0,m1,m2,m3}:=S0;let T:mU K a:={c0.2.1,t0,t1,t2,t3,t4}
 let{d,c1,bh,bi,bk,bl,bm,m4,m5,m6,m7,m8}:=S1;let e:nl K d:={c1.2.1,bh,bi,bk,bl,bm}
 let{i,c2,bs,bt,bx,m9,b0,b1}:=S2;let x:sy K i:={c2.2.1,bs,bt,bx}
 let{t0,u0}:=u0;let{t1,v}:=v;let{h0,h1,h2,h3,h4,h5,xh,xg,xb,xl,xn,xr,KN}:=Z;let g0:=a0.hs p (P8 · B);let g1:=a1.hs p (PY · B);let g2:=a2.hs p (Hj · B g0);let g3:=a3.hs p (J2 · B u0 v);let j:=a4.hs p (P0 · B g0);let g5:=a5.hs p (ok_holds · B v);let g6:=a6.hs p (Ie · B g3);let g7:=a7.hs p (MN · B g3);let g8:=a8.hs p (QA · B j);let g9:=a9.hs p (PP · B j g8);let k0:=m0.hc p c0 (Qe · T (C:=a));let k1:=m1.hm p (LR · T B g2 (C:=a));let k2:=m2.hm p (IP · T B g1 g5 (C:=a));let k3:=m3.hm p (ON · T B k2 (C:=a));let b2:=y.hs p (Jl · B g7 g6 j g8 g9 k0 (C:=a));let k4:=m4.hc p c1 (K4 · e B g7 j g5 b2 (C:=a) (CL:=d));let k5:=m5.hm p (NA · T e B n0 k1 (C:=a) (CL:=d));let k6:=m6.hm p (Lx · T e B (C:=a) (CL:=d));let k7:=m7.hm p (O3 · e B (C:=a) (CL:=d));let k8:=m8.hm p (Ia · T e B n0 k3 (C:=a) (CL:=d));let k9:=m9.hm p (IR · e x B g1 k6 k7 k8 (C:=a) (CL:=d) (CW:=i));let b3:=b0.hm p (Jw · e x B k5 k9 (C:=a) (CL:=d) (CW:=i));let b4:=b1.hc p c2 (Oa · x k4 (C:=a) (CL:=d) (CW:=i));let k:=z.hs p (Qw · B g6 j);let b5:=A.hs p (Ja · B g7 k);let b6:=E.hs p (Jk · B g3 k b5);let m:=G.hs p (K8 · B);let b7:=H.hs p (Pw · B x b6 b4 b3 m (C:=a) (CL:=d) (CW:=i));let b8:=I.hs p (OO · b7);let f:=J.hs p (Lh · B);let c:=L.hs p (GY · B);let ca:=M.hs p (NZ · B);let cd:=N.hs p (KW · B c);let ch:=O.hs p (Pj · B);let cl:=Q.hs p (Ho · B c);let o:=U.hs p (Op · B f);let q:=Y.hs p (M8 · B);let s:=ab.hs p (Lr · B c);let co:=ac.hs p (Nc · B);let cs:=af.hs p (Ki · B f o co);let ct:=aj.hs p (Pz · B);let cv:=am.hs p (LI · B cd c cl q s);let c3:=an.hs p (Ig · B ct ch s q);let c4:=ao.hs p (IW · B c);let c5:=as.hs p (N0 · B c4);let dc:=bc.hs p (KA · B n2);let u:=bd.ha p (Ht · B xn b8 m dc);let dd:=be.hs p (IK · B cv);let di:=bg.hs p (Jm · B KN xh xg xb xl xn xr n1 u);show MM F B KN xn ca o cs f c3 u di c5 dd
end
def Nf{K:kc}{kV:wj}(X:K.In h)(G:h.Ns jk d)(b:d "law"=!.ref g)(a:W.nsIn K jk "law"=!!.ref f:=by k_is)(l:K.lookup f=!{m,q,.func^A1 "law" "law" (o0 oh) (jX oh) (bH oh) .none kV n o r i p,t}:=by k_is)(c:l0 K i "law"=bU:=by k_is)(k:zC K^.ref f=bU:=by k_is):∃j:mu,(∀(s:ot) (v:wj),BindsTo s j {[v],[]} [("_law_script",v)])/\bB K "law" "law" oh g j:=by
 let e:=b.symm.trans^U6 X G a
 cases e;show{_,λs v=>.of_eq A2,zW l c k}
def walk {l:W.OpenLaw}{q:qj}{loose:ZY}{XP:(ZU)->rl->Prop}{YP:pa->rl->Prop}{d:DefRec}{K:Params->kc}(hn:l.most=!63)(hdf:d.params.defaults=[])
  (hY:∀(w:pa) (h:rl),YP w h->(K w.params).In h)
  (F:∀(w:pa) (mg:ZU) (fa:vb) (h:rl),(K w.params).In h->h.Ns jk mg->mg d.name=!.ref fa->
   ∃fd:mu,(∀(s:ot) (u:wj),BindsTo s fd {[u],[]} [("_law_script",u)])/\∀base:rl,(K w.params).In base->base.Ns jk mg->bw l.prog w (K w.params) mg base bO 16 fa fd ["_law_script"]^uq^K w.params):
  W.WalkO q loose XP YP l.row.toRowW d []^λf vs=>PySem.call f vs:=
 L2.Lw (n:=63) (k:=16) (x:="_law_script") (CX:=λ_=>bO) (sp:=λw=>uq^K w.params) hn Z1 hdf {A2,by decide,by decide} hY F (λ_ _ a ns hl _ hS=>{a,ns,A2,hS,hl,λ_=>A2}) λ_ _ _ _ _ z=>z
end cf
namespace PySem.W.Fast
def tw227489437661017807:=()
def tw2094877940645864597:=()
def tw8531253545080301935:=()
def tw8767629753577681439:=()
def tw14875235443149684346:=()
def tw12452364969520803229:=()
def tw12720585604980677134:=()
def tw1101520268560672698:=()
def tw3670181659905633937:=()
def tw646033187341169595:=()
def tw13811889671994861786:=()
def tw14026867110818971973:=()
def tw3622282457843078128:=()
def tw3557130584802032034:=()
def tw5128193283614241584:=()
def tw2660694476378900037:=()
def tw12831629466991504016:=()
def tw15599553380505092306:=()
def tw1066998022575472923:=()
def tw14236443834598320462:=()
def tw11226518536991792972:=()
def tw8007397831154967769:=()
def tw17386922300263449210:=()
def tw18302534871849866384:=()
def tw14972325016831848928:=()
def tw5678605429399471142:=()
def tw7144170306111720548:=()
def tw13820644629359815674:=()
def tw10162218908587298149:=()
def tw17283003991533792313:=()
def tw3167373818806693059:=()
def tw6098709616300804292:=()
def tw8968570536692753140:=()
def tw18215861356039305253:=()
def tw14940894825695725514:=()
def tw3678171702794277529:=()
def tw1630106980486232201:=()
def tw15535268801854354154:=()
def tw15152042046016090735:=()
def tw18306882126139786401:=()
def tw790899756288135301:=()
def tw228528607906321888:=()
def tw5829929351453385334:=()
def tw7796881835290811936:=()
def tw2299665606116339231:=()
def tw7721634404579757175:=()
def tw11396986235973500569:=()
def tw15817155576260658684:=()
def tw2900851520561844490:=()
def tw18023618331654922606:=()
def tw4672924968701453420:=()
def tw6135704007134881300:=()
def tw12977443992061928820:=()
def tw16156625717992139496:=()
def tw12513575388405907518:=()
def tw14195138786023422833:=()
def tw4473179646264883934:=()
def tw13035022627352601061:=()
def tw9469453151958929989:=()
def tw9236876948027360272:=()
def tw8681333747989152632:=()
def tw631306932206122495:=()
def tw3050005108830971852:=()
def tw7551458349308658512:=()
def tw4943137266828853195:=()
def tw18164952650190451677:=()
def tw17348382610047795924:=()
def tw4830122220519056929:=()
def tw16118979372583943382:=()
def tw15043796003653463257:=()
def tw5897680835505127398:=()
def tw10400144666380905693:=()
def tw1551827508362622876:=()
def tw14130940858326982286:=()
def tw9942712311874123856:=()
def tw14644306612666095686:=()
def tw14688324339048339245:=()
def tw12680188543511640921:=()
def tw14842296074205956755:=()
def tw3880782539665639144:=()
def tw18047715794314463862:=()
def tw2682628951669363990:=()
def tw8999635727141483736:=()
def tw7619103314691274924:=()
def tw16818507723515603276:=()
def tw12342361824075539572:=()
def tw7572760292557819602:=()
def tw14702867649415479222:=()
def tw17377688455867032180:=()
def tw14415681743197342291:=()
def tw10457517354347565491:=()
def tw7968764734690412351:=()
def tw5520821957477047864:=()
def tw3267077683145810734:=()
def tw8397500350679609788:=()
def tw8988346267587104137:=()
def tw746193389615813122:=()
def tw14606444180961785075:=()
def tw7788150042925674348:=()
def tw2973464060133317125:=()
def tw13106360481840836733:=()
def tw4825079158775933181:=()
def tw13004449905946197854:=()
def tw13683264735527486756:=()
def tw16896043920767535460:=()
def tw8834284345169937868:=()
def tw18016407458013524421:=()
def tw1214352600202936700:=()
def tw15657119372865408323:=()
def tw77011718039078477:=()
def tw8646523979960580581:=()
def tw13419160225919723801:=()
def tw12996970088564113285:=()
def tw6266149463244908165:=()
def tw7986241376413071233:=()
def tw10887009077727550186:=()
def tw9049904765957265307:=()
def tw7534205429035351420:=()
def tw9190221965943554634:=()
def tw381336679624850866:=()
def tw5561163596474074661:=()
def tw2859703784324897112:=()
def tw10948002499000885273:=()
def tw13177387516089815088:=()
def tw18131781562913861843:=()
def tw15857555703186112262:=()
def tw12616245098807829943:=()
def tw16897126754177515891:=()
def tw13752023130625984669:=()
def tw13887655257291899892:=()
def tw5712555365057461650:=()
def tw113986740293605083:=()
def tw17458308247031733500:=()
def tw3308324447653497671:=()
def tw12741469070157620443:=()
def tw14974317697878526579:=()
def tw7438278539743896047:=()
def tw6346301302015177772:=()
def tw5509617719593112280:=()
def tw6906341969826435636:=()
def tw7874797310441337859:=()
def tw5425437195646538945:=()
def tw14716608242806204002:=()
def tw13508925022090119767:=()
def tw18084896976196598102:=()
def tw17729286692827691346:=()
def tw9202475623235775923:=()
def tw6653274195058877603:=()
def tw1434522751052439397:=()
def tw13480685478923990253:=()
def tw7974304665698038577:=()
def tw445098430050342157:=()
def tw4391762854574171438:=()
def tw15342221499126633556:=()
def tw9807112617571311357:=()
def tw4666101143285377055:=()
def tw10951301258421340327:=()
def tw112861615526577395:=()
def tw18083477958681952554:=()
def tw6468631322207772197:=()
def tw2666959329352636032:=()
def tw2383312880641969408:=()
def tw12681722160585501356:=()
def tw10447134686776036413:=()
def tw1580326579945621157:=()
def tw6920092510191421048:=()
def tw13335029295066845651:=()
def tw18131171944525487820:=()
def tw1808273114438436480:=()
def tw5699448447806583786:=()
def tw9893033345096826092:=()
def tw3281958227370980239:=()
def tw11562091252673668439:=()
def tw3097581046046297625:=()
def tw6530126632494337623:=()
def tw16213408402759072714:=()
def tw5678057258558385348:=()
def tw5559146628864015959:=()
def tw4156098387062255808:=()
def tw6851457376496646432:=()
def tw8949179635570784287:=()
def tw15500360925198350583:=()
def tw2966453467911070725:=()
def tw10850030994963669762:=()
def tw2333539663072085136:=()
def tw13868280785085301863:=()
def tw13471801302370584605:=()
def tw12874058381284480571:=()
def tw11945408320994540110:=()
def tw7587430235717418489:=()
def tw7394595353213010503:=()
def tw12530397006516202076:=()
def tw3204679546799259442:=()
def tw1394023553928474137:=()
def tw5443558022324257531:=()
def tw4768861278074701547:=()
def tw10280567955598173083:=()
def tw17225492782062365980:=()
def tw7490723867945705611:=()
def tw2810735469839351179:=()
def tw17557013261135678346:=()
def tw12147116892744965095:=()
def tw1562761431237128773:=()
def tw10301682452301279497:=()
def tw8195681915782048627:=()
def tw7161369584017858617:=()
def tw15362001720094885781:=()
end PySem.W.Fast
open PySem PySem.W PyProof.Rows
set_option maxRecDepth 100000 in
set_option maxHeartbeats 0 in
theorem PySem.Challenge.cw_factloom_k09_whole_grounds_holds : PySem.Challenge.rw_factloom_k09_whole_grounds.Holds := by
  w_on; o_law; k_head; (case hw => w_witness2)
  k_fill
  refine cf.walk (l := PySem.Challenge.rw_factloom_k09_whole_grounds) rfl rfl (fun w h Y => PySem.W.kIn_of Y) ?F
  case F =>
    intro w mg fa h X G e
    obtain ⟨fd, hb, F⟩ := cf.Nf X G e
    have A := cf.all_mk (P := PySem.Challenge.rw_factloom_k09_whole_grounds.prog) (w := w) ⟨FL.hJ X G, FL.hJ X G, FL.hJ X G, FL.hJ X G, FL.hJ X G, FL.hJ X G, FL.hJ X G, FL.hJ X G, FL.hJ X G, FL.hJ X G, FL.hJ X G, FL.hJ X G, FL.hJ X G⟩ F (FL.c6 X G) (FL.c6 X G) (FL.c6 X G) (FL.c6 X G) (FL.c6 X G) (FL.c6 X G) (FL.c6 X G) (FL.c6 X G) (FL.c6 X G) (FL.c6 X G) (FL.c6 X G) (FL.c6 X G) (FL.c6 X G) (FL.c6 X G) (FL.c6 X G) (FL.c6 X G) (FL.c6 X G) (FL.c6 X G) (FL.c6 X G) (FL.c6 X G) (FL.c6 X G) (FL.c6 X G) (FL.c6 X G) (FL.c6 X G) (FL.c6 X G) (FL.c6 X G) (FL.c6 X G) (FL.c6 X G) (FL.c6 X G) (FL.c6 X G) (FL.c6 X G) (FL.c6 X G) (FL.c6 X G) (FL.c6 X G) (FL.c6 X G) (FL.c6 X G) (FL.c6 X G) ⟨_, FL.wA X G, FL.jb, FL.jb, FL.jb, FL.jb, FL.jb, FL.jp, FL.jp, FL.jp, FL.jp⟩ ⟨_, FL.wA X G, FL.jb, FL.jb, FL.jb, FL.jb, FL.jb, FL.jp, FL.jp, FL.jp, FL.jp, FL.jp⟩ ⟨_, FL.wA X G, FL.jb, FL.jb, FL.jb, FL.jp, FL.jp, FL.jp⟩ (FL.Bo X G) (FL.Bo X G) (FL.hJ X G) (FL.hJ X G) (FL.hJ X G) (cf.LZ (FL.pK X G) (FL.pK X G) (FL.pK X G) (FL.pK X G) (FL.pK X G) (FL.pK X G))
    exact ⟨fd, hb, fun d _ _ => A d⟩
