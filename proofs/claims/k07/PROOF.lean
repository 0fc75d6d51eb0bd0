import PyProof.Rows.All
import Wide.All
import OpenK.AllK
import Wide.FinOn
import Lean
import PyProof.EqAt
import PyProof.EqKinds
import PyProof.TupleCall
import PyProof.CompFree
import PyProof.AttrMissHeap
import PyProof.ListNew
import PyProof.DictUpdate
import PyProof.DictList
import PyProof.FactsAll.dict_1
import PyProof.Rows.DictSet
import PyProof.Seq
import PyProof.TupleIter
import KE.KDictOf
import PyProof.NeKinds
import PyProof.ZipIter
import PyProof.EnumIter
import PyProof.EnumFor
import PyProof.EnumMake
import KE.KRevIter
import KE.KDictLaws
import PyProof.DictRoadsH
import KE.KDictList
import PyProof.ConsumeWalk
import PyProof.DictTruth
import PyProof.MinMaxWalk
import PyProof.WalkInts
import PyProof.WalksMore
import KE.KMinKey
import PyProof.Rows.CallKwBuiltin
import PyProof.Draws
import OpenK.KRaise
import OpenK.KOwn
import KE.KTryMore
import PyProof.StationsW
import PyProof.DictValues
import PyProof.FactsAll.dict_4
import PyProof.DictWalks
import PyProof.Rows.Range3
import KE.KIsAll
import PySem.Challenge.RW_factloom_k07_whole_told_and_no_more
set_option Elab.async false
set_option linter.all false
set_option maxRecDepth 100000
open List (mem_cons_of_mem mem_cons_self length_map getElem?_eq_getElem getElem?_set_ne mem_filter mem_map mem_cons getElem?_map mem_of_getElem? mem_append getElem?_set_self mem_append_right mem_append_left map_append map_map length_append length_cons length_take not_mem_nil take_of_length_le mem_singleton append_nil append_assoc map_cons filter_cons getElem?_append_left getElem?_append_right mem_flatten mem_reverse mem_flatMap length_set length_nil length_singleton filter_append getElem?_eq_none take_add_one map_congr_left filter_eq_self length_filter_le nodup_cons flatMap_cons cons_append getElem_mem filter_congr nodup_nil nodup_append all_eq_true any_eq_true mem_iff_getElem? take_length nil_append mem_of_mem_take mem_range length_range all_cons zipIdx_cons set_set foldl_append flatMap_append)
set_option maxHeartbeats 4000000
abbrev ZT:=PySem.Value->PySem.Shared->Prop
abbrev ZU:=PySem.Str->Option PySem.Value
abbrev ZV:=List (PySem.Addr×PySem.Obj)
abbrev ZX:=List PySem.Addr
abbrev ZY:=List PySem.Str
def Z1{p:Prop}(h:p:=by decide):p:=h
def Z4{p:Prop}(h:p:=by omega):p:=h
def Z6{p:Prop}(h:p:=by k_is):p:=h
def Z8{p:Prop}(h:p:=by simp):p:=h
def Z9{p:Prop}(h:p:=by decide+kernel):p:=h
def L8:=@List.mem_cons_of_mem
def L9:=@PySem.wpAny_bind
def Ma:=@List.getElem?_eq_some_iff
def Mb:=@List.getElem?_eq_getElem
def Mc:=@List.mem_cons_self
def Md:=@List.length_map
def Me:=@List.getElem?_set_ne
def Mf:=@PySem.Heap.get?_push_of_some
def Mh:=@Nat.le_refl
def Mi:=@List.mem_of_getElem?
def Mj:=@if_neg
def Ml:=@List.mem_append_right
def Mm:=@Bool.false_ne_true
def Mn:=@List.mem_cons
def Mo:=@List.getElem?_map
def Mp:=@if_pos
def Mq:=@List.mem_filter
def Mr:=@List.getElem?_set_self
def Ms:=@List.mem_append_left
def Mt:=@PySem.wpAny_pure
def Mu:=@Option.some.inj
def Mv:=@List.length_append
def Mw:=@List.size_toArray
def Mx:=@List.mem_map
def My:=@decide_eq_true
def Mz:=@PySem.Heap.get?_push_size
def MA:=@PySem.Heap.lt_size
def MB:=@List.mem_append
def MC:=@of_decide_eq_true
def MD:=@PySem.PassesOwn.never
def ME:=@List.getElem?_append_left
def MF:=@Nat.le_trans
def MG:=@List.mem_singleton
def MH:=@decide_eq_false
def MI:=@Nat.zero_le
def MJ:=@List.getElem?_append_right
def MK:=@List.map_append
def ML:=@List.map_congr_left
def MM:=@Nat.ne_of_lt
def MN:=@List.length_cons
def MO:=@List.length_filter_le
def MP:=@List.append_nil
def MQ:=@List.take_of_length_le
def MR:=@List.not_mem_nil
def MS:=@Nat.lt_of_lt_of_le
def MT:=@List.length_take
def MU:=@List.map_map
def MV:=@Nat.le_of_not_lt
def MW:=@List.map_cons
def MX:=@List.take_add_one
def MY:=@List.mem_iff_getElem?
def MZ:=@Bool.eq_iff_iff
def M1:=@List.mem_flatten
def M3:=@List.getElem?_eq_none
def M4:=@PySem.W.mg_none_of
def M5:=@List.append_assoc
def M6:=@Ne.symm
def M7:=@congrArg
def M8:=@Option.map_eq_some_iff
def M9:=@or_false
def Na:=@Bool.and_eq_true
def Nb:=@Nat.le_add_right
def Nc:=@List.filter_eq_self
def Nd:=@List.flatten_cons
def Nf:=@List.flatMap_cons
def Ng:=@PyProof.Rows.boot_tuple
def Nh:=@PySem.wpAny_field
def Ni:=@of_decide_eq_false
def Nj:=@PySem.wpAny_seqItems
def Nk:=@List.find?_cons
def Nl:=@beq_eq_false_iff_ne
def Nm:=@List.mem_flatMap
def Nn:=@List.flatten_append
def No:=@PyProof.Rows.callWith_type1
def Np:=@PySem.wpAny_callSpecial?_slot
def Nq:=@PySem.Heap.size_push
def Nr:=@Nat.lt_irrefl
def Nt:=@PySem.W.kia_one
def Nu:=@List.filter_append
def Nv:=@List.length_singleton
def Nw:=@List.lookup_cons
def Nx:=@List.foldl_append
def Ny:=@List.take_succ_cons
def Nz:=@PySem.wpAny_truthy_bool
def NA:=@PySem.F.slot_dict_setdefault
def NB:=@PySem.wpAny_mono
def NC:=@Nat.lt_succ_self
def ND:=@Nat.le_of_lt
def NE:=@PySem.wpAny_pyIter_list
def NF:=@PySem.wpAny_newObj_type
def NG:=@PySem.Heap.get?_update_other
def NH:=@List.length_set
def NI:=@List.flatMap_singleton
def NJ:=@List.getElem_mem
def NK:=@List.filter_map
def NL:=@List.take_length
def NM:=@PySem.tupleKind_room_in1
def NN:=@PySem.F.args_dict_setdefault_3
def NO:=@List.flatten_nil
def NP:=@List.getElem?_take_of_lt
def NQ:=@PySem.wpAny_holding
def NR:=@List.filter_congr
def NS:=@PySem.F.entry_dict_setdefault
def NT:=@List.eq_nil_of_length_eq_zero
def NU:=@List.mem_reverse
def NV:=@List.take_append_of_le_length
def NW:=@Nat.lt_succ_of_lt
def NX:=@PySem.F.plainAttrs_list
def NY:=@List.filterMap_cons
def NZ:=@PySem.Calls.callWith_builtin
def N0:=@List.filter_eq_nil_iff
def N3:=@PySem.Paired.length
def N4:=@List.filter_cons
def N5:=@PySem.wpAny_Call_Name_kw
def N6:=@List.length_nil
def N7:=@PySem.F.slot_tuple_iterator_next
def N8:=@List.take_append_drop
def N9:=@List.drop_eq_getElem_cons
def Oa:=@List.mem_or_eq_of_mem_set
def Ob:=@List.getElem?_eq_none_iff
def Oc:=@PySem.wpAny_passesOwn
def Od:=@Int.toNat_natCast
def Oe:=@List.ext_getElem?
def Of:=@decide_eq_true_eq
def Og:=@Nat.zero_add
def Oh:=@PySem.W.set_slot
def Oi:=@List.nodup_cons
def Oj:=@List.cons.inj
def Ol:=@PyProof.Rows.slot_tuple_getitem
def Om:=@PySem.mem_of_lookup
def Oo:=@PySem.Heap.SameBut.update
def Op:=@List.takeWhile_cons
def Oq:=@PySem.wpAny_call_entry
def Ot:=@PySem.F.plain_max_loop
def Ou:=@Nat.add_sub_cancel_left
def Ov:=@PySem.F.slot_list_extend
def Ow:=@Nat.ne_of_gt
def Ox:=@PySem.Calls.spliced_cons
def Oy:=@PySem.call_meetsIn
def Oz:=@Nat.lt_of_le_of_lt
def OA:=@List.drop_of_length_le
def OB:=@PySem.wpAny_setField_rec
def OC:=@List.nil_append
def OD:=@List.map_id'
def OE:=@List.takeWhile_sublist
def OF:=@List.mem_zipIdx_iff_getElem?
def OG:=@PySem.Heap.get?_update_self
def OH:=@PyProof.Rows.boot_str
def OI:=@List.any_eq_false
def OJ:=@PySem.wpAny_letGo
def OK:=@PySem.Around.under_plainId
def OL:=@PySem.wpAny_tryCatch
def OM:=@List.all_eq_true
def ON:=@Bool.or_eq_false_iff
def OO:=@List.all_cons
def OP:=@List.exists_cons_of_ne_nil
def OQ:=@List.length_drop
def OR:=@List.map_nil
def OS:=@List.nodup_nil
def OT:=@List.nodup_append
def OU:=@decide_eq_decide
def OV:=@List.length_range
def OW:=@Array.length_toList
def OX:=@PySem.F.args_tuple_add_2
def OY:=@PySem.F.slot_list_getattribute
def OZ:=@PySem.plainId_quiet
def O0:=@List.filterMap_cons_none
def O2:=@PySem.F.type_list_extend
def O3:=@if_true
def O4:=@Option.map_some
def O6:=@PySem.codeAny_builtin
def O7:=@Nat.min_eq_left
def Pa:=@PySem.wpAny_pyIter_tuple
def Pb:=@List.mem_filterMap
def Pc:=@beq_iff_eq
def Pd:=@PySem.wpAny_rule
def Pe:=@decide_eq_true_iff
def Pf:=@Nat.add_sub_cancel
def Pg:=@PySem.F.entry_tuple_add
def Ph:=@PySem.F.plainAttrs_dict
def Pj:=@List.any_eq_true
def Pk:=@PySem.codeAny_mono
def Pl:=@PySem.F.slot_tuple_add
def Pm:=@Option.isSome_map
def Pn:=@PyProof.Rows.boot_list
def Po:=@PySem.wpAny_pyIter_enum
def Pp:=@List.all_map
def Pq:=@List.pairwise_map
def Pr:=@List.flatMap_append
def Ps:=@List.drop_eq_nil_of_le
def Pt:=@PySem.F.slot_dict_get
def Pu:=@List.getElem?_zipWith
def Pw:=@PyProof.Rows.boot_int
def Px:=@beq_self_eq_true
def Py:=@Nat.min_eq_right
def Pz:=@List.any_cons
def PB:=@Bool.and_true
def PD:=@Bool.true_and
def PF:=@List.map_take
def PH:=@PySem.W.mg_of
def PJ:=@PySem.Calls.evalArgs_plain
def PL:=@List.cons_append
def PM:=@List.Pairwise.filter
def PN:=@List.pairwise_append
def PP:=@Bool.and_eq_true_iff
def PQ:=@PySem.wpAny_execs_nil
def PR:=@List.of_mem_zip
def PU:=@PySem.wpAny_updateSeq
def PV:=@List.forIn_cons
def PX:=@PySem.F.args_tuple_iterator_next_1
def PY:=@PySem.F.slot_zip_next
def PZ:=@List.mem_of_mem_take
def P0:=@PySem.W.plainGet_of
def P1:=@List.length_reverse
def P2:=@List.mem_map_of_mem
def P4:=@PySem.wpAny_typeOf
def P5:=@PySem.F.entry_tuple_iterator_next
def P6:=@PyProof.Rows.boot_enumerate
def P7:=@List.idxOf_lt_length_of_mem
def P8:=@PySem.Calls.Name_function_global
def P9:=@PySem.W.callWith_K
def Qa:=@PySem.W.KFB.if_not
def Qb:=@Bool.false_eq_true
def Qc:=@PySem.wpAny_letOwnedTupleGo_enum
def Qd:=@List.filter_filter
def Qe:=@PySem.F.called_enumerate
def Qf:=@List.length_zipIdx
def Qg:=@List.pairwise_cons
def Qh:=@List.map_inj_right
def Qi:=@List.getElem?_zip_eq_some
def Qj:=@PySem.sizeLine_eq
def Qk:=@PyProof.Rows.vals1
def Ql:=@PySem.Calls.spliced_nil
def Qm:=@List.zipIdx_cons
def Qn:=@PySem.wpAny_standAt
def Qo:=@Option.isSome_iff_exists
def Qp:=@Bool.or_false
def Qq:=@List.filterMap_cons_some
def Qr:=@PySem.F.slot_dict_values
def Qs:=@List.sum_cons
def Qt:=@PySem.noFill_tuple_add
def Qu:=@if_false
def Qv:=@Option.getD_none
def Qw:=@PySem.F.args_dict_get_3
def Qx:=@decide_eq_false_iff_not
def Qy:=@List.map_reverse
def Qz:=@List.pairwise_singleton
def QA:=@Nat.lt_add_of_pos_right
def QB:=@Nat.le_of_eq
def QC:=@PySem.W.cellsFrom_some
def QD:=@PySem.F.entry_dict_get
def QE:=@PyProof.Rows.boot_dict
def QF:=@Nat.succ_mul
def QG:=@Int.emod_nonneg
def QH:=@List.filter_nil
def QI:=@List.cons.injEq
def QJ:=@List.sum_append
def QK:=@PySem.W.methodCall_KW
def QL:=@Array.getElem?_toList
def QM:=@PyProof.Rows.boot_max
def QN:=@Sum.inr.inj
def QO:=@Bool.and_false
def QP:=@PySem.wpAny_listPart
def QQ:=@PySem.wpAny_of_eq
def QR:=@List.getElem?_zipIdx
def QS:=@List.mem_of_mem_tail
def QT:=@List.take_zero
def QU:=@List.mem_range
def QV:=@List.take_nil
def QW:=@PySem.call_meets
def QX:=@List.set_set
def QY:=@Nat.sub_zero
def QZ:=@Nat.add_comm
def Q0:=@Nat.sub_self
def Q1:=@Nat.succ_pos
def Q2:=@not_or
def Q3:=@Nat.le_succ
def Q4:=@Prod.mk.inj
namespace L2
open PySem PySem.Spec PyProof.Rows
abbrev aM:=Sum Int Str
def lT:aM->Value->Bool
 |.inl k,v=>Value.isInt k v
 |.inr x,v=>Value.isStrOf x v
def Fb (w:World):aM->Int
 |.inl k=>hashInt k
 |.inr x=>hashStr w x
def jn:∀{k:aM} {v:Value},lT k v=true->(∃i t,k=Sum.inl i/\v=Value.int i t)\/(∃x t,k=Sum.inr x/\v=Value.str x t)
 |.inl i,v,h=>by
  obtain ⟨t,e⟩:=Value.isInt_shape (k:=i) (v:=v) h;exact .inl ⟨i,t,rfl,e⟩
 |.inr x,v,h=>by
  obtain ⟨t,e⟩:=Value.isStrOf_shape (x:=x) (v:=v) h;exact .inr ⟨x,t,rfl,e⟩
def LB (i:Int)(t:Tok):lT (.inl i) (.int i t)=true:=by simp [lT,Value.isInt]
def FE (x:Str)(t:Tok):lT (.inr x) (.str x t)=true:=by simp [lT,Value.isStrOf]
def Lq (a b:Int):decide ((Sum.inl a:aM)=Sum.inl b)=(a==b):=by
 by_cases e:a=b
 .subst e;simp
 .have h:¬(Sum.inl a:aM)=Sum.inl b:=λq=>e (Sum.inl.inj q);rw [MH h];exact (Nl.mpr e).symm
def Jj (a b:Str):decide ((Sum.inr a:aM)=Sum.inr b)=decide (a=b):=by
 by_cases e:a=b
 .subst e;simp
 .have h:¬(Sum.inr a:aM)=Sum.inr b:=λq=>e (QN q);rw [MH h,MH e]
def DS (a:Int)(b:Str):decide ((Sum.inl a:aM)=Sum.inr b)=false:=MH λq=>nomatch q
def DN (a:Str)(b:Int):decide ((Sum.inr a:aM)=Sum.inl b)=false:=MH λq=>nomatch q
def dw (prog:Program)(w:World):PySem.KeyKind prog w aM where
 is:=lT
 hash:=Fb w
 inj:=λv a b ha hb=>by
  rcases jn ha with ⟨i,t,rfl,rfl⟩|⟨x,t,rfl,rfl⟩
  .rcases jn hb with ⟨j,u,rfl,e⟩|⟨y,u,rfl,e⟩
   .injection e with e1 _;rw [e1]
   .exact nomatch e
  .rcases jn hb with ⟨j,u,rfl,e⟩|⟨y,u,rfl,e⟩
   .exact nomatch e
   .injection e with e1 _;rw [e1]
 byValue:=λk v h=>by
  rcases jn h with ⟨i,t,rfl,rfl⟩|⟨x,t,rfl,rfl⟩<;>rfl
 pyHash:=λhv h=>by
  rcases jn hv with ⟨i,t,rfl,rfl⟩|⟨x,t,rfl,rfl⟩
  .exact wpAny_pyHash_int h
  .exact wpAny_pyHash_str h
 eqBool:=λhu hv h=>by
  rcases jn hu with ⟨i,t,rfl,rfl⟩|⟨x,t,rfl,rfl⟩
  .rcases jn hv with ⟨j,u,rfl,rfl⟩|⟨y,u,rfl,rfl⟩
   .rw [Lq] at h;exact wpAny_eqBool_int h
   .rw [DS] at h;exact SeqAt.EqAt.int_str i t y u _ _ _ _ h
  .rcases jn hv with ⟨j,u,rfl,rfl⟩|⟨y,u,rfl,rfl⟩
   .rw [DN] at h;exact SeqAt.EqAt.str_int x t j u _ _ _ _ h
   .rw [Jj] at h;exact wpAny_eqBool_str h
 «strs»:=λk x t v h=>by
  rcases jn h with ⟨i,u,rfl,e⟩|⟨y,u,rfl,e⟩
  .exact nomatch e
  .injection e with e1 _
   subst e1
   cases v<;>rfl
def Kl (a:Program)(w:World)(k:aM)(v:Value):(dw a w).is k v=lT k v:=rfl
def JR (a:Program)(w:World)(i:Int)(t:Tok):(dw a w).is (.inl i) (.int i t)=true:=LB i t
def Ja (a:Program)(w:World)(x:Str)(t:Tok):(dw a w).is (.inr x) (.str x t)=true:=FE x t
end L2
namespace L2
open PySem PySem.Spec PyProof.Rows
inductive V where
 |av|bl (b:Bool)|int (i:Int)|str (x:Str)|gz (b:Array UInt8)|mG (b:UInt64)|ref (a:Addr)|ty (n:String)
 deriving DecidableEq
def RelV:V->Value->Prop
 |.av,u=>u=Value.none
 |.bl b,u=>u=Value.bool b
 |.int i,u=>∃t,u=Value.int i t
 |.str x,u=>∃t,u=Value.str x t
 |.gz b,u=>∃t,u=Value.bytes b t
 |.mG b,u=>∃t,u=Value.float b t
 |.ref a,u=>u=Value.ref a
 |.ty n,u=>u=Value.type n
abbrev be:List V->List Value->Prop:=Paired RelV
theorem be.length(r:be a b):a.length=b.length:=N3 r
theorem be.get:∀{a:List V} {b:List Value} {i:Nat} {x:V},be a b->a[i]?=some x->∃u,b[i]?=some u/\RelV x u
 |_,_,_,_,.nil,e=>by simp at e
 |_,_,0,_,.cons r _,e=>by simp at e;subst e;exact ⟨_,rfl,r⟩
 |_,_,i+1,x,.cons _ t,e=>by
  obtain ⟨u,c,d⟩:=be.get (i:=i) (x:=x) t (by simpa using e);exact ⟨u,by simpa using c,d⟩
theorem be.append:∀{a b:List V} {c d:List Value},be a c->be b d->be (a++b) (c++d)
 |_,_,_,_,.nil,s=>s
 |_,_,_,_,.cons r t,s=>.cons r<|be.append t s
theorem be.take:∀{a:List V} {b:List Value} (n:Nat),be a b->be (a.take n) (b.take n)
 |_,_,0,_=>.nil
 |_,_,_+1,.nil=>.nil
 |_,_,n+1,.cons r t=>.cons r<|be.take n t
theorem be.drop:∀{a:List V} {b:List Value} (n:Nat),be a b->be (a.drop n) (b.drop n)
 |_,_,0,r=>r
 |_,_,_+1,.nil=>.nil
 |_,_,n+1,.cons _ t=>be.drop n t
def ee:Option V->Option Value->Prop
 |some v,some u=>RelV v u
 |none,none=>True
 |_,_=>False
def KV {κ:Type}:List (κ×V)->List (κ×Value)->Prop:=Paired λ(p:κ×V) (q:κ×Value)=>p.1=q.1/\RelV p.2 q.2
def kV:aM->V
 |.inl i=>.int i
 |.inr x=>.str x
inductive HO where
 |lst (xs:List V)
 |tup (xs:List V)
 |dK (kvs:List (aM×V))|dT (kvs:List (List aM×V))
 |set (S:Int->Bool) (n:Nat)
 |ins (C dx:Addr) (fs:List (Str×V))
 |own (x:Addr)
 |xd (fs:List (Str×V))
 |met (f x:Addr)
 |wR (lo hi:Int)
 |cW (o:Obj) (u:HO)
 |ky (ps:Array Value)
 |ext (φ:Heap->Prop)
abbrev Hp:=Addr->Option HO
def upd (H:Hp)(a:Addr)(o:HO):Hp:=λb=>if b=a then some o else H b
def aO:upd H a o a=some o:=by unfold upd;rw [Mp rfl]
def aD(h:b≠a):upd H a o b=H b:=by unfold upd;rw [Mj h]
def zZ{H:Hp}(h:H a=some o)(c:H b=some u)(d:o≠u):a≠b:=by
 intro e;subst e;rw [h] at c;exact d<|Mu c
def dm{H:Hp}(h:H a=some o)(c:H b=none):a≠b:=by
 intro e;subst e;rw [h] at c;cases c
section
variable (P:Program)(w:World)
def ca (H:Hp)(h:Heap)(a:Addr):HO->Prop
 |.lst xs=>xs.length<=sizeLine/\∃(its:List Value) (n:Nat),be xs its/\h.get? a=some {cls:=.type "list",data:=.seq its.toArray n}
 |.tup xs=>xs.length<=sizeLine/\∃its:List Value,be xs its/\IsTup h a its.toArray
 |.dK kvs=>kvs.length<=sizeLine/\(a==sysModules)=false/\∃vs,KV kvs vs/\h.DictOf (dw P w) a vs
 |.dT kvs=>kvs.length<=sizeLine/\(a==sysModules)=false/\∃xs:List (List aM×Addr×Value),
   Paired (λ(p:List aM×V) (q:List aM×Addr×Value)=>p.1=q.1/\H q.2.1=some (.tup (p.1.map kV))/\RelV p.2 q.2.2) kvs xs/\
   ∃o es ep,h.get? a=some o/\o.ExactDict/\o.data=.dict es ep/\es.toList=xs.map (entryOfKey (tupleKind (dw P w)))/\(xs.map (·.1)).Nodup
 |.set S n=>h.SetOf (intKind P w) a S n
 |.ins C dx fs=>H dx=some (.own a)/\fs.length<=1000/\dx≠a/\h.get? a=some (PySem.W.instObj C dx)/\
   ∃mA,h.Ns1 dx mA/\(∀f,ee (fs.lookup f) (mA f))/\PySem.Within mA (fs.map (·.1))
 |.own _=>∃o,h.get? a=some o
 |.xd fs=>∃mA,h.Ns1 a mA/\∀f,ee (fs.lookup f) (mA f)
 |.wR lo hi=>∃t u v,h.get? a=some {cls:=.type "range",data:=.fields #[.int lo t,.int hi u,.int 1 v]}
 |.cW o u=>h.get? a=some o/\ca H h a u
 |.ky ps=>h.get? a=some {cls:=.none,data:=.fields ps}
 |.met f x=>h.get? a=some (PySem.W.methodObj (.ref f) (.ref x))
 |.ext φ=>φ h/\(∃o,h.get? a=some o)/\∀h1 h2:Heap,φ h1->(∀o,h1.get? a=some o->h2.get? a=some o)->φ h2
def cZ (H:Hp)(h:Heap):Prop:=∀a o,H a=some o->ca P w H h a o
end
section
variable {P:Program}{w:World}{H H':Hp}{h h':Heap}{a:Addr}{o:HO}
theorem ca.lt (x:ca P w H h a o):a<h.objs.size:=by
 cases o with
 |lst c=>obtain ⟨_,_,_,_,e⟩:=x;exact MA e
 |tup c=>obtain ⟨_,_,_,p⟩:=x;exact p.lt
 |dK b=>obtain ⟨_,_,_,_,o,_,_,e,_⟩:=x;exact MA e
 |dT b=>obtain ⟨_,_,_,_,o,_,_,e,_⟩:=x;exact MA e
 |set S n=>obtain ⟨o,_,_,_,e,_⟩:=x;exact MA e
 |ins C g d=>obtain ⟨_,_,_,e,_⟩:=x;exact MA e
 |own y=>obtain ⟨_,e⟩:=x;exact MA e
 |xd d=>obtain ⟨_,⟨_,_,_,e,_⟩,_⟩:=x;exact MA e
 |wR lo i=>obtain ⟨_,_,_,e⟩:=x;exact MA e
 |cW j u=>obtain ⟨e,_⟩:=x;exact MA e
 |ky k=>exact MA (show h.get? a=some _ from x)
 |met f y=>exact MA (show h.get? a=some _ from x)
 |ext l=>obtain ⟨_,⟨_,e⟩,_⟩:=x;exact MA e
theorem Paired.we{G:e->g->Prop}:∀{c:List e} {d:List g},Paired F c d->(∀a b,F a b->G a b)->Paired G c d
 |_,_,.nil,_=>.nil
 |_,_,.cons r t,f=>.cons (f _ _ r)<|Paired.we t f
def ca.j6 (x:ca P w H h a o)(k:∀b u,(b=a\/H b=some (.own a))->h.get? b=some u->h'.get? b=some u)
  (G:∀b,H b=some (.own a)->H' b=some (.own a)) (I:∀b m,H b=some (.tup m)->H' b=some (.tup m)):ca P w H' h' a o:=by
 induction o with
 |lst m=>obtain ⟨z,l,n,r,e⟩:=x;exact ⟨z,l,n,r,k _ _ (.inl rfl) e⟩
 |tup m=>obtain ⟨z,l,r,g,e,c⟩:=x;exact ⟨z,l,r,g,k _ _ (.inl rfl) e,c⟩
 |dK s=>obtain ⟨z,y,J,r,g,i,j,e,c⟩:=x;exact ⟨z,y,J,r,g,i,j,k _ _ (.inl rfl) e,c⟩
 |dT s=>
  obtain ⟨z,y,m,r,g,i,j,e,c⟩:=x;exact ⟨z,y,m,Paired.we r λp q z=>⟨z.1,I _ _ z.2.1,z.2.2⟩,g,i,j,k _ _ (.inl rfl) e,c⟩
 |set S n=>obtain ⟨g,i,j,t,e,c⟩:=x;exact ⟨g,i,j,t,k _ _ (.inl rfl) e,c⟩
 |ins C Q L=>
  obtain ⟨d,z,M,e,A,⟨B,i,j,N,c⟩,r⟩:=x;exact ⟨G _ d,z,M,k _ _ (.inl rfl) e,A,⟨B,i,j,k _ _ (.inr d) N,c⟩,r⟩
 |own y=>obtain ⟨g,e⟩:=x;exact ⟨g,k _ _ (.inl rfl) e⟩
 |xd L=>obtain ⟨A,⟨B,i,j,e,c⟩,r⟩:=x;exact ⟨A,⟨B,i,j,k _ _ (.inl rfl) e,c⟩,r⟩
 |wR lo T=>obtain ⟨t,u,v,e⟩:=x;exact ⟨t,u,v,k _ _ (.inl rfl) e⟩
 |cW g u O=>obtain ⟨e,q⟩:=x;exact ⟨k _ _ (.inl rfl) e,O q⟩
 |ky E=>
  have e:h.get? a=some {cls:=.none,data:=.fields E}:=x;show h'.get? a=some {cls:=.none,data:=.fields E};exact k a _ (.inl rfl) e
 |met f y=>
  have e:h.get? a=some (W.methodObj (.ref f) (.ref y)):=x;show h'.get? a=some (W.methodObj (.ref f) (.ref y));exact k a _ (.inl rfl) e
 |ext U=>obtain ⟨p,⟨o,e⟩,st⟩:=x;exact ⟨st _ _ p λo q=>k _ _ (.inl rfl) q,⟨o,k _ _ (.inl rfl) e⟩,st⟩
theorem cZ.lt (x:cZ P w H h)(e:H a=some o):a<h.objs.size:=(x a o e).lt
def cZ.fresh (x:cZ P w H h)(e:h.objs.size<=a):H a=none:=by
 cases q:H a with
 |none=>rfl
 |some u=>exact absurd (MS (x.lt q) e)<|Nr _
def cZ.kept (x:cZ P w H h)(k:∀b u,h.get? b=some u->h'.get? b=some u):cZ P w H h':=λa o e=>
 (x a o e).j6 (λb u _ q=>k b u q) (λ_ q=>q) λ_ _ q=>q
def cZ.laid (x:cZ P w H h)(k:∀b u,h.get? b=some u->h'.get? b=some u)(i:h.objs.size<=a)(d:ca P w (upd H a o) h' a o):cZ P w (upd H a o) h':=λb u e=>by
 have f:=x.fresh i;by_cases g:b=a
 .subst g;rw [aO] at e;cases e;exact d
 .rw [aD g] at e
  exact (x b u e).j6 (λc v _ q=>k c v q) (λc q=>by rw [aD<|dm q f];exact q) λc j q=>by rw [aD<|dm q f];exact q
end
def Rd (H:Hp)(a:Addr)(u:HO):Prop:=H a=some u\/∃o,H a=some (.cW o u)
def Rd.ok(r:Rd H a u)(x:cZ P w H h):ca P w H h a u:=by
 rcases r with r|⟨o,r⟩
 .exact x a u r
 .obtain ⟨_,q⟩:=x a _ r;exact q
def pq:Option HO->Prop
 |some (.lst _)=>True
 |some (.dK _)=>True
 |some (.dT _)=>True
 |some (.set _ _)=>True
 |some (.ins _ _ _)=>True
 |some (.ext _)=>True
 |_=>False
section
variable {P:Program}{w:World}{H:Hp}{h h':Heap}{x e:Addr}{o':HO}
def cZ.write (s:cZ P w H h)(g:pq (H x))(o:e=x\/H e=some (.own x))(k:∀b u,b≠e->h.get? b=some u->h'.get? b=some u)(m:∃u,h'.get? e=some u)
  (n:ca P w (upd H x o') h' x o'):cZ P w (upd H x o') h':=λb u q=>by
 have d:∀c y,H c=some (.own y)->c≠x:=λc y r z=>by subst z;rw [r] at g;exact g
 have f:∀c i,H c=some (.tup i)->c≠x:=λc i r z=>by subst z;rw [r] at g;exact g
 by_cases j:b=x
 .subst j;rw [aO] at q;cases q;exact n
 .rw [aD j] at q
  by_cases a:b=e
  .have p:H b=some (.own x):=by
    rcases o with z|z
    .exact absurd (a.trans z) j
    .rw [a];exact z
   rw [q] at p;cases p;obtain ⟨v,t⟩:=m;exact ⟨v,by rw [a];exact t⟩
  .refine (s b u q).j6 (λc v l r=>k c v ?_ r) (λc r=>by rw [aD<|d c b r];exact r) λc i r=>by rw [aD<|f c i r];exact r
   rcases l with rfl|l
   .exact a
   .rintro rfl
    rcases o with z|z
    .exact d c b l z
    .rw [l] at z;cases z;exact j rfl
end
structure Un (fs ex:List Addr)(H H':Hp)(h h':Heap):Prop where
 keep:∀b o,h.get? b=some o->H b=none->b∉fs->b∉ex->h'.get? b=some o
 slot:∀b o,h.get? b=some o->H b=none->b∈fs->b∉ex->∃sl,h'.get? b=some {o with slots:=sl}
 free:∀b o,h.get? b=some o->H b=none->b∉ex->H' b=none
 there:∀b o,h.get? b=some o->b∉ex->∃o',h'.get? b=some o'
 iX:∀b xs,H b=some (.tup xs)->H' b=some (.tup xs)
 iy:∀b o u,H b=some (.cW o u)->H' b=some (.cW o u)
 iI:∀b ps,H b=some (.ky ps)->∃more,H' b=some (.ky (ps++more))
section
variable {fs fs' ex ex':List Addr}{H H1 H2:Hp}{h h1 h2 h':Heap}{a x e:Addr}{o:HO}
def Un.any(u:Un fs ex H H1 h h1)(q:h.get? b=some c)(n:H b=none)(d:b∉ex):∃g,h1.get? b=some {c with slots:=g}:=by
 by_cases f:b∈fs
 .exact u.slot b c q n f d
 .exact ⟨c.slots,u.keep b c q n f d⟩
def Un.kept (k:∀b u,h.get? b=some u->h'.get? b=some u):Un fs ex H H h h':=
 ⟨λb c q _ _ _=>k b c q,λb c q _ _ _=>⟨c.slots,k b c q⟩,λ_ _ _ n _=>n,λb c q _=>⟨c,k b c q⟩,λ_ _ q=>q,λ_ _ _ q=>q,λ_ d q=>⟨#[],by rw [q];simp⟩⟩
def Un.refl:Un fs ex H H h h:=Un.kept λ_ _ q=>q
def Un.laid (k:∀b u,h.get? b=some u->h'.get? b=some u)(hp:h.objs.size<=a)(hn:H a=none):Un fs ex H (upd H a o) h h' where
 keep:=λb u q _ _ _=>k b u q
 slot:=λb u q _ _ _=>⟨u.slots,k b u q⟩
 free:=λb u q n _=>by rw [aD<|MM<|MS (MA q) hp];exact n
 there:=λb u q _=>⟨u,k b u q⟩
 iX:=λb xs q=>by rw [aD<|dm q hn];exact q
 iy:=λb u xs q=>by rw [aD<|dm q hn];exact q
 iI:=λb ps q=>⟨#[],by rw [aD<|dm q hn,q];simp⟩
def Un.write (d:pq (H x))(l:e=x\/H e=some (.own x))(k:∀b u,b≠e->h.get? b=some u->h'.get? b=some u)(f:∃u,h'.get? e=some u):Un fs ex H (upd H x o) h h':=by
 have i:∀b,H b=none->b≠x:=λb n z=>by subst z;rw [n] at d;exact d
 have j:∀b,H b=none->b≠e:=λb n z=>by
  subst z;rcases l with r|r
  .exact i b n r
  .rw [n] at r;cases r
 have g:∀b u,H b=some u->¬pq (some u)->b≠x:=λb u q m z=>by subst z;rw [q] at d;exact m d
 refine ⟨λb u q n _ _=>k b u (j b n) q,λb u q n _ _=>⟨u.slots,k b u (j b n) q⟩,λb u q n _=>by rw [aD<|i b n];exact n,λb u q _=>?_,
  λb p q=>by rw [aD<|g b _ q λz=>z];exact q,λb u p q=>by rw [aD<|g b _ q λz=>z];exact q,λb s q=>⟨#[],by rw [aD<|g b _ q λz=>z,q];simp⟩⟩
 by_cases c:b=e
 .subst c;exact f
 .exact ⟨u,k b u c q⟩
end
def qN (h:Heap)(H:Hp):List Addr:=(List.range h.objs.size).filter λa=>(H a).isSome
def kz (h:Heap)(H:Hp):Heap:=PySem.W.hideAll h (qN h H)
def JU (h:Heap)(H:Hp):(kz h H).objs.size=h.objs.size:=W.hideAll_size _ _
def Km{h:Heap}{H:Hp}(e:h.get? b=some o)(n:H b=none):(kz h H).get? b=some o:=
 W.hideAll_get _ e λa=>by
  have q:(H b).isSome=true:=(Mq.mp a).2;rw [n] at q;simp at q
def Dh(e:(kz h H).get? b=some o):h.get? b=some o/\H b=none:=by
 have a:h.get? b=some o:=W.of_hideAll (qN h H) e;refine ⟨a,?_⟩;cases q:H b with
 |none=>rfl
 |some x=>
  have c:b∈qN h H:=Mq.mpr ⟨QU.mpr<|MA a,by simp [q]⟩;have z:(kz h H).get? b=none:=W.hideAll_none (qN h H) c;rw [z] at e;cases e
end L2
namespace L2
open PySem PySem.Spec PyProof.Rows
structure Mod (K:PySem.W.Frag)(mg:Str->Option Value)(base:Heap):Prop where
 p7:K.In base
 glob:base.Ns mainGlobals mg
 blt:∃mb,base.Ns builtinsNs mb/\∀x:Str,x≠"__name__"->mb x=bootBuiltins x
 nolimit:base.NoLimit
structure Cx where
 prog:Program
 w:World
 K:PySem.W.Frag
 mg:Str->Option Value
 base:Heap
 A:Around
 N:List Str
 s₀:Shared
 H₀:Hp
 env:Env
 outer:List Env
 stack:List Env
 ex:List Addr
 fn:Str->Bool
 calm:Bool
 pn:List (Addr×Obj)
 xe:Value->Shared->Prop
def iG (l:List Env):List Addr:=l.filterMap (·.frame)
abbrev Cx.fs (X:Cx):List Addr:=iG X.outer
def qC (sc:Scope)(x:Str):Prop:=sc.names.lookup x=some .local\/sc.names.lookup x=some .cell\/sc.names.lookup x=some .free
def Loc (sc:Scope)(x:Str):Prop:=sc.names.lookup x=some .local\/sc.names.lookup x=some .cell
def Look (env:Env)(h:Heap)(m:Str->Option Value)(x:Str)(u:Value):Prop:=
 (env.kindOf x=some .local/\m x=some u)\/((env.kindOf x=some .cell\/env.kindOf x=some .free)/\∃c,env.cells.lookup x=some c/\h.IsCell c (some u))
structure Cx.Ok (X:Cx):Prop where
 mod:Mod X.K X.mg X.base
 kind:X.env.scope.kind=.function
 glob:X.env.globals=mainGlobals
 blt:X.env.builtins=builtinsNs
 above:X.s₀.heap.objs.size<=X.env.locals
 inj:∀x y c,X.env.cells.lookup x=some c->X.env.cells.lookup y=some c->x=y
 has:∀x,(X.env.kindOf x=some .cell\/X.env.kindOf x=some .free)->∃c,X.env.cells.lookup x=some c
 oz:∀x c,X.fn x=true->X.env.cells.lookup x=some c->X.s₀.heap.objs.size<=c
 hd:X.calm=true->X.A.handled=none
 frames:X.A.frames=some X.stack
 qh:X.stack=X.outer\/(X.stack=X.env::X.outer/\X.env.frame=some X.env.locals)
 w9:∀b∈X.ex,b≠X.env.locals/\∀x c,X.env.cells.lookup x=some c->c≠b
 bs:∀b o,X.base.get? b=some o->X.s₀.heap.get? b=some o/\X.H₀ b=none
 j9:X.base.objs.size<=X.s₀.heap.objs.size
 oK:∀b o,X.base.get? b=some o->b∉X.ex
 p8:∀b∈X.ex,b∉X.fs
 hJ:X.s₀.heap.FunFrames X.base X.outer
 lu:∀b∈X.fs,X.H₀ b=none
structure Inv (X:Cx)(pins:List (Addr×Obj))(σ:List (Option V))(H:Hp)(s:Shared):Prop where
 ok:X.Ok
 os:s.os=X.s₀.os
 bare:AllBare s.gens
 base:Un X.fs X.ex X.H₀ H X.s₀.heap s.heap
 loc:∃m,s.heap.Ns X.env.locals m/\∀(i:Nat) (x:Str) (v:V),X.N[i]?=some x->σ[i]?=some (some v)->qC X.env.scope x->∃u,RelV v u/\Look X.env s.heap m x u
 cell:∀x c,X.env.cells.lookup x=some c->∃v,s.heap.IsCell c v
 free:H X.env.locals=none
 g9:∀x c,X.env.cells.lookup x=some c->H c=none
 pin:∀p∈X.pn++pins,s.heap.get? p.1=some p.2/\H p.1=none/\p.1≠X.env.locals/\p.1∉X.fs/\∀v,p.2.data≠.cell v
 aA:cZ X.prog X.w H s.heap
 len:σ.length=X.N.length
section
variable {X:Cx}{pins:List (Addr×Obj)}{σ:List (Option V)}{H H':Hp}{s:Shared}{h':Heap}
def Cx.Ok.Hb(a:X.Ok)(e:X.base.get? b=some o):b∉X.fs:=λc=>by
 have:=(a.hJ.mem c).1;rw [e] at this;cases this
theorem Inv.bs (I:Inv X pins σ H s):∀b o,X.base.get? b=some o->s.heap.get? b=some o/\H b=none:=λb o e=>
 ⟨I.base.keep b o (I.ok.bs b o e).1 (I.ok.bs b o e).2 (I.ok.Hb e)<|I.ok.oK b o e,I.base.free b o (I.ok.bs b o e).1 (I.ok.bs b o e).2<|I.ok.oK b o e⟩
def Inv.bk (I:Inv X pins σ H s):∀b o,X.base.get? b=some o->s.heap.get? b=some o:=λb o e=>(I.bs b o e).1
theorem Inv.mod (I:Inv X pins σ H s):Mod X.K X.mg X.base:=I.ok.mod
def Inv.dL (I:Inv X pins σ H s):X.K.In s.heap:=I.ok.mod.p7.keeps I.bk
theorem Inv.lt (I:Inv X pins σ H s):X.env.locals<s.heap.objs.size:=let ⟨_,a,_⟩:=I.loc;a.lt
def Inv.sz (I:Inv X pins σ H s):X.s₀.heap.objs.size<=s.heap.objs.size:=MF I.ok.above<|ND I.lt
def Inv.D3(I:Inv X pins σ H s)(h:s.heap.objs.size<=a):a∉X.fs:=λb=>by
 obtain ⟨_,o,c,_⟩:=I.ok.hJ.mem b;exact absurd (MS (MA c)<|MF I.sz h)<|Nr _
def Inv.kh (I:Inv X pins σ H s):∀x c,X.env.cells.lookup x=some c->c≠X.env.locals:=λx c e z=>by
 obtain ⟨v,o,d,f⟩:=I.cell x c e;obtain ⟨m,⟨g,h,i,a,b,_⟩,_⟩:=I.loc;rw [z,a] at d;cases d;rw [b] at f;cases f
theorem Inv.hJ (I:Inv X pins σ H s):s.heap.FunFrames X.base X.outer:=by
 have all:∀(l:List Env),(∀b∈iG l,b∈X.fs)->X.s₀.heap.FunFrames X.base l->s.heap.FunFrames X.base l:=by
  intro l;induction l with
  |nil=>intro _ _;trivial
  |cons g r h=>
   intro f i;obtain ⟨j,⟨L,o,a,k,m,n⟩,p⟩:=i;have c:L∈X.fs:=f L (by unfold iG;rw [NY,a];exact Mc);obtain ⟨q,e⟩:=I.base.slot L o m (I.ok.lu L c) c λz=>I.ok.p8 L z c;exact ⟨j,⟨L,_,a,k,e,n⟩,h (λb d=>f b (by unfold iG;rw [NY,a];exact L8 _ d)) p⟩
 exact all X.outer (λ_ d=>d) I.ok.hJ
theorem Inv.stack (I:Inv X pins σ H s):s.heap.FunFrames X.base X.stack:=by
 rcases I.ok.qh with e|⟨e,a⟩
 .rw [e];exact I.hJ
 .rw [e]
  obtain ⟨m,b,_⟩:=I.loc;refine .cons (by rw [I.ok.kind];decide) a b ?_ I.hJ;exact Heap.get?_none_of_le<|MF I.ok.j9 I.ok.above
def Inv.wk (I:Inv X pins σ H s):∀b∈iG X.stack,b∈X.env.locals::X.fs:=λb a=>by
 rcases I.ok.qh with e|⟨e,c⟩
 .rw [e] at a;exact L8 _ a
 .rw [e] at a
  unfold iG at a;rw [NY,c] at a;exact a
def Inv.B9 (I:Inv X pins σ H s):∀b∈iG X.stack,H b=none:=λb a=>by
 rcases Mn.mp (I.wk b a) with e|a
 .rw [e];exact I.free
 .obtain ⟨_,o,c,_⟩:=I.ok.hJ.mem a;exact I.base.free b o c (I.ok.lu b a) λz=>I.ok.p8 b z a
def Inv.step{ch:ZX}(I:Inv X pins σ H s)
  (f:∀b∈ch,(b∈X.ex\/X.s₀.heap.objs.size<=b)/\b≠X.env.locals/\(∀x c,X.env.cells.lookup x=some c->c≠b)/\∀p∈X.pn++pins,p.1≠b)
  (keep:∀b o,b≠X.env.locals->b∉X.fs->b∉ch->s.heap.get? b=some o->H b=none->h'.get? b=some o)
  (y:∀b o,b≠X.env.locals->b∈X.fs->b∉ch->s.heap.get? b=some o->H b=none->∃O,h'.get? b=some {o with slots:=O}) (free:∀b o,b∉ch->s.heap.get? b=some o->H b=none->H' b=none)
  (B:∀b o,b∉ch->s.heap.get? b=some o->∃G,h'.get? b=some G)
  (iX:∀b A,H b=some (.tup A)->H' b=some (.tup A)) (iy:∀b o u,H b=some (.cW o u)->H' b=some (.cW o u)) (iI:∀b N,H b=some (.ky N)->∃J,H' b=some (.ky (N++J)))
  (ns:∀m,s.heap.Ns X.env.locals m->h'.Ns X.env.locals m) (aA:cZ X.prog X.w H' h') (hg:AllBare g'):
  Inv X pins σ H' {s with heap:=h',gens:=g',drawn:=d',toks:=t'}:=by
 have L:∀b o,X.s₀.heap.get? b=some o->b≠X.env.locals:=λb o e=>MM<|MS (MA e) I.ok.above
 have j:∀b o,X.s₀.heap.get? b=some o->b∉X.ex->b∉ch:=λb o e a C=>by
  rcases (f b C).1 with z|z
  .exact a z
  .exact absurd (MS (MA e) z)<|Nr _
 have g:∀x c,X.env.cells.lookup x=some c->∀v,s.heap.IsCell c v->h'.IsCell c v:=λx c e v q0=>by
  obtain ⟨o,E,Q⟩:=q0;have h:c∉ch:=λz=>(f c z).2.2.1 x c e rfl;by_cases U:c∈X.fs
  .obtain ⟨O,q⟩:=y c o (I.kh x c e) U h E (I.g9 x c e);exact ⟨_,q,Q⟩
  .exact ⟨o,keep c o (I.kh x c e) U h E<|I.g9 x c e,Q⟩
 refine ⟨I.ok,I.os,hg,⟨λb o e n C a=>?_,λb o e n C a=>?_,λb o e n a=>?_,λb o e a=>?_,λb A e=>iX b A<|I.base.iX b A e,λb o A e=>iy b o A<|I.base.iy b o A e,λb N e=>?_⟩,?_,λx c e=>?_,?_,λx c e=>?_,λp Y=>?_,aA,I.len⟩
 .exact keep b o (L b o e) C (j b o e a) (I.base.keep b o e n C a)<|I.base.free b o e n a
 .obtain ⟨O,t⟩:=I.base.slot b o e n C a;obtain ⟨T,M⟩:=y b _ (L b o e) C (j b o e a) t<|I.base.free b o e n a;exact ⟨T,M⟩
 .obtain ⟨G,t⟩:=I.base.there b o e a;exact free b G (j b o e a) t<|I.base.free b o e n a
 .obtain ⟨G,t⟩:=I.base.there b o e a;exact B b G (j b o e a) t
 .obtain ⟨m1,t⟩:=I.base.iI b N e;obtain ⟨m2,M⟩:=iI b _ t;exact ⟨m1++m2,by rw [M,Array.append_assoc]⟩
 .obtain ⟨m,hn,hl⟩:=I.loc;refine ⟨m,ns m hn,λi x v t M e3=>?_⟩;obtain ⟨u,r,l⟩:=hl i x v t M e3;refine ⟨u,r,?_⟩;rcases l with l|⟨k,c,e,z⟩
  .exact .inl l
  .exact .inr ⟨k,c,e,g x c e _ z⟩
 .obtain ⟨v,z⟩:=I.cell x c e;exact ⟨v,g x c e v z⟩
 .obtain ⟨m,⟨o,_,_,E,_⟩,_⟩:=I.loc;exact free _ o (λz=>(f _ z).2.1 rfl) E I.free
 .obtain ⟨v,o,E,Q⟩:=I.cell x c e;exact free c o (λz=>(f c z).2.2.1 x c e rfl) E<|I.g9 x c e
 .obtain ⟨e,n,ne,nf,d⟩:=I.pin p Y;have h:p.1∉ch:=λz=>(f p.1 z).2.2.2 p Y rfl;exact ⟨keep p.1 p.2 ne nf h e n,free p.1 p.2 h e n,ne,nf,d⟩
def Inv.un(I:Inv X pins σ H s)(u:Un X.fs [] H H' s.heap h')(aA:cZ X.prog X.w H' h'):Inv X pins σ H' {s with heap:=h',toks:=t'}:=by
 obtain ⟨m,⟨o,k,l,g,r⟩,_⟩:=id I.loc;obtain ⟨p,h⟩:=u.any g I.free Z8;exact I.step (g':=s.gens) (d':=s.drawn) (ch:=[]) (λ_ z=>nomatch z) (λb o _ c _ e n=>u.keep b o e n c Z8) (λb o _ c _ e n=>u.slot b o e n c Z8) (λb o _ e n=>u.free b o e n Z8) (λb o _ e=>u.there b o e Z8) u.iX u.iy u.iI (λq i=>by
  obtain ⟨t,d,f,a,j⟩:=i;rw [g] at a;cases a;exact ⟨_,d,f,h,j⟩) aA I.bare
def Inv.call(I:Inv X pins σ H s)(u:Un (iG X.stack) ch H H' s.heap h')(aA:cZ X.prog X.w H' h')(k:AllBare g')
  (d:∀b∈ch,(b∈X.ex\/X.s₀.heap.objs.size<=b)/\b≠X.env.locals/\(∀x c,X.env.cells.lookup x=some c->c≠b)/\∀p∈X.pn++pins,p.1≠b):
  Inv X pins σ H' {s with heap:=h',gens:=g',drawn:=d',toks:=t'}:=by
 obtain ⟨m,⟨o,v,y,j,r⟩,_⟩:=id I.loc;obtain ⟨A,g⟩:=u.any j I.free λz=>(d _ z).2.1 rfl;exact I.step (ch:=ch) d (λb o g l a e n=>u.keep b o e n (λz=>(Mn.mp<|I.wk b z).elim g l) a) (λb o _ _ a e n=>u.any e n a) (λb o a e n=>u.free b o e n a) (λb o a e=>u.there b o e a) u.iX u.iy u.iI (λB q=>by
  obtain ⟨C,h,i,f,t⟩:=q;rw [j] at f;cases f;exact ⟨_,h,i,g,t⟩) aA k
def Inv.turned(I:Inv X pins σ H s)(k:∀b o,b≠a->s.heap.get? b=some o->h'.get? b=some o)(h:H a=none)(g:a≠X.env.locals)
  (i:a∈X.ex\/X.s₀.heap.objs.size<=a) (j:∀x c,X.env.cells.lookup x=some c->c≠a) (l:∀p∈X.pn++pins,p.1≠a):Inv X pins σ H {s with heap:=h',toks:=t'}:=by
 have f:∀b u,H b=some u->b≠a:=λb u e z=>by rw [z,h] at e;cases e
 refine I.step (g':=s.gens) (d':=s.drawn) (ch:=[a]) (λb t=>?_) (λb o _ _ d e _=>k b o (λz=>d (by simp [z])) e) (λb o _ _ d e _=>⟨o.slots,k b o (λz=>d (by simp [z])) e⟩) (λ_ _ _ _ n=>n)
  (λb o d e=>⟨o,k b o (λz=>d (by simp [z])) e⟩) (λ_ _ e=>e) (λ_ _ _ e=>e) (λb C e=>⟨#[],by rw [e];simp⟩) (λm w=>?_) (λb u e=>?_) I.bare
 .have e:b=a:=by simpa using t
  subst e;exact ⟨i,g,j,l⟩
 .obtain ⟨o,y,A,B,r⟩:=w;exact ⟨o,y,A,k _ o (M6 g) B,r⟩
 .refine (I.aA b u e).j6 (λc v d q=>k c v ?_ q) (λ_ q=>q) λ_ _ q=>q
  rcases d with z|z
  .rw [z];exact f b u e
  .exact f c _ z
def Inv.tok (I:Inv X pins σ H s)(t:Nat):Inv X pins σ H {s with toks:=t}:=I.un (h':=s.heap) (t':=t) Un.refl I.aA
theorem Inv.kept(I:Inv X pins σ H s)(k:∀b u,s.heap.get? b=some u->h'.get? b=some u):Inv X pins σ H {s with heap:=h',toks:=t'}:=I.un (Un.kept k)<|I.aA.kept k
theorem Inv.laid(I:Inv X pins σ H s)(k:∀b u,s.heap.get? b=some u->h'.get? b=some u)(c:s.heap.objs.size<=a)(d:ca X.prog X.w (upd H a o) h' a o):
  Inv X pins σ (upd H a o) {s with heap:=h',toks:=t'}:=I.un (Un.laid k c<|I.aA.fresh c)<|I.aA.laid k c d
theorem Inv.write(I:Inv X pins σ H s)(d:pq (H x))(f:e=x\/H e=some (.own x))(k:∀b u,b≠e->s.heap.get? b=some u->h'.get? b=some u)(a:∃u,h'.get? e=some u)
  (c:ca X.prog X.w (upd H x o) h' x o):Inv X pins σ (upd H x o) {s with heap:=h',toks:=g}:=I.un (Un.write d f k a)<|I.aA.write d f k a c
def Inv.Ct {a:ZV}(I:Inv X pins σ H s)(h:∀p∈a,s.heap.get? p.1=some p.2/\H p.1=none/\p.1≠X.env.locals/\p.1∉X.fs/\∀v,p.2.data≠.cell v):Inv X a σ H s:=
 ⟨I.ok,I.os,I.bare,I.base,I.loc,I.cell,I.free,I.g9,λp b=>(MB.mp b).elim (λz=>I.pin p<|Ms _ z)<|h p,I.aA,I.len⟩
def x8{N:ZY}(c:N.Nodup){i j:Nat}(a:N[i]?=some x)(b:N[j]?=some x):i=j:=by
 obtain ⟨f,d⟩:=Ma.mp a;obtain ⟨g,e⟩:=Ma.mp b;exact (List.getElem_inj c).mp<|d.trans e.symm
def A9{i:Nat}{Q:Unit->Shared->Prop}(I:Inv X pins σ H s)(hN:X.N.Nodup)(hi:X.N[i]?=some x)(B:Loc X.env.scope x)(r:RelV v u)
  (h:∀s',Inv X pins (σ.set i (some v)) H s'->(∃a,Heap.SameBut a s.heap s'.heap/\(a=X.env.locals\/X.env.cells.lookup x=some a))->Q () s') (hf:X.fn x=true\/X.env.scope.names.lookup x=some .local:=by first|exact .inl rfl|exact .inr rfl|assumption):wpAny M A (storeName X.env x u) Q E s:=by
 obtain ⟨m,hn,hl⟩:=id I.loc;have ac:(X.env.scope.kind==.class||(X.env.scope.kind==.module&&X.env.locals !=X.env.globals))=false:=by rw [I.ok.kind];rfl
 have J:i<σ.length:=by rw [I.len];exact (Ma.mp hi).1
 have kh:=I.kh;have g:∀{a:Addr} {Y:Heap},(∃o,s.heap.get? a=some o/\H a=none)->Heap.SameBut a s.heap Y->cZ X.prog X.w H Y:=λ{a Y} ha f b ob e=>by
  obtain ⟨_,_,C⟩:=ha;refine (I.aA b ob e).j6 (λc w' t q=>(f.2 c ?_).trans q) (λ_ q=>q) λ_ _ q=>q;rintro rfl;rcases t with rfl|t
  .rw [C] at e;cases e
  .rw [C] at t;cases t
 rcases B with L|L
 .refine wpAny_storeName_local L hn (λY ao f=>?_) ac
  obtain ⟨oL,_,_,as,_⟩:=id hn;refine h _ ⟨I.ok,I.os,I.bare,⟨λb o e n O B=>?_,λb o e n O B=>?_,I.base.free,λb o e B=>?_,I.base.iX,I.base.iy,I.base.iI⟩,⟨_,ao,λj y v' l G e3=>?_⟩,λy c e=>?_,I.free,I.g9,λp hp=>?_,g ⟨oL,as,I.free⟩ f,by simpa using I.len⟩ ⟨_,f,.inl rfl⟩
  .exact (f.2 b<|MM<|MS (MA e) I.ok.above).trans<|I.base.keep b o e n O B
  .obtain ⟨sl,l⟩:=I.base.slot b o e n O B;exact ⟨sl,(f.2 b<|MM<|MS (MA e) I.ok.above).trans l⟩
  .obtain ⟨o',l⟩:=I.base.there b o e B;exact ⟨o',(f.2 b<|MM<|MS (MA e) I.ok.above).trans l⟩
  .by_cases T:j=i
   .subst T;rw [hi] at l;cases l;rw [Mr J] at G;cases G;exact ⟨u,r,.inl ⟨L,by simp⟩⟩
   .rw [Me<|M6 T] at G
    obtain ⟨u',r',q⟩:=hl j y v' l G e3;refine ⟨u',r',?_⟩;rcases q with ⟨k,e⟩|⟨k,c,e,z⟩
    .refine .inl ⟨k,?_⟩
     have:y≠x:=λe=>T<|x8 hN l<|e▸hi
     simp [this,e]
    .exact .inr ⟨k,c,e,z.sameBut f<|kh y c e⟩
  .obtain ⟨w',z⟩:=I.cell y c e;exact ⟨w',z.sameBut f<|kh y c e⟩
  .obtain ⟨e,n,ne,nf,d⟩:=I.pin p hp;exact ⟨(f.2 p.1 ne).trans e,n,ne,nf,d⟩
 .have U:X.fn x=true:=by
   rcases hf with z|z
   .exact z
   .rw [z] at L;cases L
  obtain ⟨c,t⟩:=I.ok.has x (.inl L);obtain ⟨w',z⟩:=I.cell x c t;refine wpAny_storeName_cell I.ok.kind L t z λY af f=>?_;obtain ⟨oc,aj,am⟩:=id z;refine h {s with heap:=Y} ⟨I.ok,I.os,I.bare,⟨λb o e n O B=>?_,λb o e n O B=>?_,I.base.free,λb o e B=>?_,I.base.iX,I.base.iy,I.base.iI⟩,⟨m,hn.sameBut f<|M6<|kh x c t,λj y v' l G e3=>?_⟩,λy c' e=>?_,I.free,I.g9,λp hp=>?_,g ⟨oc,aj,I.g9 x c t⟩ f,by simpa using I.len⟩ ⟨c,f,.inr t⟩
  .exact (f.2 b<|MM<|MS (MA e)<|I.ok.oz x c U t).trans<|I.base.keep b o e n O B
  .obtain ⟨sl,l⟩:=I.base.slot b o e n O B;exact ⟨sl,(f.2 b<|MM<|MS (MA e)<|I.ok.oz x c U t).trans l⟩
  .obtain ⟨o',l⟩:=I.base.there b o e B;exact ⟨o',(f.2 b<|MM<|MS (MA e)<|I.ok.oz x c U t).trans l⟩
  .by_cases T:j=i
   .subst T;rw [hi] at l;cases l;rw [Mr J] at G;cases G;exact ⟨u,r,.inr ⟨.inl L,c,t,af⟩⟩
   .rw [Me<|M6 T] at G
    obtain ⟨u',r',q⟩:=hl j y v' l G e3;refine ⟨u',r',?_⟩;rcases q with q|⟨k,c',e,z'⟩
    .exact .inl q
    .refine .inr ⟨k,c',e,z'.sameBut f ?_⟩
     rintro rfl;exact T<|x8 hN l<|I.ok.inj _ _ _ e t▸hi
  .by_cases an:c'=c
   .subst an;exact ⟨_,af⟩
   .obtain ⟨w2,z2⟩:=I.cell y c' e;exact ⟨w2,z2.sameBut f an⟩
  .obtain ⟨e,n,ne,nf,d⟩:=I.pin p hp;refine ⟨(f.2 p.1 ?_).trans e,n,ne,nf,d⟩;intro q;rw [q,aj] at e;have q':oc=p.2:=Mu e;exact d w' (by rw [<-q'];exact am)
def yJ{i:Nat}{Q:Unit->Shared->Prop}(I:Inv X pins σ H s)(b:X.N.Nodup)(c:X.N[i]?=some x)(d:Loc X.env.scope x)(r:RelV v u)
  (h:∀a,Inv X pins (σ.set i (some v)) H a->Q () a) (e:X.fn x=true\/X.env.scope.names.lookup x=some .local:=by first|exact .inl rfl|exact .inr rfl|assumption):wpAny M A (storeName X.env x u) Q E s:=
 A9 I b c d r (λa f _=>h a f) e
def Inv.Hc{a:Shared}(I:Inv X pins σ H s)(f:a.os=s.os)(u:Un (iG X.stack) ch H H' s.heap a.heap)(aA:cZ X.prog X.w H' a.heap)(g:AllBare a.gens)
  (d:∀b∈ch,(b∈X.ex\/X.s₀.heap.objs.size<=b)/\b≠X.env.locals/\(∀x c,X.env.cells.lookup x=some c->c≠b)/\∀p∈X.pn++pins,p.1≠b):Inv X pins σ H' a:=by
 obtain ⟨l,h,i,j,k⟩:=a;have e:k=s.os:=f;subst e;exact I.call (g':=h) (t':=j) (d':=i) u aA g d
end
abbrev XK:=Value->Option Addr->Hp->Prop
abbrev St:=List (Option V)
abbrev VK:=V->Hp->Prop
abbrev TE:=St->Hp->VK->Prop
abbrev TT:=St->Hp->(Bool->Hp->Prop)->Prop
abbrev TA:=St->Hp->(List V->Hp->Prop)->Prop
structure Ends where
 nx:St->Hp->Prop
 rt:VK
 bk:St->Hp->Prop:=fun _ _=>False
 ct:St->Hp->Prop:=fun _ _=>False
abbrev TS:=Ends->St->Hp->Prop
def EP (X:Cx)(pins:List (Addr×Obj))(σ:St)(Q:VK)(u:Value)(s':Shared):Prop:=∃v H',Inv X pins σ H' s'/\RelV v u/\Q v H'
def TP (X:Cx)(pins:List (Addr×Obj))(σ:St)(Q:Bool->Hp->Prop)(b:Bool)(s':Shared):Prop:=∃H',Inv X pins σ H' s'/\Q b H'
def AP (X:Cx)(pins:List (Addr×Obj))(σ:St)(Q:List V->Hp->Prop)(us:List Value)(s':Shared):Prop:=∃vs H',Inv X pins σ H' s'/\be vs us/\Q vs H'
def SP (X:Cx)(pins:List (Addr×Obj))(D:Ends)(f:Flow)(s':Shared):Prop:=
 match f with
 |.next=>∃σ' H',Inv X pins σ' H' s'/\D.nx σ' H'
 |.brk=>∃σ' H',Inv X pins σ' H' s'/\D.bk σ' H'
 |.cont=>∃σ' H',Inv X pins σ' H' s'/\D.ct σ' H'
 |.ret u=>∃v σ' H',Inv X pins σ' H' s'/\RelV v u/\D.rt v H'
def PE (X:Cx)(e:Expr)(t:TE):Prop:=
 ∀(pins:List (Addr×Obj)) (s:Shared) (σ:St) (H:Hp) (Q:VK),Inv X pins σ H s->t σ H Q->wpAny (model X.prog X.w) X.A (eval e X.env) (EP X pins σ Q) X.xe s
def PT (X:Cx)(e:Expr)(t:TT):Prop:=
 ∀(pins:List (Addr×Obj)) (s:Shared) (σ:St) (H:Hp) (Q:Bool->Hp->Prop),Inv X pins σ H s->t σ H Q->wpAny (model X.prog X.w) X.A (isTrue e X.env (eval e X.env)) (TP X pins σ Q) X.xe s
def PW (X:Cx)(e:Expr)(t:TT):Prop:=
 ∀(gq:Sem Value) (pins:List (Addr×Obj)) (s:Shared) (σ:St) (H:Hp) (Q:Bool->Hp->Prop),Inv X pins σ H s->t σ H Q->wpAny (model X.prog X.w) X.A (isTrue e X.env gq) (TP X pins σ Q) X.xe s
def PW.pt(h:PW X e t):PT X e t:=h _
def PA (X:Cx)(es:List Expr)(t:TA):Prop:=
 ∀(pos:Pos) (pins:List (Addr×Obj)) (s:Shared) (σ:St) (H:Hp) (Q:List V->Hp->Prop),Inv X pins σ H s->t σ H Q->wpAny (model X.prog X.w) X.A (spliced (backTo pos (starEach es X.env))) (AP X pins σ Q) X.xe s
def PS (X:Cx)(st:Stmt)(t:TS):Prop:=
 ∀(pins:List (Addr×Obj)) (s:Shared) (σ:St) (H:Hp) (D:Ends),Inv X pins σ H s->t D σ H->wpAny (model X.prog X.w) X.A (exec st X.env) (SP X pins D) X.xe s
def gJ (X:Cx)(st:List Stmt)(t:TS):Prop:=
 ∀(pins:List (Addr×Obj)) (s:Shared) (σ:St) (H:Hp) (D:Ends),Inv X pins σ H s->t D σ H->wpAny (model X.prog X.w) X.A (execs st X.env) (SP X pins D) X.xe s
def aP{c:b->Shared->Prop}(h:wpAny M A t Q E s)(d:∀a s,Q a s->c a s):wpAny M A t c E s:=NB h d λ_ _ x=>x
end L2
namespace L2
open PySem PySem.Spec PyProof.Rows
section
variable {X:Cx}
def aU (i:Nat):TE:=λσ H Q=>∃v,σ[i]?=some (some v)/\Q v H
def tC (v:V):TE:=λ_ H Q=>Q v H
def Cc{i:Nat}(o:X.N[i]?=some x)(p:qC X.env.scope x)(j:(x==("__debug__":Str))=false:=by decide)(k:(x==("__classdict__":Str))=false:=by decide):PE X (.Name x g) (aU i):=by
 intro f s q H Q I h;obtain ⟨v,e,h⟩:=h;obtain ⟨m,t,w⟩:=I.loc;obtain ⟨u,r,l⟩:=w i x v o e p;have b:EP X f q Q u s:=⟨v,H,I,r,h⟩
 rcases l with ⟨d,y⟩|⟨d,c,n,a⟩
 .exact wpAny_Name (wpAny_loadName_local I.ok.kind d t y b) j
 .rcases d with d|d
  .exact wpAny_Name (wpAny_loadName_cell I.ok.kind d n a b) j
  .exact wpAny_Name (wpAny_loadName_free I.ok.kind d n a b k) j
def aC {i j a}:PE X (.Constant (.int i) j a) (tC (.int i)):=λ_ _ _ H _ I h=>wpAny_Constant_int ⟨.int i,H,I.tok _,⟨_,rfl⟩,h⟩
def cV {b j a}:PE X (.Constant (.bool b) j a) (tC (.bl b)):=λ_ _ _ H _ I h=>Constant_bool ⟨.bl b,H,I,rfl,h⟩
def vi {j a}:PE X (.Constant .none j a) (tC .av):=λ_ _ _ H _ I h=>Constant_none ⟨.av,H,I,rfl,h⟩
def eW {x j a}:PE X (.Constant (.str x) j a) (tC (.str x)):=λ_ _ _ H _ I h=>Calls.Constant_str ⟨.str x,H,I.tok _,⟨_,rfl⟩,h⟩
def Gl (X:Cx)(x:Str):Prop:=X.env.kindOf x=some .globalImplicit
def xv{Q:ZT}(I:Inv X a c H s)(d:Gl X x)(e:X.mg x=some u)(h:Q u s)
  (f:(x==("__debug__":Str))=false:=by decide):wpAny (model X.prog X.w) X.A (eval (.Name x b) X.env) Q E s:=
 P8 I.ok.kind d (Calls.loadGlobal_global (by rw [I.ok.glob];exact I.mod.glob.keeps I.bk) e h) f
def jA{Q:ZT}(I:Inv X a c H s)(d:Gl X x)(e:X.mg x=none)(f:bootBuiltins x=some u)(h:Q u s)
  (g:x≠"__name__":=by decide) (i:(x==("__debug__":Str))=false:=by decide):wpAny (model X.prog X.w) X.A (eval (.Name x b) X.env) Q E s:=by
 obtain ⟨l,j,k⟩:=I.mod.blt;exact P8 I.ok.kind d (Calls.loadGlobal_builtin (by rw [I.ok.glob];exact I.mod.glob.keeps I.bk) e (by rw [I.ok.blt];exact j.keeps I.bk) ((k x g).trans f) h) i
def wN(b:Gl X x)(c:X.mg x=some u)(r:RelV v u)(d:(x==("__debug__":Str))=false:=by decide):PE X (.Name x a) (tC v):=
 λ_ _ _ H _ I h=>xv I b c ⟨v,H,I,r,h⟩ d
def GA(b:Gl X x)(c:X.mg x=none)(d:bootBuiltins x=some u)(r:RelV v u)(e:x≠"__name__":=by decide)(f:(x==("__debug__":Str))=false:=by decide):PE X (.Name x a) (tC v):=
 λ_ _ _ H _ I h=>jA I b c d ⟨v,H,I,r,h⟩ e f
variable {a b:Expr}{ta tb:TE}{pos:Pos}
def PC (X:Cx)(op:CmpOp)(a b:Expr)(t:TE):Prop:=
 ∀(pins:List (Addr×Obj)) (s:Shared) (σ:St) (H:Hp) (Q:VK),Inv X pins σ H s->t σ H Q->
  wpAny (model X.prog X.w) X.A (eval a X.env) (λv s₁=>wpAny (model X.prog X.w) X.A (eval b X.env) (λu s₂=>wpAny (model X.prog X.w) X.A (compareOp op v u) (EP X pins σ Q) X.xe s₂) X.xe s₁) X.xe s
def tB (t:TE):TT:=λσ H Q=>t σ H λx H1=>∃c,x=.bl c/\Q c H1
def LY(h:PC X d a b t)(e:behindInMarks d b=false:=by first|exact Kt _ Z1 Z1|rfl):PE X (.Compare a [d] [b] pos) t:=λc s f H Q I g=>wpAny_Compare1 (h c s f H Q I g) e
def jS(h:PC X f a b t)(g:behindInMarks f b=false:=by first|exact Kt _ Z1 Z1|rfl):PT X (.Compare a [f] [b] pos) (tB t):=by
 intro e s i H Q I j;refine wpAny_isTrue_Compare1 (aP (h e s i H _ I j) λv p g=>aP g λu r k=>aP k λc w ⟨x,l,m,n,o⟩=>?_) g;obtain ⟨d,rfl,q⟩:=o;cases n;exact Nz ⟨l,m,q⟩
def cG(h:PE X e t)(f:∀gq,isTrue e X.env gq=(do let v<-gq;standAt e.pos;holding [v] (truthy v)):=by intro _;rfl):PT X e (tB t):=by
 intro c s g H Q I i;refine isTrue_plain (aP (h c s g H _ I i) λv n ⟨x,j,k,l,m⟩=>?_)<|f _
 obtain ⟨d,rfl,q⟩:=m;cases l;exact Nz ⟨j,k,q⟩
variable {tA tB':TT}{cm:List Expr}
def sw (t u:TT):TT:=λσ H Q=>t σ H λc H1=>if c=true then u σ H1 Q else Q false H1
def Bv (t u:TT):TT:=λσ H Q=>t σ H λc H1=>if c=true then Q true H1 else u σ H1 Q
def CD (t:TT):TT:=λσ H Q=>t σ H λc H1=>Q (!c) H1
def jV (f:PT X a tA):PW X (.BoolOp .And [a] pos) tA:=by
 intro i d s g H Q I h;refine isTrue_and<|aP (f d s g H Q I h) λc j e=>?_
 cases c with
 |true=>exact isTrue_and_nil e
 |false=>exact e
def gY (f:PT X a tA):PW X (.BoolOp .Or [a] pos) tA:=by
 intro i d s g H Q I h;refine isTrue_or<|aP (f d s g H Q I h) λc j e=>?_
 cases c with
 |false=>exact isTrue_or_nil e
 |true=>exact e
def jT (j:PT X a tA)(k:PW X (.BoolOp .And (b::cm) pos) tB'):PW X (.BoolOp .And (a::b::cm) pos) (sw tA tB'):=by
 intro l d s e H Q I h;refine isTrue_and<|aP (j d s e H _ I h) λc m n=>?_
 obtain ⟨f,g,i⟩:=n;cases c with
 |true=>exact k l d m e f Q g i
 |false=>exact ⟨f,g,i⟩
def fC (j:PT X a tA)(k:PW X (.BoolOp .Or (b::cm) pos) tB'):PW X (.BoolOp .Or (a::b::cm) pos) (Bv tA tB'):=by
 intro l d s e H Q I h;refine isTrue_or<|aP (j d s e H _ I h) λc m n=>?_
 obtain ⟨f,g,i⟩:=n;cases c with
 |true=>exact ⟨f,g,i⟩
 |false=>exact k l d m e f Q g i
def dA (e:PT X a tA):PT X (.UnaryOp .Not a pos) (CD tA):=by
 intro d s f H Q I h;exact isTrue_not<|e d s f H (λc g=>Q (!c) g) I h
def uk (ta tb:TE):TE:=λσ H Q=>ta σ H λx H1=>∃c,x=.bl c/\if c=true then tb σ H1 Q else Q (.bl false) H1
def BN (ta tb:TE):TE:=λσ H Q=>ta σ H λx H1=>∃c,x=.bl c/\if c=true then Q (.bl true) H1 else tb σ H1 Q
def BJ (ta:TE):TE:=λσ H Q=>ta σ H λx H1=>∃c,x=.bl c/\Q (.bl (!c)) H1
def oY{d}(h:PE X a t):PE X (.BoolOp d [a] pos) t:=λc s e H Q I f=>BoolOp_one<|h c s e H Q I f
def oq (j:PE X a ta)(k:PE X (.BoolOp .And (b::cm) pos) tb):PE X (.BoolOp .And (a::b::cm) pos) (uk ta tb):=by
 intro d s f H Q I h;refine BoolOp_and<|aP (j d s f H _ I h) λv l m=>?_
 obtain ⟨x,g,i,n,e⟩:=m;obtain ⟨c,rfl,e⟩:=e;cases n;refine Nz ?_;cases c with
 |true=>exact k d l f g Q i e
 |false=>exact ⟨.bl false,g,i,rfl,e⟩
def GH (j:PE X a ta)(k:PE X (.BoolOp .Or (b::cm) pos) tb):PE X (.BoolOp .Or (a::b::cm) pos) (BN ta tb):=by
 intro d s f H Q I h;refine BoolOp_or<|aP (j d s f H _ I h) λv l m=>?_
 obtain ⟨x,g,i,n,e⟩:=m;obtain ⟨c,rfl,e⟩:=e;cases n;refine Nz ?_;cases c with
 |false=>exact k d l f g Q i e
 |true=>exact ⟨.bl true,g,i,rfl,e⟩
def zq (f:PE X a ta):PE X (.UnaryOp .Not a pos) (BJ ta):=by
 intro d s g H Q I h;refine UnaryOp_<|aP (f d s g H _ I h) λv m i=>?_
 obtain ⟨x,j,k,l,e⟩:=i;obtain ⟨c,rfl,e⟩:=e;cases l;exact not_of<|Nz ⟨.bl<|!c,j,k,rfl,e⟩
end
end L2
namespace L2
open PySem PySem.Spec PyProof.Rows
def aN (K:PySem.W.Frag)(H:Hp)(a:Addr)(xs:List V):Prop:=
 Rd H a (.lst xs)\/
  ∃(o:Obj) (its:Array Value) (n:Nat),K.lookup a=some o/\o.cls=.type "list"/\o.dict=none/\o.data=.seq its n/\its.size<=sizeLine/\be xs its.toList
def bz (K:PySem.W.Frag)(H:Hp)(a:Addr)(xs:List V):Prop:=
 Rd H a (.tup xs)\/
  ∃(o:Obj) (its:Array Value) (n:Nat),K.lookup a=some o/\o.cls=.type "tuple"/\o.data=.seq its n/\its.size<=sizeLine/\be xs its.toList
def J1:Value->Option V
 |.none=>some .av
 |.bool b=>some (.bl b)
 |.int i _=>some (.int i)
 |.str x _=>some (.str x)
 |.bytes b _=>some (.gz b)
 |.float b _=>some (.mG b)
 |.ref a=>some (.ref a)
 |.type n=>some (.ty n)
 |_=>none
def RelV.abs(r:RelV x u):J1 u=some x:=by
 cases x with
 |av=>cases r;rfl
 |bl _=>cases r;rfl
 |int _=>obtain ⟨t,rfl⟩:=r;rfl
 |str _=>obtain ⟨t,rfl⟩:=r;rfl
 |gz _=>obtain ⟨t,rfl⟩:=r;rfl
 |mG _=>obtain ⟨t,rfl⟩:=r;rfl
 |ref _=>cases r;rfl
 |ty _=>cases r;rfl
def RelV.inj(r:RelV x u)(q:RelV y u):x=y:=Mu<|r.abs.symm.trans q.abs
theorem be.inj:∀{a b:List V} {c:List Value},be a c->be b c->a=b
 |_,_,_,.nil,.nil=>rfl
 |_,_,_,.cons r t,.cons d e=>by rw [r.inj d,be.inj t e]
section
variable {X:Cx}{pins:List (Addr×Obj)}{σ:St}{H:Hp}{s:Shared}{a:Addr}{xs ys:List V}
def aN.of {K:W.Frag}(h:H a=some (.lst xs)):aN K H a xs:=.inl (.inl h)
def bz.of {K:W.Frag}(h:H a=some (.tup xs)):bz K H a xs:=.inl (.inl h)
def Inv.list (I:Inv X pins σ H s)(h:aN X.K H a xs):∃b:List Value,be xs b/\PlainL s.heap a b.toArray/\xs.length<=sizeLine:=by
 rcases h with h|⟨o,b,n,c,d,f,g,i,r⟩
 .obtain ⟨z,b,n,r,e⟩:=h.ok I.aA;exact ⟨b,r,⟨_,n,e,rfl,rfl,rfl⟩,z⟩
 .refine ⟨b.toList,r,⟨o,n,I.dL a o c,d,f,by simpa using g⟩,?_⟩
  have e:=r.length;simp only [OW] at e;omega
def Inv.tuple (I:Inv X pins σ H s)(h:bz X.K H a xs):∃b:List Value,be xs b/\IsTup s.heap a b.toArray/\xs.length<=sizeLine:=by
 rcases h with h|⟨o,b,n,c,d,f,g,r⟩
 .obtain ⟨z,b,r,p⟩:=h.ok I.aA;exact ⟨b,r,p,z⟩
 .refine ⟨b.toList,r,⟨o,I.dL a o c,d,n,by simpa using f⟩,?_⟩
  have e:=r.length;simp only [OW] at e;omega
def Inv.ub (I:Inv X pins σ H s)(h:aN X.K H a xs)(i:aN X.K H a ys):xs=ys:=by
 obtain ⟨c,r,⟨o,n,e,_,_,d⟩,_⟩:=I.list h;obtain ⟨b,j,⟨l,m,f,_,_,g⟩,_⟩:=I.list i;rw [e] at f;cases f;rw [d] at g;injection g with k _;have:c=b:=by simpa using M7 Array.toList k
 subst this;exact r.inj j
def Inv.vL (I:Inv X pins σ H s)(h:bz X.K H a xs)(i:bz X.K H a ys):xs=ys:=by
 obtain ⟨c,r,⟨o,e,_,n,d⟩,_⟩:=I.tuple h;obtain ⟨b,j,⟨l,f,_,m,g⟩,_⟩:=I.tuple i;rw [e] at f;cases f;rw [d] at g;injection g with k _;have:c=b:=by simpa using M7 Array.toList k
 subst this;exact r.inj j
end
abbrev Cx.jB (X:Cx)(E:Value->Shared->Prop):Cx:={X with xe:=E}
abbrev Cx.pF (X:Cx):Cx:=X.jB λ_ _=>False
theorem Cx.Ok.jB {X:Cx}(a:X.Ok)(E:ZT):(X.jB E).Ok:=
 ⟨a.mod,a.kind,a.glob,a.blt,a.above,a.inj,a.has,a.oz,a.hd,a.frames,a.qh,a.w9,a.bs,a.j9,a.oK,a.p8,a.hJ,a.lu⟩
def Cx.Ok.lL{X:Cx}(a:(X.jB E).Ok):X.Ok:=
 ⟨a.mod,a.kind,a.glob,a.blt,a.above,a.inj,a.has,a.oz,a.hd,a.frames,a.qh,a.w9,a.bs,a.j9,a.oK,a.p8,a.hJ,a.lu⟩
section
variable {X:Cx}{pins:List (Addr×Obj)}{σ:St}{H:Hp}{s:Shared}{E:Value->Shared->Prop}
theorem Inv.jB (I:Inv X pins σ H s)(E:ZT):Inv (X.jB E) pins σ H s:=⟨I.ok.jB E,I.os,I.bare,I.base,I.loc,I.cell,I.free,I.g9,I.pin,I.aA,I.len⟩
theorem Inv.lL (I:Inv (X.jB E) pins σ H s):Inv X pins σ H s:=⟨I.ok.lL,I.os,I.bare,I.base,I.loc,I.cell,I.free,I.g9,I.pin,I.aA,I.len⟩
theorem SP.lL{D:Ends}(h:SP (X.jB E) pins D f c):SP X pins D f c:=by
 cases f with
 |next=>obtain ⟨a,b,I,q⟩:=h;exact ⟨a,b,I.lL,q⟩
 |brk=>obtain ⟨a,b,I,q⟩:=h;exact ⟨a,b,I.lL,q⟩
 |cont=>obtain ⟨a,b,I,q⟩:=h;exact ⟨a,b,I.lL,q⟩
 |ret u=>obtain ⟨v,a,b,I,r,q⟩:=h;exact ⟨v,a,b,I.lL,r,q⟩
theorem gJ.pF{st:List Stmt}(h:gJ X.pF st t):gJ X st t:=λa s b H D I c=>
 NB (h a s b H D (I.jB _) c) (λ_ _ q=>q.lL) λ_ _ z=>False.elim z
end
section
variable {X:Cx}{st:Stmt}{cm:List Stmt}{t u:TS}{e:Expr}{te:TE}{pos:Pos}
def sV:TS:=λD σ H=>D.nx σ H
def ow (t u:TS):TS:=λD σ H=>t {D with nx:=u D} σ H
def ce:gJ X [] sV:=λ_ _ a H _ I h=>PQ ⟨a,H,I,h⟩
def az (c:PS X st t)(d:gJ X cm u):gJ X (st::cm) (ow t u):=by
 intro a s g H D I h;refine wpAny_execs_cons<|aP (c a s g H {D with nx:=u D} I h) λf i q=>?_
 cases f with
 |next=>
  obtain ⟨b,j,k,q⟩:=q;exact d a i b j D k q
 |ret v=>exact q
 |brk=>exact q
 |cont=>exact q
def ay (b:PS X st t):gJ X [st] t:=by
 intro a s c H D I h;refine wpAny_execs_cons<|aP (b a s c H D I h) λf d q=>?_
 cases f with
 |next=>exact PQ q
 |ret v=>exact q
 |brk=>exact q
 |cont=>exact q
def FJ:TS:=λD σ H=>D.bk σ H
def LL:PS X (.Break pos) FJ:=λ_ _ a H _ I h=>wpAny_Break ⟨a,H,I,h⟩
def Inv.quiet(I:Inv X a b H s):interactive X.env=false:=by simp [interactive,I.ok.kind]
def ki (te:TE):TS:=λD σ H=>te σ H λ_ H1=>D.nx σ H1
def iT (c:PE X e te)(d:swapsWith e none pos.line X.env=pure false:=by rfl):PS X (.Expr e pos) (ki te):=by
 intro a s b H D I h;exact wpAny_Expr_any (aP (c a s b H _ I h) λv k f=>by obtain ⟨x,g,i,l,j⟩:=f;exact ⟨b,g,i,j⟩) I.quiet d
def pz (te:TE):TS:=λD σ H=>te σ H D.rt
def bm (c:PE X e te):PS X (.Return (some e) pos) (pz te):=by
 intro a s b H D I h;exact wpAny_Return_some<|aP (c a s b H _ I h) λv k d=>by obtain ⟨x,f,g,i,j⟩:=d;exact ⟨x,b,f,g,i,j⟩
def np (c:TT)(t u:TS):TS:=λD σ H=>c σ H λb H1=>if b=true then t D σ H1 else u D σ H1
def bQ(n:PT X c i)(o:gJ X a t)(p:gJ X b u):PS X (.If c a b pos) (np i t u):=by
 intro f s g H D I h;refine wpAny_If<|aP (n f s g H _ I h) λd j q=>?_
 obtain ⟨k,l,m⟩:=q;cases d with
 |true=>exact o f j g k D l m
 |false=>exact p f j g k D l m
def Dr:TS:=λ_ _ _=>False
def vP:PS X st Dr:=λ_ _ _ _ _ _ h=>h.elim
end
abbrev TG:=V->St->Hp->(St->Hp->Prop)->Prop
abbrev lH:=List V->St->Hp->(St->Hp->Prop)->Prop
def PG (X:Cx)(target:Expr)(t:TG):Prop:=
 ∀(pins:List (Addr×Obj)) (s:Shared) (σ:St) (H:Hp) (v:V) (u:Value) (Q:St->Hp->Prop),Inv X pins σ H s->RelV v u->t v σ H Q->
  wpAny (model X.prog X.w) X.A (assign target X.env u) (λ_ s'=>∃σ' H',Inv X pins σ' H' s'/\Q σ' H') X.xe s
def pc (X:Cx)(ts:List Expr)(t:lH):Prop:=
 ∀(pins:List (Addr×Obj)) (s:Shared) (σ:St) (H:Hp) (vs:List V) (us:List Value) (Q:St->Hp->Prop),Inv X pins σ H s->be vs us->t vs σ H Q->
  wpAny (model X.prog X.w) X.A (assignInOrder ((assignEach ts X.env).map (·.2)) us) (λ_ s'=>∃σ' H',Inv X pins σ' H' s'/\Q σ' H') X.xe s
section
variable {X:Cx}{pos:Pos}
def cx (i:Nat):TG:=λv σ H Q=>Q (σ.set i (some v)) H
def KD{i:Nat}(b:X.N.Nodup)(c:X.N[i]?=some x)(d:Loc X.env.scope x)(e:X.fn x=true\/X.env.scope.names.lookup x=some .local:=by first|exact .inl rfl|exact .inr rfl|assumption):PG X (.Name x pos) (cx i):=by
 intro a s g H v u Q I r h;exact wpAny_assign_Name<|yJ I b c d r (λj f=>⟨_,H,f,h⟩) e
def oh:lH:=λvs σ H Q=>vs=[]/\Q σ H
def iV (t:TG)(u:lH):lH:=λvs σ H Q=>∃v r,vs=v::r/\t v σ H λσ' H'=>u r σ' H' Q
def jG:pc X [] oh:=by
 intro a s b H c d Q I r h;obtain ⟨e,h⟩:=h;subst e;cases r;exact assignInOrder_nil ⟨b,H,I,h⟩
def e9(d:PG X e t)(f:pc X b u)
  (g:(assignEach (e::b) X.env).map (·.2)=assign e X.env::(assignEach b X.env).map (·.2):=by rfl):pc X (e::b) (iV t u):=by
 intro a s i H q w Q I r h;obtain ⟨v,x,j,h⟩:=h;subst j;cases r with
 |cons r k=>
  rw [g];refine assignInOrder_cons<|aP (d a s i H _ _ _ I r h) λ_ l m=>?_
  obtain ⟨c,n,o,p⟩:=m;exact f a l c n _ _ Q o k p
def lU (K:PySem.W.Frag)(n:Nat)(t:lH):TG:=λv σ H Q=>∃a xs,v=.ref a/\bz K H a xs/\xs.length=n/\t xs σ H Q
def kP(l:X.calm=true)(h:pc X d t)
  (m:(assignEach d X.env).length=n:=by rfl) (f:(assignEach d X.env).findIdx? (·.1)=none:=by rfl):PG X (.Tuple d k pos) (lU X.K n t):=by
 intro c s i H v u Q I r g;obtain ⟨a,p,q,w,x,g⟩:=g;subst q;cases r;obtain ⟨y,j,z,E⟩:=I.tuple w;refine assign_Tuple_tuple (I.ok.hd l) z (by simp [m,<-x,j.length]) f λA B=>?_;have C:Inv X c i H {s with heap:=A}:=I.kept (t':=s.toks) λb o e=>B b o (MM<|MA e) e;exact h c _ i H p _ Q C (by simpa using j) g
def eF (te:TE)(g:TG):TS:=λD σ H=>te σ H λx H1=>g x σ H1 D.nx
def DY(f:PE X e c)(i:PG X b g)(j:swapsWithSole [b] e pos.line X.env=pure false:=by rfl)(k:swappedStores [b] e X.env=pure none:=by rfl)
  (l:(assignEach [b] X.env).map (·.2)=[assign b X.env]:=by rfl):PS X (.Assign [b] e pos) (eF c g):=by
 intro a s d H D I h;refine wpAny_Assign_stores (aP (f a s d H _ I h) λv m ⟨x,n,o,p,r⟩=>?_) j k;rw [l];exact aP (i a m d n x v _ o p r) λ_ t q=>q
def Cn{i:Nat}(d:X.N.Nodup)(f:X.N[i]?=some x)(g:Loc X.env.scope x)(j:PE X e c)(k:swapsWith e (some (.Name x a)) pos.line X.env=pure false:=by rfl)(l:X.fn x=true\/X.env.scope.names.lookup x=some .local:=by first|exact .inl rfl|exact .inr rfl|assumption):
  PS X (.Assign [.Name x a] e pos) (eF c (cx i)):=by
 intro b s m H D I h;refine wpAny_Assign_Name (aP (j b s m H _ I h) λv t ⟨y,n,o,p,q⟩=>?_) k;exact yJ o d f g p (λu r=>⟨_,n,r,q⟩) l
end
section
variable {X:Cx}{pos:Pos}
def Dj (c:TT)(tb:TS):TS:=λD σ H=>∃W:Nat->St->Hp->Prop,(∃m,W m σ H)/\∀m σ H,W m σ H->
 c σ H λb H1=>if b=true then∃N:St->Hp->Prop,(∀σ' H',N σ' H'->∃m',m'<m/\W m' σ' H')/\tb {D with nx:=N,ct:=N,bk:=D.nx} σ H1 else D.nx σ H1
def zg(y:PassesOwn (model X.prog X.w) X.A X.env X.xe)(J:PT X c u)(L:gJ X g x):PS X (.While c g [] pos) (Dj u x):=by
 intro a s M H D I h;obtain ⟨W,⟨O,Q⟩,i⟩:=h;refine wpAny_While<|codeAny_whileLoop (λn T=>∃j z,Inv X a j z T/\W n j z) ?_ O ⟨M,H,I,Q⟩
 rintro n U ⟨e,B,Y,w1⟩;refine Oc y<|aP (J a U e B _ Y<|i n e B w1) λb s2 q0=>?_;obtain ⟨C,E,l⟩:=q0;cases b with
 |true=>
  obtain ⟨N,G,l⟩:=l;rw [Mp rfl];refine Oc y<|aP (L a s2 e C _ E l) λf s3 m=>?_;cases f with
  |next=>
   obtain ⟨d,k,o,p⟩:=m;obtain ⟨q,r,t⟩:=G d k p;exact ⟨q,r,d,k,o,t⟩
  |cont=>
   obtain ⟨d,k,o,p⟩:=m;obtain ⟨q,r,t⟩:=G d k p;exact ⟨q,r,d,k,o,t⟩
  |brk=>exact m
  |ret v=>exact m
 |false=>
  rw [Mj Mm];exact PQ ⟨e,C,E,l⟩
end
structure It where
 go:Nat->Hp->Prop
 ox:Nat->Hp->V->Hp->Prop
 stop:Nat->Hp->Prop
def iZ (X:Cx)(pins:List (Addr×Obj))(H:Hp)(b:Addr):Prop:=
 H b=none/\b≠X.env.locals/\b∉X.fs/\(b∈X.ex\/X.s₀.heap.objs.size<=b)/\(∀x c,X.env.cells.lookup x=some c->c≠b)/\∀p∈X.pn++pins,p.1≠b
def Inv.ig{f:Hp}(I:Inv X a g H s)(d:s.heap.objs.size<=b)(h:f b=none):iZ X a f b:=by
 refine ⟨h,Ow<|MS I.lt d,I.D3 d,.inr<|MF I.sz d,λx c e z=>?_,λp i z=>?_⟩
 .obtain ⟨v,q⟩:=I.cell x c e;exact absurd (MS q.lt (by rw [z];exact d))<|Nr _
 .exact absurd (MS (MA (I.pin p i).1) (by rw [z];exact d))<|Nr _
structure jg (P:Program)(w:World)(K:PySem.W.Frag)(tg:Expr)(J:It)(fp:List Addr)(it:Addr)(tn:Nat->Heap->Prop):Prop where
 mem:it∈fp
 obj:∀i h,tn i h->∀b∈fp,∃o,h.get? b=some o/\∀v,o.data≠.cell v
 keep:∀i h h',tn i h->(∀b∈fp,∀o,h.get? b=some o->h'.get? b=some o)->tn i h'
 item:∀(X:Cx),X.prog=P->X.w=w->X.K=K->X.calm=true->∀(i:Nat) (pins:List (Addr×Obj)) (s:Shared) (σ:St) (H:Hp) (E:Value->Shared->Prop),Inv X pins σ H s->(∀b∈fp,iZ X pins H b)->tn i s.heap->J.go i H->
  wpAny (model P w) X.A (pyNext (.ref it)) (fun r s1=>∃u,r=some u/\
   wpAny (model P w) X.A (letOwnedTupleGo tg (.ref it) u) (fun _ s2=>∃x H',Inv X pins σ H' s2/\RelV x u/\J.ox i H x H'/\tn (i+1) s2.heap/\∀b∈fp,H' b=none) E s1) E s
 done:∀(X:Cx),X.prog=P->X.w=w->X.K=K->X.calm=true->∀(i:Nat) (pins:List (Addr×Obj)) (s:Shared) (σ:St) (H:Hp) (E:Value->Shared->Prop),Inv X pins σ H s->(∀b∈fp,iZ X pins H b)->tn i s.heap->J.stop i H->
  wpAny (model P w) X.A (pyNext (.ref it)) (fun r s1=>r=none/\Inv X pins σ H s1) E s
 self:∀(A:Around) (i:Nat) (s:Shared) (Q:Value->Shared->Prop) (E:Value->Shared->Prop),tn i s.heap->Q (.ref it) s->wpAny (model P w) A (pyIter (.ref it)) Q E s
abbrev TI:=St->Hp->(It->Hp->Prop)->Prop
def yf (X:Cx)(pins:List (Addr×Obj))(σ:St)(tg:Expr)(R:It->Hp->Prop)(itv:Value)(s2:Shared):Prop:=
 ∃(it:Addr) (fp:List Addr) (tn:Nat->Heap->Prop) (J:It) (H':Hp),itv=.ref it/\Inv X pins σ H' s2/\jg X.prog X.w X.K tg J fp it tn/\tn 0 s2.heap/\(∀b∈fp,iZ X pins H' b)/\R J H'
def PI (X:Cx)(tg iter:Expr)(wi:TI):Prop:=
 ∀(pins:List (Addr×Obj)) (s:Shared) (σ:St) (H:Hp) (R:It->Hp->Prop),Inv X pins σ H s->wi σ H R->
  wpAny (model X.prog X.w) X.A (eval iter X.env) (λv s1=>wpAny (model X.prog X.w) X.A (pyIter v) (yf X pins σ tg R) X.xe s1) X.xe s
def qu{s:Shared}{Q:Unit->Shared->Prop}(e:s.heap.get? c=some o)(f:o.cls=.type n)(g:o.data=.fields d)
  (i:["enumerate","zip","dict_itemiterator","dict_reverseitemiterator","odict_iterator","itertools.zip_longest","itertools.pairwise"].contains n=false) (a:Q () s):wpAny M A (letOwnedTupleGo b (.ref c) u) Q E s:=by
 unfold letOwnedTupleGo;cases b<;>first
  |exact Mt a
  |(cases u<;>first
    |exact Mt a
    |(refine L9 (wpAny_load e ?_)
      rw [f,g];show wpAny M A (if (["enumerate","zip","dict_itemiterator","dict_reverseitemiterator","odict_iterator","itertools.zip_longest","itertools.pairwise"].contains n&&d[0]?==some (rawInt _))=true then _ else _) Q E s;rw [Mj (by intro h;rw [i,Bool.false_and] at h;cases h)];exact Mt a))
def Ar (K:PySem.W.Frag)(a:Addr):It:=
 ⟨λi H=>∃xs x,aN K H a xs/\xs[i]?=some x,λi H x H'=>H'=H/\∀xs,aN K H a xs->xs[i]?=some x,λi H=>∃xs,aN K H a xs/\xs.length<=i⟩
def B7 (K:PySem.W.Frag)(a:Addr):It:=
 ⟨λi H=>∃xs x,bz K H a xs/\xs[i]?=some x,λi H x H'=>H'=H/\∀xs,bz K H a xs->xs[i]?=some x,λi H=>∃xs,bz K H a xs/\xs.length<=i⟩
def sQ (lo:Int)(n:Nat):It:=⟨λi _=>i<n,λi H x H'=>H'=H/\x=.int (lo+i),λi _=>n<=i⟩
def Dx {P:Program}{w:World}{K:W.Frag}{tg:Expr}(a it:Addr):jg P w K tg (Ar K a) [it] it (λi h=>h.IsListIter it a i) where
 mem:=by simp
 obj:=λi h st b hb=>by
  have e:b=it:=by simpa using hb
  subst e;obtain ⟨o,e,c,d⟩:=st;exact ⟨o,e,λv z=>by rw [d] at z;cases z⟩
 keep:=λi h h' st k=>st.at λo e=>k it Z8 o e
 item:=by
  intro X hP hw hK hc i pins s σ H E I hf st hg;subst hP hw hK;obtain ⟨xs,x,hq,hx⟩:=hg;obtain ⟨its,rv,p,hz⟩:=I.list hq;obtain ⟨u,hu,ru⟩:=rv.get hx;obtain ⟨f0,f1,f2,f3,f4,f5⟩:=hf it Z8;refine wpAny_pyNext_list_item st p.isList (x:=u) (by simpa using hu) λh' st' sb=>?_;have I1:Inv X pins σ H {s with heap:=h'}:=I.turned (t':=s.toks) (λb o hb e=>(sb.2 b hb).trans e) f0 f1 f3 f4 f5;obtain ⟨o,e,c,d⟩:=id st';exact ⟨u,rfl,qu (s:={s with heap:=h'}) e c d Z1 ⟨x,H,I1,ru,⟨rfl,λys hy=>by rw [I.ub hy hq];exact hx⟩,st',λb hb=>(hf b hb).1⟩⟩
 done:=by
  intro X hP hw hK hc i pins s σ H E I hf st hg;subst hP hw hK;obtain ⟨xs,hq,hx⟩:=hg;obtain ⟨its,rv,p,hz⟩:=I.list hq;obtain ⟨f0,f1,f2,f3,f4,f5⟩:=hf it Z8;have hl:=rv.length;exact wpAny_pyNext_list_end (I.ok.hd hc) st p.isList (by simp;omega) λh' eb=>⟨rfl,I.turned (t':=s.toks) (λb o hb e=>eb b o hb e) f0 f1 f3 f4 f5⟩
 self:=λ_ _ _ _ _ st h=>wpAny_pyIter_listiter st h
def Iw {P:Program}{w:World}{K:W.Frag}{tg:Expr}(a it:Addr):jg P w K tg (B7 K a) [it] it (λi h=>h.IsTupleIter it a i) where
 mem:=by simp
 obj:=λi h st b hb=>by
  have e:b=it:=by simpa using hb
  subst e;obtain ⟨o,e,c,d⟩:=st;exact ⟨o,e,λv z=>by rw [d] at z;cases z⟩
 keep:=λi h h' st k=>st.at λo e=>k it Z8 o e
 item:=by
  intro X hP hw hK hc i pins s σ H E I hf st hg;subst hP hw hK;obtain ⟨xs,x,hq,hx⟩:=hg;obtain ⟨its,rv,p,hz⟩:=I.tuple hq;obtain ⟨u,hu,ru⟩:=rv.get hx;obtain ⟨f0,f1,f2,f3,f4,f5⟩:=hf it Z8;refine wpAny_pyNext_tuple_item st (show s.heap.IsTuple a its.toArray from p) (x:=u) (by simpa using hu) λh' st' sb=>?_;have I1:Inv X pins σ H {s with heap:=h'}:=I.turned (t':=s.toks) (λb o hb e=>(sb.2 b hb).trans e) f0 f1 f3 f4 f5;obtain ⟨o,e,c,d⟩:=id st';exact ⟨u,rfl,qu (s:={s with heap:=h'}) e c d Z1 ⟨x,H,I1,ru,⟨rfl,λys hy=>by rw [I.vL hy hq];exact hx⟩,st',λb hb=>(hf b hb).1⟩⟩
 done:=by
  intro X hP hw hK hc i pins s σ H E I hf st hg;subst hP hw hK;obtain ⟨xs,hq,hx⟩:=hg;obtain ⟨its,rv,p,hz⟩:=I.tuple hq;obtain ⟨f0,f1,f2,f3,f4,f5⟩:=hf it Z8;have hl:=rv.length;exact wpAny_pyNext_tuple_end (I.ok.hd hc) st (show s.heap.IsTuple a its.toArray from p) (by simp;omega) λh' eb=>⟨rfl,I.turned (t':=s.toks) (λb o hb e=>eb b o hb e) f0 f1 f3 f4 f5⟩
 self:=λ_ _ _ _ _ st h=>wpAny_pyIter_tupleiter st h
def FG {P:Program}{w:World}{K:W.Frag}{tg:Expr}(it:Addr)(lo:Int)(n:Nat):jg P w K tg (sQ lo n) [it] it (λi h=>IsRangeIter h it (lo+(i:Nat)*1) ((n:Int)-(i:Nat)) 1) where
 mem:=by simp
 obj:=λi h st b hb=>by
  have e:b=it:=by simpa using hb
  subst e;exact ⟨_,st,λv z=>by
   have z':Data.fields _=Data.cell v:=z;cases z'⟩
 keep:=λi h h' st k=>k it Z8 _ st
 item:=by
  intro X hP hw hK hc i pins s σ H E I hf st hg;subst hP hw hK;obtain ⟨f0,f1,f2,f3,f4,f5⟩:=hf it Z8;have W:=Walks.range (prog:=X.prog) (w:=X.w) (I.ok.hd hc) it lo 1 n;refine W.item i s _ _ hg st λv h' tk hv st' kk=>?_;obtain ⟨t,rfl⟩:=hv;have I1:Inv X pins σ H {s with heap:=h',toks:=tk}:=I.turned (λb o hb e=>kk b o (by simpa using hb) e) f0 f1 f3 f4 f5;refine ⟨_,rfl,qu (s:={s with heap:=h',toks:=tk}) (n:="range_iterator") st' rfl rfl Z1 ⟨.int<|lo+i,H,I1,⟨t,?_⟩,⟨rfl,rfl⟩,st',λb hb=>(hf b hb).1⟩⟩;rw [Int.mul_one]
 done:=by
  intro X hP hw hK hc i pins s σ H E I hf st hg;subst hP hw hK;obtain ⟨f0,f1,f2,f3,f4,f5⟩:=hf it Z8;exact wpAny_pyNext_range_end (I.ok.hd hc) st (by have:n<=i:=hg;omega) λh' eb=>⟨rfl,I.turned (t':=s.toks) (λb o hb e=>eb b o hb e) f0 f1 f3 f4 f5⟩
 self:=λ_ _ _ _ _ st h=>wpAny_pyIter_rangeiter st h
end L2
namespace L2
open PySem PySem.Spec PyProof.Rows
section
variable {X:Cx}{tg:Expr}
def jh (K:PySem.W.Frag)(tl:TE):TI:=λσ H R=>tl σ H λx H1=>∃a,x=.ref a/\(∃xs,aN K H1 a xs)/\R (Ar K a) H1
def nh (K:PySem.W.Frag)(tl:TE):TI:=λσ H R=>tl σ H λx H1=>∃a,x=.ref a/\(∃xs,bz K H1 a xs)/\R (B7 K a) H1
def En(i:PE X l g):PI X tg l (jh X.K g):=by
 intro c s j H R I h;refine aP (i c s j H _ I h) λv d k=>?_;obtain ⟨x,m,f,n,r⟩:=k;obtain ⟨a,e,⟨y,t⟩,q⟩:=r;subst e;cases n;obtain ⟨u,z,p,A⟩:=f.list t;refine NE p.isList ?_;refine ⟨d.heap.objs.size,[d.heap.objs.size],_,_,m,rfl,f.kept (t':=d.toks) λb o e=>Mf _ e,Dx a _,⟨_,Mz _ rfl,rfl,rfl⟩,λb w=>?_,q⟩;have e:b=d.heap.objs.size:=by simpa using w
 subst e;exact f.ig (Mh _)<|f.aA.fresh<|Mh _
def GC(j:PE X l i):PI X tg l (nh X.K i):=by
 intro c s k H R I h;refine aP (j c s k H _ I h) λv d m=>?_;obtain ⟨x,n,f,r,t⟩:=m;obtain ⟨a,e,⟨y,u⟩,q⟩:=t;subst e;cases r;obtain ⟨g,z,p,A⟩:=f.tuple u;refine Pa (show d.heap.IsTuple a g.toArray from p) ?_;refine ⟨d.heap.objs.size,[d.heap.objs.size],_,_,n,rfl,f.kept (t':=d.toks) λb o e=>Mf _ e,Iw a _,⟨_,Mz _ rfl,rfl,rfl⟩,λb w=>?_,q⟩;have e:b=d.heap.objs.size:=by simpa using w
 subst e;exact f.ig (Mh _)<|f.aA.fresh<|Mh _
def C0{R:It->Hp->Prop}{lo:Int}(I:Inv X c d H s)(h:-(2^62)<=lo)(i:lo<2^62)(j:-(2^62)<=a)(k:a<2^62)
  (q:R (sQ lo (a-lo).toNat) H):wpAny (model X.prog X.w) X.A (pyIter (.ref s.heap.objs.size)) (yf X c d tg R) E {s with heap:=s.heap.push {cls:=.type "range",data:=.fields #[.int lo t,.int a u,.int 1 v]},toks:=f}:=by
 refine wpAny_pyIter_range (IsRange.new ..) (small_one h i j k) ?_;have g:Inv X c d H {s with heap:=s.heap.push {cls:=.type "range",data:=.fields #[.int lo t,.int a u,.int 1 v]},toks:=f}:=I.kept λb o e=>Mf _ e;refine ⟨(s.heap.push {cls:=.type "range",data:=.fields #[.int lo t,.int a u,.int 1 v]}).objs.size,[(s.heap.push {cls:=.type "range",data:=.fields #[.int lo t,.int a u,.int 1 v]}).objs.size],_,_,H,rfl,
  g.kept (t':=f) λb o e=>Mf _ e,FG _ lo (a-lo).toNat,?_,λb l=>?_,q⟩
 .have m:lo+((0:Nat):Int)*1=lo:=by simp
  have n:(((a-lo).toNat:Nat):Int)-((0:Nat):Int)=Builtin.Range.rangeSize lo a 1:=by rw [rangeSize_one];split<;>omega
  show IsRangeIter _ _ (lo+((0:Nat):Int)*1) ((((a-lo).toNat:Nat):Int)-((0:Nat):Int)) 1;rw [m,n];exact Mz _ rfl
 .have e:b=(s.heap.push {cls:=.type "range",data:=.fields #[.int lo t,.int a u,.int 1 v]}).objs.size:=by simpa using l
  subst e;exact g.ig (Mh _)<|g.aA.fresh<|Mh _
def wY (ta:TA):TI:=λσ H R=>ta σ H λvs H1=>∃j:Int,vs=[.int j]/\-(2^62)<=j/\j<2^62/\R (sQ 0 j.toNat) H1
def w8 (ta:TA):TI:=λσ H R=>ta σ H λvs H1=>∃i j:Int,vs=[.int i,.int j]/\(-(2^62)<=i/\i<2^62/\-(2^62)<=j/\j<2^62)/\R (sQ i (j-i).toNat) H1
def lF{a:Expr}(g:Gl X "range")(i:X.mg "range"=none)(k:PA X [a] f)(l:starEach [a] X.env=[(false,eval a X.env)]:=by rfl):PI X tg (.Call (.Name "range" p) [a] [] b) (wY f):=by
 intro c s m H R I h;refine Call_<|jA I g i boot_range<|No (aP (k b c s m H _ I h) λw x ⟨y,z,n,o,d⟩=>?_) l rfl
 obtain ⟨j,e,d,u,q⟩:=d;subst e;cases o with
 |cons r v=>
  cases v;obtain ⟨t,rfl⟩:=r;exact call_range_1<|C0 n Z4 Z4 d u (by simpa using q)
def IQ(m:Gl X "range")(n:X.mg "range"=none)(o:PA X [a,b] l)(u:starEach [a,b] X.env=[(false,eval a X.env),(false,eval b X.env)]:=by rfl)(d:starEach [b] X.env=[(false,eval b X.env)]:=by rfl):
  PI X tg (.Call (.Name "range" p) [a,b] [] c) (w8 l):=by
 intro f s v H R I h;refine Call_<|jA I m n boot_range<|No (aP (o c f s v H _ I h) λC E ⟨G,J,w,x,g⟩=>?_) (by rw [u,d]) (by rw [d];rfl)
 obtain ⟨i,j,e,⟨g,y,z,A⟩,q⟩:=g;subst e;cases x with
 |cons r k=>
  cases k with
  |cons B k=>
   cases k;obtain ⟨t,rfl⟩:=r;obtain ⟨L,rfl⟩:=B;exact call_range_2<|C0 w g y z A q
def lw (wi:TI)(g:TG)(tb:TS):TS:=λD σ H=>wi σ H λJ H1=>∃W:Nat->Nat->St->Hp->Prop,(∃m,W 0 m σ H1)/\∀i m σ H,W i m σ H->
 (J.stop i H/\D.nx σ H)\/(J.go i H/\∃N:St->Hp->Prop,(∀σ' H',N σ' H'->∃m',m'<m/\W (i+1) m' σ' H')/\∀x H',J.ox i H x H'->g x σ H' λσ2 H2=>tb {D with nx:=N,ct:=N,bk:=D.nx} σ2 H2)
def qF (fp:List Addr)(h:Heap):List (Addr×Obj):=fp.filterMap λb=>(h.get? b).map λo=>(b,o)
def sY{a:ZX}{h:Heap}(c:b∈a)(e:h.get? b=some o):(b,o)∈qF a h:=Pb.mpr ⟨b,c,by rw [e];rfl⟩
def Gx(c:p∈qF a h):p.1∈a/\h.get? p.1=some p.2:=by
 obtain ⟨b,d,e⟩:=Pb.mp c;cases q:h.get? b with
 |none=>rw [q] at e;cases e
 |some o=>
  rw [q] at e;have f:(b,o)=p:=Mu e;subst f;exact ⟨d,q⟩
def Inv.pinned{c:ZX}(I:Inv X a f H s)(i:∀b∈c,iZ X a H b)(j:∀b∈c,∃o,s.heap.get? b=some o/\∀v,o.data≠.cell v):Inv X (a++qF c s.heap) f H s:=
 I.Ct λp k=>(MB.mp k).elim (λz=>I.pin p<|Ml _ z) λz=>by
  obtain ⟨g,e⟩:=Gx z;obtain ⟨l,m,n,_⟩:=i p.1 g;obtain ⟨o,h,d⟩:=j p.1 g;rw [e] at h;cases h;exact ⟨e,l,m,n,d⟩
def Inv.tU(I:Inv X (a++c) b H s):Inv X a b H s:=I.Ct λp d=>I.pin p<|Ml _<|Ms _ d
def cI{iter:Expr}(E:PassesOwn (model X.prog X.w) X.A X.env X.xe)(hc:X.calm=true)(hi:PI X tg iter wi)(hg:PG X tg g)(j:gJ X z tb)
  (hs:∀x,foldedSetIterable iter X.env x=pure x:=by intro _;rfl):PS X (.For tg iter z [] ac) (lw wi g tb):=by
 intro a s σ H D I h;refine wpAny_For (aP (hi a s σ H _ I h) λv s1 h1=>aP h1 λao s2 h2=>?_) hs;obtain ⟨it,G,tn,J,H2,e,I2,T,af,f2,W,⟨m0,w0⟩,L⟩:=h2;subst e;have k:∀{y:Hp},(∀b∈G,y b=none)->∀b∈G,iZ X a y b:=λhn b j=>⟨hn b j,(f2 b j).2⟩
 refine codeAny_forLoop_any (λn s'=>∃i l y,Inv X a l y s'/\tn i s'.heap/\(∀b∈G,y b=none)/\W i n l y) ?_ m0 ⟨0,σ,H2,I2,af,λb j=>(f2 b j).1,w0⟩;rintro n s3 ⟨i,p,Y,I3,M,O,w3⟩;rcases L i n p Y w3 with ⟨Q,qn⟩|⟨go,N,hN,step⟩
 .refine Oc E (aP (T.done X rfl rfl rfl hc i a s3 p Y X.xe I3 (k O) M Q) λr s4 q0=>?_)
  obtain ⟨hr,I4⟩:=q0;subst hr;exact PQ ⟨p,Y,I4,qn⟩
 .refine Oc E (aP (T.item X rfl rfl rfl hc i a s3 p Y X.xe I3 (k O) M go) λr s4 q1=>?_)
  obtain ⟨u,hr,h4⟩:=q1;subst hr;refine Oc E<|aP h4 λ_ s5 q2=>?_;obtain ⟨x,H5,I5,r5,y5,C,aj⟩:=q2;have am:=I5.pinned (k aj)<|T.obj _ _ C;refine Oc E<|aP (hg _ s5 p H5 x u _ am r5<|step x H5 y5) λ_ s6 q3=>?_;obtain ⟨an,H6,I6,q6⟩:=q3;refine Oc E<|aP (j _ s6 an H6 _ I6 q6) λf s7 B=>?_;have again:∀{c:St} {q:Hp},Inv X (a++qF G s5.heap) c q s7->N c q->∃m,m<n/\∃i l y,Inv X a l y s7/\tn i s7.heap/\(∀b∈G,y b=none)/\W i m l y:=λ{c q} t U=>by
   obtain ⟨m',hm,w7⟩:=hN c q U;refine ⟨m',hm,i+1,c,q,t.tU,T.keep _ _ _ C λb j o e=>(t.pin (b,o)<|Ml _<|Ml _<|sY j e).1,λb j=>?_,w7⟩;obtain ⟨o,e,d⟩:=T.obj _ _ C b j;exact (t.pin (b,o)<|Ml _<|Ml _<|sY j e).2.1
  cases f with
  |next=>obtain ⟨c,q,t,U⟩:=B;exact again t U
  |cont=>obtain ⟨c,q,t,U⟩:=B;exact again t U
  |brk=>obtain ⟨c,q,t,B⟩:=B;exact ⟨c,q,t.tU,B⟩
  |ret v=>obtain ⟨x7,c,q,t,r7,B⟩:=B;exact ⟨x7,c,q,t.tU,r7,B⟩
end
end L2
namespace L2
open PySem PySem.Spec PyProof.Rows
abbrev R2:=V->V->Hp->VK->Prop
def cO (X:Cx)(f:Value->Value->Sem Value)(r:R2):Prop:=
 ∀(pins:List (Addr×Obj)) (s:Shared) (σ:St) (H:Hp) (x y:V) (v u:Value) (Q:VK),Inv X pins σ H s->RelV x v->RelV y u->r x y H Q->
  wpAny (model X.prog X.w) X.A (f v u) (EP X pins σ Q) X.xe s
def vO (X:Cx)(f:Value->Sem Value)(r:V->Hp->VK->Prop):Prop:=
 ∀(pins:List (Addr×Obj)) (s:Shared) (σ:St) (H:Hp) (x:V) (v:Value) (Q:VK),Inv X pins σ H s->RelV x v->r x H Q->
  wpAny (model X.prog X.w) X.A (f v) (EP X pins σ Q) X.xe s
def iw (X:Cx)(f:Value)(r:List V->Hp->VK->Prop):Prop:=
 ∀(pins:List (Addr×Obj)) (s:Shared) (σ:St) (H:Hp) (xs:List V) (us:List Value) (Q:VK),Inv X pins σ H s->be xs us->r xs H Q->
  wpAny (model X.prog X.w) X.A (call f us) (EP X pins σ Q) X.xe s
def JE (X:Cx)(r:V->Hp->(Bool->Hp->Prop)->Prop):Prop:=
 ∀(pins:List (Addr×Obj)) (s:Shared) (σ:St) (H:Hp) (x:V) (v:Value) (Q:Bool->Hp->Prop),Inv X pins σ H s->RelV x v->r x H Q->
  wpAny (model X.prog X.w) X.A (truthy v) (TP X pins σ Q) X.xe s
def bJ (r:R2)(ta tb:TE):TE:=λσ H Q=>ta σ H λx H1=>tb σ H1 λy H2=>r x y H2 Q
def Cg (r:V->Hp->VK->Prop)(ta:TE):TE:=λσ H Q=>ta σ H λx H1=>r x H1 Q
def rI (C:Int->Int->Prop)(g:Int->Int->V):R2:=λx y H Q=>∃i j,x=.int i/\y=.int j/\C i j/\Q (g i j) H
def gu (g:Int->Int->V):R2:=λx y H Q=>∃i j,x=.int i/\y=.int j/\Q (g i j) H
def rU (g:Int->V):V->Hp->VK->Prop:=λx H Q=>∃i,x=.int i/\Q (g i) H
section
variable {X:Cx}{a b c:Expr}{ta tb tc:TE}{pos:Pos}
def wF(m:PE X a ta)(n:PE X b tb){R:V->V->Hp->Prop}(I:Inv X d e H s)
  (h:ta e H λx l=>tb e l λy g=>R x y g)  {f:Value->Value->Sem Value}
  (o:∀v u k x y g,Inv X d e g k->RelV x v->RelV y u->R x y g->wpAny (model X.prog X.w) X.A (f v u) Q X.xe k):
  wpAny (model X.prog X.w) X.A (eval a X.env) (λv i=>wpAny (model X.prog X.w) X.A (eval b X.env) (λu j=>wpAny (model X.prog X.w) X.A (f v u) Q X.xe j) X.xe i) X.xe s:=by
 refine aP (m d s e H _ I h) λv p q=>?_;obtain ⟨x,l,r,t,z⟩:=q;refine aP (n d p e l _ r z) λu k B=>?_;obtain ⟨y,g,C,E,G⟩:=B;exact o v u k x y g C t E G
def cQ(f:cO X (binaryOp e) r)(g:PE X a ta)(i:PE X b tb):PE X (.BinOp a e b pos) (bJ r ta tb):=by
 intro d s j H Q I h;exact wpAny_BinOp<|wF g i I h λv u k x y l m n o q=>f d k j l x y v u Q m n o q
def kl(g:vO X (unaryOp e) r)(i:PE X a ta):PE X (.UnaryOp e a pos) (Cg r ta):=by
 intro d s f H Q I h;exact UnaryOp_<|aP (i d s f H _ I h) λv j k=>by obtain ⟨x,l,m,n,o⟩:=k;exact g d j f l x v Q m n o
def ri {f:Value->Value->Sem Value}{C:Int->Int->Prop}{g:Int->Int->Int}
  (rule:∀(i j:Int) (t u:Tok) (s:Shared) (Q:ZT) (E:ZT),C i j->Q (.int (g i j) s.toks) {s with toks:=s.toks+1}->wpAny (model X.prog X.w) X.A (f (.int i t) (.int j u)) Q E s):
  cO X f (rI C λi j=>.int (g i j)):=by
 intro d s n H x y v u Q I e k h;obtain ⟨i,j,rfl,rfl,l,q⟩:=h;obtain ⟨t,rfl⟩:=e;obtain ⟨m,rfl⟩:=k;exact rule i j t m s _ _ l ⟨.int<|g i j,H,I.tok _,⟨_,rfl⟩,q⟩
def zn {f:Value->Value->Sem Value}{g:Int->Int->Int}
  (rule:∀(i j:Int) (t u:Tok) (s:Shared) (Q:ZT) (E:ZT),Q (.int (g i j) s.toks) {s with toks:=s.toks+1}->wpAny (model X.prog X.w) X.A (f (.int i t) (.int j u)) Q E s):
  cO X f (gu λi j=>.int (g i j)):=by
 intro d s m H x y v u Q I e k h;obtain ⟨i,j,rfl,rfl,q⟩:=h;obtain ⟨t,rfl⟩:=e;obtain ⟨l,rfl⟩:=k;exact rule i j t l s _ _ ⟨.int<|g i j,H,I.tok _,⟨_,rfl⟩,q⟩
def xC {f:Value->Value->Sem Value}{g:Int->Int->Bool}
  (rule:∀(i j:Int) (t u:Tok) (s:Shared) (Q:ZT) (E:ZT),Q (.bool (g i j)) s->wpAny (model X.prog X.w) X.A (f (.int i t) (.int j u)) Q E s):
  cO X f (gu λi j=>.bl (g i j)):=by
 intro d s m H x y v u Q I e k h;obtain ⟨i,j,rfl,rfl,q⟩:=h;obtain ⟨t,rfl⟩:=e;obtain ⟨l,rfl⟩:=k;exact rule i j t l s _ _ ⟨.bl<|g i j,H,I,rfl,q⟩
def vW (i j:Int):Prop:=0<j/\j<1073741824
def xt (i j:Int):Prop:=0<=j/\j<=1000000/\i.natAbs<2^64
def m6 (i j:Int):Prop:=(-(2^64)<i/\i<2^64)\/(-(2^64)<j/\j<2^64)
def m6.ok(h:m6 i j):IntMulOk i j:=by
 rcases h with ⟨d,e⟩|⟨d,e⟩
 .exact .of_left<|intBits_le_64 d e
 .exact .of_right<|intBits_le_64 d e
def jq:cO X (binaryOp .Add) (gu λi j=>.int (i+j)):=zn λ_ _ _ _ _ _ _ q=>add_int q
def JW:cO X (binaryOp .Sub) (gu λi j=>.int (i-j)):=zn λ_ _ _ _ _ _ _ q=>sub_int q
def yF:cO X (binaryOp .Mult) (rI m6 λi j=>.int (i*j)):=ri λ_ _ _ _ _ _ _ d q=>mul_int q d.ok
def ic:cO X (binaryOp .FloorDiv) (rI vW λi j=>.int (i/j)):=ri λi j _ _ _ _ _ d q=>by
 have e:(0:Int)<j:=d.1;have f:j<1073741824:=d.2;exact floordiv_int Z4 (by rw [Int.fdiv_eq_ediv_of_nonneg i Z4];exact q) (.inl<|PyProof.noPylong_small Z4)
def eV:cO X (binaryOp .Mod) (rI (λ_ j=>0<j) λi j=>.int (i%j)):=ri λi j _ _ _ _ _ d q=>by
 have e:(0:Int)<j:=d;exact mod_int' Z4 (by rw [Int.fmod_eq_emod_of_nonneg i Z4];exact q)
def Dy:cO X (binaryOp .Pow) (rI xt λi j=>.int (i^j.toNat)):=ri λ_ _ _ _ _ _ _ d q=>pow_int_small d.1 d.2.1 d.2.2 q
def KI {f:Value->Sem Value}{g:Int->Int}
  (rule:∀(i:Int) (t:Tok) (s:Shared) (Q:ZT) (E:ZT),Q (.int (g i) s.toks) {s with toks:=s.toks+1}->wpAny (model X.prog X.w) X.A (f (.int i t)) Q E s):
  vO X f (rU λi=>.int (g i)):=by
 intro d s j H x v Q I e h;obtain ⟨i,rfl,q⟩:=h;obtain ⟨t,rfl⟩:=e;exact rule i t s _ _ ⟨.int<|g i,H,I.tok _,⟨_,rfl⟩,q⟩
def kC:vO X (unaryOp .USub) (rU λi=>.int (-i)):=KI λ_ _ _ _ _ q=>neg_int q
end
def wK:V->V->Bool
 |.av,.av=>true|.av,.int _=>true|.int _,.av=>true|.av,.bl _=>true|.bl _,.av=>true|.av,.str _=>true|.str _,.av=>true
 |.int _,.int _=>true|.bl _,.bl _=>true|.str _,.str _=>true|.gz _,.gz _=>true
 |.int _,.str _=>true|.str _,.int _=>true|.bl _,.str _=>true|.str _,.bl _=>true
 |_,_=>false
def sy:R2:=λx y H Q=>wK x y=true/\Q (.bl (decide (x=y))) H
def mq:R2:=λx y H Q=>wK x y=true/\Q (.bl (!decide (x=y))) H
def Bw:decide (V.int i=V.int j)=(i==j):=by
 rw [MZ];simp
def zh:decide (V.bl i=V.bl j)=(i==j):=by
 rw [MZ];simp
def A6:decide (V.str i=V.str j)=(i==j):=by
 rw [MZ];simp
def zT:decide (V.gz i=V.gz j)=(i.toList==j.toList):=by
 rw [MZ];cases i;cases j;simp
section
variable {X:Cx}{a b c:Expr}{ta tb tc:TE}{pos:Pos}
def df{Q:VK}(I:Inv X d f H s)(q:Q (.bl k) H)(e:k=g):EP X d f Q (.bool g) s:=by
 subst e;exact ⟨.bl k,H,I,rfl,q⟩
def Bm:cO X (compareOp .Eq) sy:=by
 intro k s l H x y v u Q I g d h;obtain ⟨f,q⟩:=h;cases x with
 |av=>
  cases g;cases y with
  |av=>cases d;exact PySem.EqNone.eq_none_none<|df I q Z8
  |bl j=>cases d;exact PySem.EqNone.eq_none_bool<|df I q Z8
  |int j=>obtain ⟨e,rfl⟩:=d;exact PySem.EqNone.eq_none_int<|df I q Z8
  |str j=>obtain ⟨e,rfl⟩:=d;exact PySem.EqNone.eq_none_str<|df I q Z8
  |_=>exact absurd (show false=true from f) Mm
 |bl i=>
  cases g;cases y with
  |av=>cases d;exact PySem.EqNone.eq_bool_none<|df I q Z8
  |bl j=>cases d;exact eq_bool<|df I q zh
  |str j=>obtain ⟨e,rfl⟩:=d;exact PySem.EqMixed.eq_bool_str<|df I q Z8
  |_=>exact absurd (show false=true from f) Mm
 |int i=>
  obtain ⟨t,rfl⟩:=g;cases y with
  |av=>cases d;exact PySem.EqNone.eq_int_none<|df I q Z8
  |int j=>obtain ⟨e,rfl⟩:=d;exact eq_int<|df I q Bw
  |str j=>obtain ⟨e,rfl⟩:=d;exact PySem.EqMixed.eq_int_str<|df I q Z8
  |_=>exact absurd (show false=true from f) Mm
 |str i=>
  obtain ⟨t,rfl⟩:=g;cases y with
  |av=>cases d;exact PySem.EqNone.eq_str_none<|df I q Z8
  |bl j=>cases d;exact PySem.EqMixed.eq_str_bool<|df I q Z8
  |int j=>obtain ⟨e,rfl⟩:=d;exact PySem.EqMixed.eq_str_int<|df I q Z8
  |str j=>obtain ⟨e,rfl⟩:=d;exact eq_str<|df I q A6
  |_=>exact absurd (show false=true from f) Mm
 |gz i=>
  obtain ⟨t,rfl⟩:=g;cases y with
  |gz j=>obtain ⟨e,rfl⟩:=d;exact W.eq_bytes<|df I q zT
  |_=>exact absurd (show false=true from f) Mm
 |_=>cases y<;>exact absurd (show false=true from f) Mm
def BX:cO X (compareOp .NotEq) mq:=by
 intro k s l H x y v u Q I g d h;obtain ⟨f,q⟩:=h;cases x with
 |av=>
  cases g;cases y with
  |av=>cases d;exact PySem.EqNone.ne_none_none<|df I q Z8
  |bl j=>cases d;exact PySem.EqNone.ne_none_bool<|df I q Z8
  |int j=>obtain ⟨e,rfl⟩:=d;exact PySem.EqNone.ne_none_int<|df I q Z8
  |str j=>obtain ⟨e,rfl⟩:=d;exact PySem.EqNone.ne_none_str<|df I q Z8
  |_=>exact absurd (show false=true from f) Mm
 |bl i=>
  cases g;cases y with
  |av=>cases d;exact PySem.EqNone.ne_bool_none<|df I q Z8
  |bl j=>cases d;exact ne_bool<|df I q<|M7 not zh
  |str j=>obtain ⟨e,rfl⟩:=d;exact PySem.EqMixed.ne_bool_str<|df I q Z8
  |_=>exact absurd (show false=true from f) Mm
 |int i=>
  obtain ⟨t,rfl⟩:=g;cases y with
  |av=>cases d;exact PySem.EqNone.ne_int_none<|df I q Z8
  |int j=>obtain ⟨e,rfl⟩:=d;exact ne_int<|df I q<|M7 not Bw
  |str j=>obtain ⟨e,rfl⟩:=d;exact PySem.EqMixed.ne_int_str<|df I q Z8
  |_=>exact absurd (show false=true from f) Mm
 |str i=>
  obtain ⟨t,rfl⟩:=g;cases y with
  |av=>cases d;exact PySem.EqNone.ne_str_none<|df I q Z8
  |bl j=>cases d;exact PySem.EqMixed.ne_str_bool<|df I q Z8
  |int j=>obtain ⟨e,rfl⟩:=d;exact PySem.EqMixed.ne_str_int<|df I q Z8
  |str j=>obtain ⟨e,rfl⟩:=d;exact ne_str<|df I q<|M7 not A6
  |_=>exact absurd (show false=true from f) Mm
 |gz i=>
  obtain ⟨t,rfl⟩:=g;cases y with
  |gz j=>obtain ⟨e,rfl⟩:=d;exact W.ne_bytes<|df I q<|M7 not zT
  |_=>exact absurd (show false=true from f) Mm
 |_=>cases y<;>exact absurd (show false=true from f) Mm
def ka:cO X (compareOp .Lt) (gu λi j=>.bl (decide (i<j))):=xC λ_ _ _ _ _ _ _ q=>lt_int q
def sL:cO X (compareOp .Gt) (gu λi j=>.bl (decide (j<i))):=xC λ_ _ _ _ _ _ _ q=>gt_int q
def tN:cO X (compareOp .GtE) (gu λi j=>.bl (decide (j<=i))):=xC λ_ _ _ _ _ _ _ q=>ge_int q
def FD:cO X (compareOp .IsNot) (λx y H Q=>y=.av/\Q (.bl (!decide (x=.av))) H):=by
 intro d s g H x y v u Q I e f h;obtain ⟨rfl,q⟩:=h;cases f;refine isnot_none_gen<|df I q ?_
 cases x<;>first
  |(cases e;rfl)
  |(obtain ⟨t,rfl⟩:=e;rfl)
def cO.or(h:cO X f r)(k:cO X f e):cO X f (λx y H Q=>r x y H Q\/e x y H Q):=by
 intro d s g H x y v u Q I i j q;rcases q with q|q
 .exact h d s g H x y v u Q I i j q
 .exact k d s g H x y v u Q I i j q
def yX(b:Expr)(h:d≠.In:=by decide)(e:d≠.NotIn:=by decide):behindInMarks d b=false:=by
 have f:(d==CmpOp.In)=false:=by cases d<;>first|rfl|exact absurd rfl h
 have g:(d==CmpOp.NotIn)=false:=by cases d<;>first|rfl|exact absurd rfl e
 cases b<;>simp [behindInMarks,f,g]
def DC(f:cO X (compareOp e) r)(g:PE X a ta)(i:PE X b tb)(j:behindInMarks e b=false):PE X (.Compare a [e] [b] pos) (bJ r ta tb):=by
 intro d s k H Q I h;exact wpAny_Compare1 (wF g i I h λv u l x y m n o p q=>f d l k m x y v u Q n o p q) j
def oO (t:TE):TT:=λσ H Q=>t σ H λx H'=>∃k,x=.bl k/\Q k H'
theorem Ei {op:CmpOp}{r:R2}(ho:cO X (compareOp op) r)(ha:PE X a ta)(hb:PE X b tb)(hm:behindInMarks op b=false):PT X (.Compare a [op] [b] pos) (oO (bJ r ta tb)):=by
 intro pins s σ H Q I h;refine wpAny_isTrue_Compare1 (aP (ha pins s σ H _ I h) fun v s1 ⟨x,H1,I1,r1,q1⟩=>aP (hb pins s1 σ H1 _ I1 q1) fun u s2 ⟨y,H2,I2,r2,q2⟩=>
  aP (ho pins s2 σ H2 x y v u _ I2 r1 r2 q2) fun c s3 ⟨z,H3,I3,r3,k,e,q3⟩=>?_) hm
 subst e;cases r3;exact wpAny_truthy_bool ⟨H3,I3,q3⟩
def sW (K:PySem.W.Frag)(x:V)(H:Hp)(k:Bool):Prop:=
 match x with
 |.av=>k=false
 |.bl b=>k=b
 |.int i=>k=(i !=0)
 |.str y=>y.length<=sizeLine/\k=((y.length:Int) !=0)
 |.gz y=>y.size<=sizeLine/\k=((y.size:Int) !=0)
 |.ref p=>(∃xs,aN K H p xs/\k= !xs.isEmpty)\/(∃xs,bz K H p xs/\k= !xs.isEmpty)\/∃kvs,H p=some (.dK kvs)/\k= !kvs.isEmpty
 |_=>False
def Eh(r:KV d f):(!f.isEmpty)= !d.isEmpty:=by
 cases r<;>rfl
def Cd(r:be e d):(!d.toArray.isEmpty)= !e.isEmpty:=by
 cases r<;>simp
def pQ:(sizeLine:Nat)<2^63:=by rw [Qj];decide
def Jg:JE X (λx H Q=>∃k,sW X.K x H k/\Q k H):=by
 intro A s G H x v Q I l h;obtain ⟨k,e,q⟩:=h;have J:=pQ;have L:sizeLine=16777216:=Qj;cases x with
 |av=>
  cases l;have d:k=false:=e;subst d;exact truthy_none ⟨H,I,q⟩
 |bl b=>
  cases l;have d:k=b:=e;subst d;exact Nz ⟨H,I,q⟩
 |int i=>
  obtain ⟨t,rfl⟩:=l;have d:k=(i !=0):=e;subst d;exact PySem.P.truthy_int ⟨H,I,q⟩
 |str y=>
  obtain ⟨t,rfl⟩:=l;obtain ⟨C,d⟩:y.length<=sizeLine/\k=((y.length:Int) !=0):=e;subst d;exact PySem.P.truthy_str Z4 ⟨H,I.tok _,q⟩
 |gz y=>
  obtain ⟨t,rfl⟩:=l;obtain ⟨C,d⟩:y.size<=sizeLine/\k=((y.size:Int) !=0):=e;subst d;exact W.truthy_bytes Z4 ⟨H,I.tok _,q⟩
 |ref p=>
  cases l;have d:(∃j,aN X.K H p j/\k= !j.isEmpty)\/(∃j,bz X.K H p j/\k= !j.isEmpty)\/∃f,H p=some (.dK f)/\k= !f.isEmpty:=e;rcases d with ⟨j,n,d⟩|⟨j,n,d⟩|⟨f,n,d⟩
  .subst d;obtain ⟨u,r,z,B⟩:=I.list n;have g:=r.length;exact wpAny_truthy_list z.isList (by simp only [Mw];omega) ⟨H,I.tok _,by rw [Cd r];exact q⟩
  .subst d;obtain ⟨u,r,z,B⟩:=I.tuple n;have g:=r.length;exact truthy_tuple z (by simp only [Mw];omega) ⟨H,I.tok _,by rw [Cd r];exact q⟩
  .subst d;obtain ⟨B,E,o,r,m⟩:f.length<=sizeLine/\(p==sysModules)=false/\∃o,KV f o/\s.heap.DictOf (dw X.prog X.w) p o:=I.aA p _ n;have g:f.length=o.length:=N3 r;exact wpAny_truthy_dict E m Z4 ⟨H,I.tok _,by rw [Eh r];exact q⟩
 |_=>exact (show False from e).elim
def uJ (g:PE X a ta)(i:∀gq,isTrue a X.env gq=(do let v<-gq;standAt a.pos;holding [v] (truthy v))):
  PT X a (λe H Q=>ta e H λx f=>∃k,sW X.K x f k/\Q k f):=by
 intro d s e H Q I h;exact isTrue_plain (aP (g d s e H _ I h) λv j l=>by obtain ⟨x,m,n,o,p⟩:=l;exact Jg d j e m x v Q n o p)<|i _
def Qk{x:V}(r:be [x] d):∃u,d=[u]/\RelV x u:=by
 cases r with
 |cons e f=>cases f;exact ⟨_,rfl,e⟩
def vals2(r:be [x,y] d):∃u e,d=[u,e]/\RelV x u/\RelV y e:=by
 cases r with
 |cons f g=>
  cases g with
  |cons h i=>cases i;exact ⟨_,_,rfl,f,h⟩
end
end L2
namespace L2
open PySem PySem.Spec PyProof.Rows
structure mD (h:Heap)(x dx C:Addr)(mA:Str->Option Value):Prop where
 obj:h.get? x=some (PySem.W.instObj C dx)
 ns:h.Ns1 dx mA
 ne:dx≠x
def Eo{h:Heap}(n:h.Ns1 c d):∃f,h.get? c=some f/\∀name,W.lookIn name f=some (d name):=by
 obtain ⟨o,g,r,i,j,k,_,l⟩:=n;refine ⟨o,i,λname=>?_⟩;have e:=l name;unfold nsFind findBy at e;rw [<-Array.find?_toList] at e;unfold W.lookIn;rw [j];dsimp only;split
 .rename_i y q
  rw [q] at e;exact M7 some e
 .rename_i q
  rw [q] at e;have a:g.toList.any (·.refKey)=false:=by
   rw [OI];intro y m;obtain ⟨z,t,b⟩:=k y<|Array.mem_toList_iff.mp m
   simp [DictEntry.refKey,b]
  have p:¬g.toList.any (·.refKey)=true:=by rw [a];exact Mm
  rw [Mj p];exact M7 some e
def mD.look(I:mD h x b C c):∃a,W.InstAt h x (W.instObj C b) C (some a)/\∀name,W.lookIn name a=some (c name):=
 let ⟨a,d,e⟩:=Eo I.ns
 ⟨a,⟨I.obj,rfl,rfl,d⟩,e⟩
section
variable {prog:Program}{w:World}{A:Around}{E:Value->Shared->Prop}{s:Shared}{K:PySem.W.Frag}{x dx C f:Addr}{mA:Str->Option Value}{name:Str}{v:Value}
def Ig{Q:ZT}(X:K.In s.heap)(I:mD s.heap x dx C mA)(c:W.plainGet K C name=true)(d:W.hasDictIn K C=true)
  (e:W.findIn K (.ref C) name=some none) (g:mA name=some v) (b:W.handedIn v=true) (h:Q v {s with toks:=s.toks+1}):
  wpAny (model prog w) A (getAttr (.ref x) name a) Q E s:=by
 obtain ⟨j,J,i⟩:=I.look;exact W.get_value X J (P0 c).1 (W.findObj_own d e rfl (by rw [i,g])) b h
def Go{Q:Value×List Value->Shared->Prop}(X:K.In s.heap)(I:mD s.heap x dx C mA)(a:W.plainGet K C name=true)
  (c:W.findIn K (.ref C) name=some (some (.ref f))) (d:W.isFn K (.ref f)=true) (e:mA name=none) (h:Q (.ref f,[.ref x]) s):
  wpAny (model prog w) A (getMethod (.ref x) name b) Q E s:=by
 obtain ⟨g,J,i⟩:=I.look;exact W.method_fn X J (P0 a).1 (P0 a).2 c (Pc.mp d) (by show (W.lookIn name g).map (·.isSome)=some false;rw [i,e];rfl) h
def JK{Q:Unit->Shared->Prop}(X:K.In s.heap)(I:mD s.heap x dx C mA)
  (m:W.findIn K (.ref C) "__setattr__"=some (some (.builtin "object.__setattr__"))) (n:W.plainOver K C=true) (o:W.takerIn K C name=some none) (p:W.hasDictIn K C=true)
  (q:PySem.Within mA l) (t:l.length<=sizeLine)
  (h:∀e,mD e x dx C (λy=>if y=name then some v else mA y)->Heap.SameBut dx s.heap e->Q () {s with heap:=e,toks:=s.toks+2}):
  wpAny (model prog w) A (setAttr (.ref x) name v) Q E s:=by
 obtain ⟨H,J,L⟩:=I.look;refine W.set_plain X J m<|W.osa_open (s:={s with toks:=s.toks+1}) (r:=none) X J n o λb=>?_;obtain ⟨M,u,g⟩:=W.any_some p;have z:s.heap.get? x=some ⟨.ref C,some dx,.plain, #[]⟩:=I.obj;refine L9<|Mt<|L9<|L9<|wpAny_loadPart z<|L9<|W.Looks.here (s:={s with toks:=s.toks+1}) (W.looks_clsIn X u) ?_;rw [g];refine Mt (a:=some dx)<|L9<|Mt<|L9 ?_;refine wpAny_nsSet1 (s:={s with toks:=s.toks+1}) I.ns λe c d=>?_;obtain ⟨N,B,G,i,j,k⟩:=c.count<|PySem.Within.cons name v q;refine L9<|wpAny_lookBehind i (by rw [j];exact pastItsLine_dict<|MF k (by rw [MN];omega)) ?_;exact Mt<|h _ ⟨(d.2 _<|M6 I.ne).trans I.obj,c,I.ne⟩ d
def ET(X:K.In s.heap)(e:W.makesIn K C=true)
  (i:W.findIn K (.ref C) "__init__"=some (some (.ref f))) (j:W.typeIn K (.ref f)=some (.type "function"))
  (h:codeAny (model prog w) (A.under (.builtin "type.__call__" ⟨.ref C::b,c⟩)) (.call (.ref f) ⟨.ref (s.heap.objs.size+1)::b,c⟩) (W.InitBack (s.heap.objs.size+1) R)
   {s with heap:=(s.heap.push W.emptyDict).push (W.instObj C s.heap.objs.size)}):
  codeAny (model prog w) A (.call (.ref C) ⟨b,c⟩) R s:=by
 obtain ⟨k,g,d,t,os⟩:=s;exact W.make_core (W.makes_of X e) (W.looks_findIn X i) (λa=>W.bind_fn X a j) (.inl rfl) h
end
def c8 (f:Str)(v:V):List (Str×V)->List (Str×V)
 |[]=>[(f,v)]
 |(g,x)::r=>if g=f then (g,v)::r else (g,x)::c8 f v r
theorem Bc (f g:Str)(v:V):∀c:List (Str×V),(c8 f v c).lookup g=if g=f then some v else c.lookup g
 |[]=>by
  show List.lookup g [(f,v)]=_;by_cases h:g=f
  .have a:(g==f)=true:=Pc.mpr h;simp only [List.lookup,a,Mp h]
  .have a:(g==f)=false:=Nl.mpr h;simp only [List.lookup,a,Mj h]
 |(k,x)::r=>by
  have d:=Bc f g v r;rw [show c8 f v ((k,x)::r)=(if k=f then (k,v)::r else (k,x)::c8 f v r) from rfl];by_cases b:k=f
  .rw [Mp b]
   by_cases h:g=k
   .have a:(g==k)=true:=Pc.mpr h;simp only [List.lookup,a,Mp<|h.trans b]
   .have a:(g==k)=false:=Nl.mpr h;simp only [List.lookup,a,Mj λe:g=f=>h<|e.trans b.symm]
  .rw [Mj b]
   by_cases h:g=k
   .have a:(g==k)=true:=Pc.mpr h;simp only [List.lookup,a,Mj λe:g=f=>b<|h.symm.trans e]
   .have a:(g==k)=false:=Nl.mpr h;simp only [List.lookup,a];exact d
theorem vy (f:Str)(v:V):∀a:List (Str×V),f∈(c8 f v a).map (·.1)/\∀g,g∈a.map (·.1)->g∈(c8 f v a).map (·.1)
 |[]=>⟨by simp [c8],λg h=>by simp at h⟩
 |(k,x)::r=>by
  obtain ⟨c,d⟩:=vy f v r;rw [show c8 f v ((k,x)::r)=(if k=f then (k,v)::r else (k,x)::c8 f v r) from rfl];by_cases b:k=f
  .rw [Mp b]
   subst b;exact ⟨by simp,λg h=>by simpa using h⟩
  .rw [Mj b]
   refine ⟨?_,λg h=>?_⟩
   .rw [MW]
    exact L8 _ c
   .rw [MW] at h⊢
    rcases Mn.mp h with e|e
    .exact Mn.mpr (.inl e)
    .exact L8 _<|d g e
theorem Be (f:Str)(v:V):∀a:List (Str×V),(c8 f v a).length<=a.length+1
 |[]=>by simp [c8]
 |(k,x)::r=>by
  have c:=Be f v r;rw [show c8 f v ((k,x)::r)=(if k=f then (k,v)::r else (k,x)::c8 f v r) from rfl];by_cases b:k=f
  .rw [Mp b,MN,MN];omega
  .rw [Mj b,MN,MN];omega
def ee.some_of(r:ee (some v) o):∃u,o=some u/\RelV v u:=by
 cases o with
 |none=>exact (show False from r).elim
 |some u=>exact ⟨u,rfl,r⟩
def ee.none_of(r:ee none o):o=none:=by
 cases o with
 |none=>rfl
 |some u=>exact (show False from r).elim
def IG(r:RelV v u):W.handedIn u=true:=by
 cases v with
 |av=>cases (show u=Value.none from r);rfl
 |bl b=>cases (show u=Value.bool b from r);rfl
 |int i=>obtain ⟨t,e⟩:=(show∃t,u=Value.int i t from r);cases e;rfl
 |str x=>obtain ⟨t,e⟩:=(show∃t,u=Value.str x t from r);cases e;rfl
 |gz b=>obtain ⟨t,e⟩:=(show∃t,u=Value.bytes b t from r);cases e;rfl
 |mG b=>obtain ⟨t,e⟩:=(show∃t,u=Value.float b t from r);cases e;rfl
 |ref a=>cases (show u=Value.ref a from r);rfl
 |ty n=>cases (show u=Value.type n from r);rfl
section
variable {P:Program}{w:World}{H H':Hp}{h h':Heap}{a C dx:Addr}{fs fs':List (Str×V)}
def r9 (aA:cZ P w H h)(e:H a=some (.ins C dx fs)):∃b,mD h a dx C b/\(∀f,ee (fs.lookup f) (b f))/\PySem.Within b (fs.map (·.1))/\fs.length<=1000/\H dx=some (.own a):=by
 obtain ⟨d,z,c,g,b,n,r,q⟩:=(show ca P w H h a (.ins C dx fs) from aA a _ e)
 exact ⟨b,⟨g,n,c⟩,r,q,z,d⟩
end
structure dq (K:PySem.W.Frag)(C:Addr):Prop where
 pg:PySem.W.plainGet K C Str.empty=true
 hd:PySem.W.hasDictIn K C=true
 po:PySem.W.plainOver K C=true
 sa:PySem.W.findIn K (.ref C) "__setattr__"=some (some (.builtin "object.__setattr__"))
def dq.get{K:W.Frag}(c:dq K C)(f:Str):W.plainGet K C f=true:=c.pg
def bS (K:PySem.W.Frag)(C:Addr)(f:Str):Prop:=PySem.W.findIn K (.ref C) f=some none
def bS.G5{K:W.Frag}(n:bS K C f):W.takerIn K C f=some none:=by
 unfold W.takerIn;rw [show W.findIn K (.ref C) f=some none from n];rfl
structure dh (K:PySem.W.Frag)(C:Addr)(m:Str)(f:Addr):Prop where
 at_:PySem.W.findIn K (.ref C) m=some (some (.ref f))
 fn:PySem.W.isFn K (.ref f)=true
 kp:PySem.W.keepIn K (.ref f)=true
section
variable {X:Cx}{pins:List (Addr×Obj)}{σ:St}{H:Hp}{s:Shared}{a C dx:Addr}{fs:List (Str×V)}{f:Str}{v:V}{A:Around}{E:Value->Shared->Prop}
def Dm{Q:ZT}(I:Inv X pins σ H s)(e:H a=some (.ins C dx fs))(c:dq X.K C)(n:bS X.K C f)(l:fs.lookup f=some v)
  (h:∀u d,Inv X pins σ H d->RelV v u->Q u d):wpAny (model X.prog X.w) A (getAttr (.ref a) f b) Q E s:=by
 obtain ⟨i,O,r,_,_,_⟩:=r9 I.aA e;obtain ⟨u,j,g⟩:=ee.some_of (v:=v) (o:=i f) (by rw [<-l];exact r f);exact Ig I.dL O (c.get f) c.hd n j (IG g)<|h u _ (I.tok _) g
def BQ{Q:Value×List Value->Shared->Prop}(I:Inv X pins σ H s)(e:H a=some (.ins C dx fs))(c:dq X.K C)(k:dh X.K C m g)(l:fs.lookup m=none)
  (h:Q (.ref g,[.ref a]) s):wpAny (model X.prog X.w) A (getMethod (.ref a) m b) Q E s:=by
 obtain ⟨d,O,r,_,_,_⟩:=r9 I.aA e;have i:d m=none:=ee.none_of (by rw [<-l];exact r m);exact Go I.dL O (c.get m) k.at_ k.fn i h
def FZ{Q:Unit->Shared->Prop}(I:Inv X pins σ H s)(e:H a=some (.ins C dx fs))(c:dq X.K C)(n:bS X.K C f)(N:fs.length<1000)(m:RelV y u)
  (h:∀i,Inv X pins σ (upd H a (.ins C dx (c8 f y fs))) i->Q () i):wpAny (model X.prog X.w) A (setAttr (.ref a) f u) Q E s:=by
 obtain ⟨j,O,r,k,_,l⟩:=r9 I.aA e;have p:(fs.map (·.1)).length<=sizeLine:=by rw [Md,Qj];omega
 refine JK I.dL O c.sa c.po n.G5 c.hd k p λt d B=>h _ ?_;have G:∃o,t.get? dx=some o:=let ⟨o,_,_,J,_⟩:=d.ns;⟨o,J⟩;refine I.write (x:=a) (e:=dx) (by rw [e];exact True.intro) (.inr l) (λb q L z=>(B.2 b L).trans z) G ?_;refine ⟨by rw [aD O.ne];exact l,?_,O.ne,d.obj,_,d.ns,λg=>?_,λg M=>?_⟩
 .have:=Be f y fs;omega
 .show ee ((c8 f y fs).lookup g) (if g=f then some u else j g);rw [Bc];by_cases q:g=f
  .rw [Mp q,Mp q];exact m
  .rw [Mj q,Mj q];exact r g
 .by_cases q:g=f
  .rw [q];exact (vy f y fs).1
  .refine (vy f y fs).2 g (k g λz=>M ?_)
   show (if g=f then some u else j g)=none;rw [Mj q];exact z
def Inv.made (I:Inv X pins σ H s):Inv X pins σ (upd (upd H s.heap.objs.size (.own (s.heap.objs.size+1))) (s.heap.objs.size+1) (.ins C s.heap.objs.size []))
  {s with heap:=(s.heap.push W.emptyDict).push (W.instObj C s.heap.objs.size)}:=by
 have c:(s.heap.push W.emptyDict).get? s.heap.objs.size=some W.emptyDict:=Mz s.heap rfl;have g:((s.heap.push W.emptyDict).push<|W.instObj C s.heap.objs.size).get? (s.heap.objs.size+1)=some (W.instObj C s.heap.objs.size):=by
  have:=Mz (s.heap.push W.emptyDict) (o:=W.instObj C s.heap.objs.size) rfl;rwa [Nq] at this
 have h:(s.heap.push W.emptyDict).Ns s.heap.objs.size (λ_=>none):=⟨W.emptyDict, #[],_,c,rfl,(λe i=>absurd i Z8),λ_=>rfl⟩
 have j:=I.laid (a:=s.heap.objs.size) (o:=.own<|s.heap.objs.size+1) (h':=s.heap.push W.emptyDict) (t':=s.toks) (λb u q=>Mf _ q) (Mh _) ⟨_,c⟩;refine j.laid (a:=s.heap.objs.size+1) (o:=.ins C s.heap.objs.size []) (t':=s.toks) (λb u q=>Mf _ q) (QB<|Nq _ _) ?_;have d:s.heap.objs.size≠s.heap.objs.size+1:=MM<|NC _
 refine ⟨by rw [aD d,aO],MI _,d,g,λ_=>none,(Heap.Ns1.of_empty h).at λo q=>Mf _ q,λ_=>True.intro,λy k=>absurd rfl k⟩
def FI{f:Str}{s:Shared}(i:attributeBase e f c (eval e c)=eval e c)
  (h:wpAny (model b w) A (eval e c) (λo d=>wpAny (model b w) A (getAttr o f true) Q E d) E s):wpAny (model b w) A (eval (.Attribute e f g) c) Q E s:=
 Attribute_any_ h (by rw [arm_eval_Attribute,i])
end
def lA (K:PySem.W.Frag)(ta:TE)(f:Str):TE:=λσ H Q=>ta σ H λx H1=>∃a C dx fs v,x=.ref a/\H1 a=some (.ins C dx fs)/\dq K C/\bS K C f/\fs.lookup f=some v/\Q v H1
def Bu (K:PySem.W.Frag)(ta tv:TE)(f:Str):TS:=λD σ H=>tv σ H λy H1=>ta σ H1 λx H2=>∃a C dx fs,x=.ref a/\H2 a=some (.ins C dx fs)/\dq K C/\bS K C f/\fs.length<1000/\
 D.nx σ (upd H2 a (.ins C dx (c8 f y fs)))
section
variable {X:Cx}{o e value:Expr}{f:Str}{pos pos' tpos:Pos}{ta tv:TE}
def dR (d:PE X e ta)(g:attributeBase e f X.env (eval e X.env)=eval e X.env):PE X (.Attribute e f pos) (lA X.K ta f):=by
 intro b s i H Q I h;refine FI g<|aP (d b s i H _ I h) λu z j=>?_
 obtain ⟨x,k,m,p,a,C,A,B,v,r,t,c,n,l,q⟩:=j;subst r;obtain rfl:u=Value.ref a:=p;exact Dm m t c n l λE G w y=>⟨v,k,w,y,q⟩
def fB (g:PE X o ta)(i:PE X value tv)(j:swapsWith value (some (.Attribute o f pos')) pos.line X.env=pure false):PS X (.Assign [.Attribute o f pos'] value pos) (Bu X.K ta tv f):=by
 intro b s d H D I h;refine plainObj_wpAny_Assign_Attribute (aP (i b s d H _ I h) λu k ⟨y,m,p,r,q⟩=>aP (g b k d m _ p q) λt G ⟨x,J,v,w,a,C,L,M,z,A,c,n,l,B⟩=>?_) j;subst z;obtain rfl:t=Value.ref a:=w;exact FZ v A c n l r λN E=>⟨d,_,E,B⟩
end
section
variable {X:Cx}{pins:List (Addr×Obj)}{σ:St}{H:Hp}{s:Shared}{A:Around}{E:Value->Shared->Prop}{Q:Value->Shared->Prop}{c:Value}{b:Bool}
inductive gH (K:PySem.W.Frag)(H:Hp):V->Value->Prop where
 |av:gH K H .av (.type "NoneType")
 |bl (x:Bool):gH K H (.bl x) (.type "bool")
 |int (i:Int):gH K H (.int i) (.type "int")
 |str (x:Str):gH K H (.str x) (.type "str")
 |mG (x:UInt64):gH K H (.mG x) (.type "float")
 |lst {a:Addr} {xs:List V} (e:H a=some (.lst xs)):gH K H (.ref a) (.type "list")
 |cW {a:Addr} {o:Obj} {xs:List V} (e:H a=some (.cW o (.lst xs))):gH K H (.ref a) (.type "list")
 |tup {a:Addr} {xs:List V} (e:H a=some (.tup xs)):gH K H (.ref a) (.type "tuple")
 |dK {a:Addr} {kvs:List (aM×V)} (e:H a=some (.dK kvs)):gH K H (.ref a) (.type "dict")
 |dT {a:Addr} {kvs:List (List aM×V)} (e:H a=some (.dT kvs)):gH K H (.ref a) (.type "dict")
 |ins {a C dx:Addr} {fs:List (Str×V)} (e:H a=some (.ins C dx fs)) (cl:dq K C) (ha:PySem.W.findIn K (.ref C) "__class__"=some (some (.builtin "object.__class__")))
   (hn:PySem.W.specialIn K (.builtin "object.__class__") "__get__"=some (some (.builtin "getset_descriptor.__get__"))) (htk:PySem.W.takesIn K (.builtin "object.__class__")=some true)
   (hm:PySem.W.mroIn K C (.type "object")=some true):gH K H (.ref a) (.ref C)
def J4(I:Inv X pins σ H s)(d:RelV x u)(v:gH X.K H x t)(e:W.kitOne X.K t c=some b)(h:∀B,Q (.bool b) {s with toks:=B}):
  wpAny (model X.prog X.w) A (call (.builtin "isinstance") [u,c]) Q E s:=by
 cases v with
 |av=>cases (show u=Value.none from d);exact Nt W.kitx_none I.dL True.intro e (λz=>nomatch z) h
 |bl y=>cases (show u=Value.bool y from d);exact Nt W.kitx_bool I.dL True.intro e (λz=>nomatch z) h
 |int i=>obtain ⟨t,q⟩:=(show∃t,u=Value.int i t from d);cases q;exact Nt W.kitx_int I.dL True.intro e (λz=>nomatch z) h
 |str y=>obtain ⟨t,q⟩:=(show∃t,u=Value.str y t from d);cases q;exact Nt W.kitx_str I.dL True.intro e (λz=>nomatch z) h
 |mG y=>obtain ⟨t,q⟩:=(show∃t,u=Value.float y t from d);cases q;exact Nt W.kitx_float I.dL True.intro e (λz=>nomatch z) h
 |@lst a k f=>
  cases (show u=Value.ref a from d);obtain ⟨_,_,n,_,g⟩:=(show ca X.prog X.w H s.heap a (.lst k) from I.aA a _ f)
  exact Nt W.kitx_list I.dL ⟨_,g,rfl⟩ e (λz=>nomatch z) h
 |@cW a G k f=>
  cases (show u=Value.ref a from d);obtain ⟨_,_,_,n,_,g⟩:=(show ca X.prog X.w H s.heap a (.cW G (.lst k)) from I.aA a _ f)
  exact Nt W.kitx_list I.dL ⟨_,g,rfl⟩ e (λz=>nomatch z) h
 |@tup a k f=>
  cases (show u=Value.ref a from d);obtain ⟨_,_,_,p⟩:=(show ca X.prog X.w H s.heap a (.tup k) from I.aA a _ f)
  obtain ⟨o,g,l,_⟩:=p;exact Nt W.kitx_tuple I.dL ⟨o,g,l⟩ e (λz=>nomatch z) h
 |@dK a j f=>
  cases (show u=Value.ref a from d);obtain ⟨_,_,Y,_,p⟩:=(show ca X.prog X.w H s.heap a (.dK j) from I.aA a _ f)
  obtain ⟨o,L,M,g,l,_⟩:=p;exact Nt W.kitx_dict I.dL ⟨o,g,l.1⟩ e (λz=>nomatch z) h
 |@dT a j f=>
  cases (show u=Value.ref a from d);obtain ⟨_,_,k,_,o,L,M,g,l,_⟩:=(show ca X.prog X.w H s.heap a (.dT j) from I.aA a _ f)
  exact Nt W.kitx_dict I.dL ⟨o,g,l.1⟩ e (λz=>nomatch z) h
 |@ins a C dx fs f r N T m U=>
  cases (show u=Value.ref a from d);obtain ⟨mA,O,_⟩:=r9 I.aA f;obtain ⟨od,J,_⟩:=O.look;exact Nt (W.kitx_own (r.get _) r.hd N T m U) I.dL J e (λz=>nomatch z) h
end
end L2
namespace L2
open PySem PySem.Spec PyProof.Rows
structure cT (k:Nat)(A:Around):Prop where
 hd:A.handled=none
 dp:A.depth+3*k+5<recursionLimit
 un:A.units+16*k+200<cLine
def cT.mono(r:cT k A)(h:j<=k):cT j A:=⟨r.hd,by have:=r.dp;omega,by have:=r.un;omega⟩
theorem cT.deeper(r:cT (k+1) A)(a:Env):cT k (A.deeper a):=
 ⟨r.hd,by have:=r.dp;show A.depth+1+3*k+5<_;omega,by have:=r.un;show A.units+3+16*k+200<_;omega⟩
def II{A:Around}:(A.under (.builtin "type.__call__" ⟨.ref C::a,b⟩)).depth=A.depth+1:=by
 first|rfl|simp [Around.under,Code.weight,Code.isCreation,Code.isGuard,Code.isCaller,Code.frames,Code.isFrame,guardIds]
def Er{A:Around}:(A.under (.builtin "type.__call__" ⟨.ref C::a,b⟩)).units=A.units+1:=by
 first|rfl|simp [Around.under,Code.cUnits,Code.frames,Code.isFrame]
def cT.make(r:cT (k+1) A)(C:Addr)(a:List Value)(b:List (Str×Value)):cT k (A.under (.builtin "type.__call__" ⟨.ref C::a,b⟩)):=
 ⟨r.hd,by have:=r.dp;rw [II];omega,by have:=r.un;rw [Er];omega⟩
theorem cT.depth(r:cT k A):A.depth<recursionLimit:=by have:=r.dp;omega
theorem cT.units(r:cT k A):A.units+64<cLine:=by have:=r.un;omega
def bL:TA:=λ_ H Q=>Q [] H
def bu (ta:TE)(tr:TA):TA:=λσ H Q=>ta σ H λx H1=>tr σ H1 λxs H2=>Q (x::xs) H2
section
variable {X:Cx}{e:Expr}{es:List Expr}{te:TE}{t:TA}{pos:Pos}
def ap:PA X [] bL:=λ_ _ _ _ H Q I h=>Ql ⟨[],H,I,.nil,h⟩
def ai (d:PE X e te)(f:PA X es t)(g:starEach (e::es) X.env=(false,eval e X.env)::starEach es X.env:=by rfl):PA X (e::es) (bu te t):=by
 intro b a s c H Q I h;rw [g];show wpAny _ _ (spliced ((false,eval e X.env)::backTo b (starEach es X.env))) _ _ s;refine Ox<|aP (d a s c H _ I h) λu i j=>?_
 obtain ⟨x,k,l,m,n⟩:=j;exact aP (f b a i c k _ l n) λy z o=>by obtain ⟨p,q,r,v,w⟩:=o;exact ⟨x::p,q,r,.cons m v,w⟩
def tQ (t:TA):TE:=λσ H Q=>t σ H λxs H1=>xs.length<=sizeLine/\∀p,H1 p=none->Q (.ref p) (upd H1 p (.tup xs))
def kn (t:TA):TE:=λσ H Q=>t σ H λxs H1=>xs.length<=sizeLine/\∀p,H1 p=none->Q (.ref p) (upd H1 p (.lst xs))
def ef {g}(h:PA X es t):PE X (.Tuple es g pos) (tQ t):=by
 intro a s i H Q I j;refine wpAny_Tuple_spliced<|aP (h pos a s i H _ I j) λk c ⟨l,d,f,r,z,q⟩=>⟨by rw [<-r.length];exact z,?_⟩
 have m:d c.heap.objs.size=none:=f.aA.fresh<|Mh _
 refine ⟨.ref c.heap.objs.size,upd d c.heap.objs.size (.tup l),f.laid (t':=c.toks) (λb u e=>Mf _ e) (Mh _) ?_,rfl,q _ m⟩;exact ⟨z,k,r,⟨_,Mz _ rfl,rfl,_,rfl⟩⟩
def cY (h:PA X es t):PE X (.List es pos) (kn t):=by
 intro a s g H Q I i;refine wpAny_List_spliced<|aP (h pos a s g H _ I i) λj c ⟨k,d,f,r,z,q⟩=>⟨by rw [<-r.length];exact z,?_⟩
 have l:d c.heap.objs.size=none:=f.aA.fresh<|Mh _
 refine ⟨.ref c.heap.objs.size,upd d c.heap.objs.size (.lst k),f.laid (t':=c.toks) (λb u e=>Mf _ e) (Mh _) ?_,rfl,q _ l⟩;exact ⟨z,j,0,r,Mz _ rfl⟩
end
abbrev Sp:=List V->Hp->VK->XK->Prop
abbrev ir:=List Env->Hp->Shared->XK->Value->Shared->Prop
structure ni (P:Program)(w:World)(K:PySem.W.Frag)(mg:Str->Option Value)(base:Heap)(A:Around)(outer:List Env)(s:Shared)(H:Hp):Prop where
 frames:A.frames=some outer
 mod:Mod K mg base
 bs:∀b o,base.get? b=some o->s.heap.get? b=some o/\H b=none
 j9:base.objs.size<=s.heap.objs.size
 hJ:s.heap.FunFrames base outer
 lu:∀b∈iG outer,H b=none
 aA:cZ P w H s.heap
 bare:AllBare s.gens
def CE (outer:List Env)(P:Program)(w:World)(H:Hp)(s:Shared)(Q:VK)(u:Value)(s':Shared):Prop:=
 ∃v H',s'.os=s.os/\AllBare s'.gens/\Un (iG outer) [] H H' s.heap s'.heap/\cZ P w H' s'.heap/\RelV v u/\Q v H'
def CR (CX:ir)(outer:List Env)(P:Program)(w:World)(H:Hp)(s:Shared)(Q:VK)(E:XK)(r:Result)(s':Shared):Prop:=
 match r with
 |.ok (.ret u)=>CE outer P w H s Q u s'
 |.ok _=>False
 |.error e=>CX outer H s E e s'
structure bq (P:Program)(w:World)(K:PySem.W.Frag)(mg:Str->Option Value)(base:Heap)(CX:ir)(k:Nat)(f:Addr)(fd:FuncData)(ps:List Str)(sp:Sp):Prop where
 len:∀vs H Q E,sp vs H Q E->vs.length=ps.length
 run:∀(A:Around) (outer:List Env) (s:Shared) (H:Hp) (args:Args) (us:List Value) (vs:List V) (Q:VK) (E:XK),cT k A->ni P w K mg base A outer s H->BindsTo s fd args (ps.zip us)->be vs us->sp vs H Q E->
  codeAny (model P w) A (.call (.ref f) args) (CR CX outer P w H s Q E) s
theorem bq.mono{K:W.Frag}{base:Heap}(F:bq P w K c base d j f e g i)(h:j<=k):
  bq P w K c base d k f e g i:=⟨F.len,λA a s H b l m Q E n=>F.run A a s H b l m Q E<|n.mono h⟩
def ni.make{K:W.Frag}{base:Heap}(e:ni P w K b base A a s H)(C:Addr)(c:List Value)(d:List (Str×Value)):
  ni P w K b base (A.under (.builtin "type.__call__" ⟨.ref C::c,d⟩)) a s H:=⟨by first|exact e.frames|(simpa [Around.under,Code.envs,Code.isFrame,pushEnvs] using e.frames),e.mod,e.bs,e.j9,e.hJ,e.lu,e.aA,e.bare⟩
section
variable {X:Cx}{pins:List (Addr×Obj)}{σ:St}{H:Hp}{s s':Shared}
def Inv.Dd (I:Inv X pins σ H s):ni X.prog X.w X.K X.mg X.base X.A X.stack s H:=
 ⟨I.ok.frames,I.ok.mod,I.bs,MF I.ok.j9 I.sz,I.stack,I.B9,I.aA,I.bare⟩
def Inv.after(I:Inv X pins σ H s)(h:CE X.stack X.prog X.w H s Q u s'):EP X pins σ Q u s':=by
 obtain ⟨v,e,os,a,f,aA,r,q⟩:=h;obtain ⟨i,g,d,t,c⟩:=s';obtain rfl:c=s.os:=os;exact ⟨v,e,I.call (h':=i) (g':=g) (d':=d) (t':=t) (ch:=[]) f aA a λb z=>absurd z Z8,r,q⟩
end
def iY (sp:Sp)(dvs:List V)(E:XK)(t:TA):TE:=λσ H Q=>t σ H λvs H1=>sp (vs++dvs) H1 Q E
def lR (C:Addr)(m:Str)(sp:Sp)(dvs:List V)(E:XK)(ta:TE)(t:TA):TE:=λσ H Q=>ta σ H λx H1=>∃a dx fs,x=.ref a/\H1 a=some (.ins C dx fs)/\fs.lookup m=none/\
 t σ H1 λvs H2=>sp (x::(vs++dvs)) H2 Q E
def t9 (C:Addr)(sp:Sp)(dvs:List V)(E:XK)(t:TA):TE:=λσ H Q=>t σ H λvs H1=>∀x dx,H1 x=none->H1 dx=none->dx≠x->
 sp (.ref x::(vs++dvs)) (upd (upd H1 dx (.own x)) x (.ins C dx [])) (λv H2=>v=.av/\Q (.ref x) H2) E
def Binds (K:PySem.W.Frag)(fd:FuncData)(ps:List Str)(ds:List Value):Prop:=
 ∀(s:Shared) (us:List Value),K.In s.heap->(us++ds).length=ps.length->BindsTo s fd ⟨us,[]⟩ (ps.zip (us++ds))
def Binds.all{K:W.Frag}{b:ZY}(h:∀a:List Value,a.length=b.length->bindArgs c ⟨a,[]⟩=pure (b.zip a)):Binds K c b []:=λs a _ d=>by
 rw [MP] at d⊢;exact .of_eq<|h a d
def mF (CX:ir)(X:Cx)(E:XK):Prop:=∀(pins:List (Addr×Obj)) (σ:St) (H:Hp) (s:Shared) (e:Value) (s':Shared),Inv X pins σ H s->CX X.stack H s E e s'->X.xe e s'
section
variable {X:Cx}{CX:ir}{k:Nat}{f C:Addr}{fd:FuncData}{ps:List Str}{sp:Sp}{dvs:List V}{ds:List Value}{E:XK}{x m:Str}{p pos apos:Pos}{e o:Expr}{es:List Expr}{ta:TE}{t:TA}
def uO(F:bq X.prog X.w X.K X.mg X.base CX k f fd ps sp)(g:cT k X.A)(i:Binds X.K fd ps ds)(j:be dvs ds)(l:mF CX X E)
  (I:Inv X a c H s) (r:be vs us) (h:sp (vs++dvs) H Q E):wpAny (model X.prog X.w) X.A (call (.ref f) us) (EP X a c Q) X.xe s:=by
 have d:be (vs++dvs) (us++ds):=r.append j;have n:(us++ds).length=ps.length:=by rw [<-d.length];exact F.len _ _ _ _ h
 refine wpAny_call<|Pk (F.run X.A X.stack s H ⟨us,[]⟩ (us++ds) (vs++dvs) Q E g I.Dd (i s us I.dL n) d h) λr q b=>?_
 cases r with
 |error e=>exact l a c H s e q I b
 |ok v=>
  cases v with
  |ret u=>exact I.after b
  |next=>exact False.elim b
  |brk=>exact False.elim b
  |cont=>exact False.elim b
def G8 (F:bq X.prog X.w X.K X.mg X.base CX k f fd ps sp)(g:cT k X.A)(i:Gl X x)(j:X.mg x=some (.ref f))(l:W.keepIn X.K (.ref f)=true)(n:Binds X.K fd ps ds)(u:be dvs ds)(v:mF CX X E)
  (y:PA X (e::es) t) (b:(x==("__debug__":Str))=false:=by decide) (z:starEach (e::es) X.env=(false,eval e X.env)::starEach es X.env:=by rfl) (c:(backTo pos (starEach es X.env)).any (·.1)=false:=by rfl):
  PE X (.Call (.Name x p) (e::es) [] pos) (iY sp dvs E t):=by
 intro a s B H Q I h;refine N5<|xv I i j ?_ b
 refine P9 (h₀:=X.base) I.ok.mod.p7 l (aP (y pos a s B H _ I h) λG J ⟨L,M,d,r,q⟩=>⟨d.dL,?_⟩) z c;exact uO F g n u v d r q
def Ev(z:PE X o ta)(c:dq X.K C)(i:dh X.K C m f)(F:bq X.prog X.w X.K X.mg X.base CX k f fd ps sp)(B:cT k X.A)(G:Binds X.K fd ps ds)(J:be dvs ds)(L:mF CX X E)(M:PA X (e::es) t)
  (d:starEach (e::es) X.env=(false,eval e X.env)::starEach es X.env:=by rfl) (g:(backTo pos (starEach es X.env)).any (·.1)=false:=by rfl)
  (N:eval (.Call (.Attribute o m apos) (e::es) [] pos) X.env=(do
   let j<-eval o X.env
   standAt apos.atName
   let (f,first)<-holding [j] (getMethod j m pl)
   callWith pos f first (backTo pos (starEach (e::es) X.env)) (backToKw pos (keywordEach [] X.env))):=by rfl):
  PE X (.Call (.Attribute o m apos) (e::es) [] pos) (lR C m sp dvs E ta t):=by
 intro b s n H Q I h;refine QK (pl:=pl) (aP (z b s n H _ I h) λu O ⟨x,T,v,U,a,dx,fs,Y,ea,l,q⟩=>?_) N;subst Y;obtain rfl:u=Value.ref a:=U;refine BQ v ea c i l ?_;refine P9 (first:=[.ref a]) (h₀:=X.base) I.ok.mod.p7 i.kp (aP (M pos b O n T _ v q) λus s2 ⟨vs,H2,y,r,q2⟩=>⟨y.dL,?_⟩) d g;exact uO (us:=.ref a::us) (vs:=.ref a::vs) F B G J L y (.cons rfl r) q2
def Lf(j:PE X o ta)(c:dq X.K C)(g:dh X.K C m f)(F:bq X.prog X.w X.K X.mg X.base CX k f fd ps sp)(n:cT k X.A)(r:Binds X.K fd ps ds)(v:be dvs ds)(y:mF CX X E)
  (z:eval (.Call (.Attribute o m apos) [] [] pos) X.env=(do
   let i<-eval o X.env
   standAt apos.atName
   let (f,first)<-holding [i] (getMethod i m pl)
   callWith pos f first (backTo pos (starEach [] X.env)) (backToKw pos (keywordEach [] X.env))):=by rfl):
  PE X (.Call (.Attribute o m apos) [] [] pos) (lR C m sp dvs E ta bL):=by
 intro b s B H Q I h;refine QK (pl:=pl) (aP (j b s B H _ I h) λu M ⟨x,N,d,G,a,O,T,J,L,l,q⟩=>?_) z;subst J;obtain rfl:u=Value.ref a:=G;refine BQ d L c g l ?_;exact W.callWith_K0 (first:=[.ref a]) d.dL g.kp<|uO (us:=[.ref a]) (vs:=[.ref a]) F n r v y d (.cons rfl .nil) q
structure Mk (K:PySem.W.Frag)(C f:Addr):Prop where
 makes:PySem.W.makesIn K C=true
 init:PySem.W.findIn K (.ref C) "__init__"=some (some (.ref f))
 fn:PySem.W.isFn K (.ref f)=true
 kp:PySem.W.keepIn K (.ref C)=true
def HZ{Q:VK}(M:Mk X.K C f)(F:bq X.prog X.w X.K X.mg X.base CX k f fd ps sp)(q:cT (k+1) X.A)(y:Binds X.K fd ps ds)(z:be dvs ds)
  (B:mF CX X E) (I:Inv X a i H s) (r:be j c)
  (h:∀x d,H x=none->H d=none->d≠x->sp (.ref x::(j++dvs)) (upd (upd H d (.own x)) x (.ins C d [])) (λv G=>v=.av/\Q (.ref x) G) E):
  wpAny (model X.prog X.w) X.A (call (.ref C) c) (EP X a i Q) X.xe s:=by
 have l:=h (s.heap.objs.size+1) s.heap.objs.size (I.aA.fresh<|Q3 _) (I.aA.fresh<|Mh _)<|MM<|NC _
 have g:=Inv.made (C:=C) I;have n:be (V.ref (s.heap.objs.size+1)::(j++dvs)) (Value.ref (s.heap.objs.size+1)::(c++ds)):=.cons rfl<|r.append z
 have J:(Value.ref (s.heap.objs.size+1)::c++ds).length=ps.length:=by
  have e:=n.length;rw [F.len _ _ _ _ l] at e;exact e.symm
 refine wpAny_call (ET (f:=f) I.dL M.makes M.init (Pc.mp M.fn) (Pk (F.run _ X.stack _ _ ⟨Value.ref (s.heap.objs.size+1)::c,[]⟩ (Value.ref (s.heap.objs.size+1)::(c++ds)) _ _ E (q.make C c [])
  (g.Dd.make C c []) (y _ (Value.ref (s.heap.objs.size+1)::c) g.dL J) n l) λr L b=>?_))
 cases r with
 |error e=>exact B a i _ _ e L g b
 |ok N=>
  cases N with
  |ret u=>
   obtain ⟨v,O,T,U,Y,q3⟩:=g.after b;subst Y;exact ⟨U,⟨V.ref<|s.heap.objs.size+1,O,T,rfl,q3⟩⟩
  |next=>exact False.elim b
  |brk=>exact False.elim b
  |cont=>exact False.elim b
def Fp (M:Mk X.K C f)(F:bq X.prog X.w X.K X.mg X.base CX k f fd ps sp)(g:cT (k+1) X.A)(i:Gl X x)(j:X.mg x=some (.ref C))(l:Binds X.K fd ps ds)(n:be dvs ds)(u:mF CX X E)
  (v:PA X (e::es) t) (b:(x==("__debug__":Str))=false:=by decide) (y:starEach (e::es) X.env=(false,eval e X.env)::starEach es X.env:=by rfl) (c:(backTo pos (starEach es X.env)).any (·.1)=false:=by rfl):
  PE X (.Call (.Name x p) (e::es) [] pos) (t9 C sp dvs E t):=by
 intro a s z H Q I h;refine N5<|xv I i j ?_ b
 refine P9 (h₀:=X.base) I.ok.mod.p7 M.kp (aP (v pos a s z H _ I h) λB G ⟨J,L,d,r,q⟩=>⟨d.dL,?_⟩) y c;exact HZ M F g l n u d r q
end
def PK (X:Cx)(kws:List Keyword)(t:TA):Prop:=
 ∀(pos:Pos) (pins:List (Addr×Obj)) (s:Shared) (σ:St) (H:Hp) (Q:List V->Hp->Prop),Inv X pins σ H s->t σ H Q->wpAny (model X.prog X.w) X.A (evalAll ((backToKw pos (keywordEach kws X.env)).map (·.2))) (AP X pins σ Q) X.xe s
section
variable {X:Cx}{CX:ir}{k:Nat}{f C:Addr}{fd:FuncData}{ps ks:List Str}{sp:Sp}{E:XK}{x m:Str}{p pos apos kpos:Pos}{e o:Expr}{es:List Expr}{kws:List Keyword}{te ta:TE}{t tk:TA}{nm:Option Str}
def C9:PK X [] bL:=λ_ _ _ _ H Q I h=>wpAny_evalAll_nil ⟨[],H,I,.nil,h⟩
def Bq (d:PE X e te)(g:PK X kws t):PK X (⟨nm,e,kpos⟩::kws) (bu te t):=by
 intro b a s c H Q I h;show wpAny _ _ (evalAll ((do let v<-eval e X.env;standAt b;pure v)::(backToKw b<|keywordEach kws X.env).map (·.2))) _ _ s;refine wpAny_evalAll_cons<|L9<|aP (d a s c H _ I h) λu i ⟨x,j,l,n,q⟩=>L9<|Qn<|Mt ?_
 exact aP (g b a i c j _ l q) λG J r=>by obtain ⟨w,y,z,A,B⟩:=r;exact ⟨x::w,y,z,.cons n A,B⟩
variable {g:List Value->List Value->List Value}{gV:List V->List V->List V}
end
structure bW (N P:List Str)(sc:Scope):Prop where
 kind:sc.kind=.function
 co:sc.isCoroutine=false
 gen:sc.isGenerator=false
 nd:N.Nodup
 pre:N.take P.length=P
 par:∀x∈P,sc.names.lookup x=some .local\/sc.names.lookup x=some .cell
 KA:∀y∈sc.names,y.2≠.free
theorem AM{kindOf:Str->Option NameKind}:∀{binds:List (Str×Value)} {m:ZU},(∀v,(x,v)∉binds)->bindL kindOf binds m x=m x
 |[],_,_=>rfl
 |(n,v)::r,m,h=>by
  unfold bindL;rw [AM λw a=>h w<|L8 _ a];split
  .have:x≠n:=by rintro rfl;exact h v Mc
   simp [this]
  .rfl
theorem C2{kindOf:Str->Option NameKind}:∀{binds:List (Str×Value)} {m:ZU},(∀v,(x,v)∉binds)->bindC kindOf binds m x=m x
 |[],_,_=>rfl
 |(n,v)::r,m,h=>by
  unfold bindC;rw [C2 λw a=>h w<|L8 _ a];split
  .rfl
  .have:x≠n:=by rintro rfl;exact h v Mc
   simp [this]
theorem yn{kindOf:Str->Option NameKind}:∀{P:ZY} {a:List Value} {i:Nat} {m:ZU},P.Nodup->P[i]?=some x->a[i]?=some v->kindOf x=some .local->
  bindL kindOf (P.zip a) m x=some v
 |[],_,_,_,_,h,_,_=>by simp at h
 |_::_,[],_,_,_,_,h,_=>by simp at h
 |p::P,w::a,0,m,d,b,c,e=>by
  simp at b c;subst b;subst c;show bindL kindOf ((p,w)::P.zip a) m p=_;unfold bindL;rw [AM λv f=>(Oi.mp d).1 (PR f).1,Mp e];simp
 |p::P,w::a,i+1,m,d,b,c,e=>by
  show bindL kindOf ((p,w)::P.zip a) m x=_;unfold bindL;exact yn (i:=i) (Oi.mp d).2 (by simpa using b) (by simpa using c) e
theorem yt{kindOf:Str->Option NameKind}:∀{P:ZY} {a:List Value} {i:Nat} {m:ZU},P.Nodup->P[i]?=some x->a[i]?=some v->kindOf x≠some .local->
  bindC kindOf (P.zip a) m x=some v
 |[],_,_,_,_,h,_,_=>by simp at h
 |_::_,[],_,_,_,_,h,_=>by simp at h
 |p::P,w::a,0,m,d,b,c,e=>by
  simp at b c;subst b;subst c;show bindC kindOf ((p,w)::P.zip a) m p=_;unfold bindC;rw [C2 λv f=>(Oi.mp d).1 (PR f).1,Mj e];simp
 |p::P,w::a,i+1,m,d,b,c,e=>by
  show bindC kindOf ((p,w)::P.zip a) m x=_;unfold bindC;exact yt (i:=i) (Oi.mp d).2 (by simpa using b) (by simpa using c) e
def start (N:List Str)(vs:List V):St:=vs.map some++List.replicate (N.length-vs.length) none
def mn (CX:ir)(P:Program)(w:World)(K:PySem.W.Frag)(mg:Str->Option Value)(base:Heap)(N:List Str)(qual:Str)(scope:Scope)(f:Addr)(cd:Value)(A:Around)(outer:List Env)(s:Shared)(H:Hp)(E:XK):Cx where
 prog:=P
 w:=w
 K:=K
 mg:=mg
 base:=base
 A:=A.deeper (envOfC qual scope s.heap.objs.size f cd)
 N:=N
 s₀:=s
 H₀:=H
 env:=envOfC qual scope s.heap.objs.size f cd
 outer:=outer
 stack:=envOfC qual scope s.heap.objs.size f cd::outer
 ex:=[]
 calm:=true
 fn:=λ_=>true
 pn:=[]
 xe:=λe s'=>wpAny (model P w) (A.deeper (envOfC qual scope s.heap.objs.size f cd)) (leaving (envOfC qual scope s.heap.objs.size f cd) e) (λ_ s''=>CX outer H s E e s'') (λe' s''=>CX outer H s E e' s'') s'
def Ay{a:Scope}(h:a.names.lookup x=some .cell):∃c,(cellsFrom n a.names []).lookup x=some c:=by
 have q:=QC a.names n [] (.inl h);exact Qo.mp q
def HC{K:W.Frag}{base:Heap}{A:Around}{t:List V}
  (S:bW N o d) (hd:A.handled=none) (m:ni P w K O base A g s H) (hl:t.length=o.length) (r:be t Q)
  (x:InCallC s s.heap.objs.size (bindL (envOfC j d s.heap.objs.size f J).kindOf (o.zip Q) λ_=>none) (cellsFrom (s.heap.objs.size+1) d.names []) (bindC (envOfC j d s.heap.objs.size f J).kindOf (o.zip Q) λ_=>none) U):
  Inv (mn T P w K O base N j d f J A g s H E) [] (start N t) H U:=by
 have ac:o.length<=N.length:=by have:=M7 List.length S.pre;rw [MT] at this;omega
 obtain ⟨L,tk,rfl,Y⟩:=x.done;have B:∀b:Addr,b∉(mn T P w K O base N j d f J A g s H E).ex:=λb z=>absurd (show b∈([]:ZX) from z) Z8;refine ⟨⟨m.mod,S.kind,rfl,rfl,Mh _,λy z c L l=>?_,λy C=>?_,λy c _ h=>?_,λ_=>hd,Around.frames_deeper m.frames,.inr ⟨rfl,rfl⟩,λb z=>absurd z<|B b,m.bs,m.j9,λb _ _=>B b,λb z=>absurd z<|B b,m.hJ,m.lu⟩,
  rfl,m.bare,Un.kept Y,⟨_,x.toInCall.ns,λi y v L l h3=>?_⟩,λy c h=>⟨_,x.cell y c h⟩,m.aA.fresh<|Mh _,λy c h=>?_,λp G=>absurd (show p∈([]:ZV) from G) Z8,m.aA.kept Y,?_⟩
 .exact name_of_addr x.apart (Om L)<|Om l
 .have C:d.names.lookup y=some .cell\/d.names.lookup y=some .free:=C;rcases C with C|C
  .exact Ay C
  .exact absurd rfl<|S.KA _<|Om C
 .exact ND<|x.above y c<|Om h
 .have M:i<t.length:=by
   unfold start at l;by_cases M:i<t.length
   .exact M
   .rw [MJ (by simpa using M)] at l
    rw [List.getElem?_replicate] at l;split at l<;>cases l
  have ha:t[i]?=some v:=by
   unfold start at l;rw [ME (by simpa using M),Mo] at l;cases e:t[i]? with
   |none=>rw [e] at l;cases l
   |some a=>rw [e] at l;cases l;rfl
  obtain ⟨u,hu,rv⟩:=r.get ha;have G:o[i]?=some y:=by
   rw [<-S.pre,NP Z4];exact L
  have I:o.Nodup:=by rw [<-S.pre];exact S.nd.sublist<|List.take_sublist _ _
  refine ⟨u,rv,?_⟩;rcases S.par y (Mi G) with k|k
  .exact .inl ⟨k,yn I G hu k⟩
  .obtain ⟨c,e⟩:=Ay (n:=s.heap.objs.size+1) k;refine .inr ⟨.inl k,c,e,?_⟩;have q:=x.cell y c e;rw [yt I G hu (by show d.names.lookup y≠_;rw [k];decide)] at q;exact q
 .exact m.aA.fresh<|ND<|x.above y c<|Om h
 .unfold start;show _=N.length;rw [Mv,Md,List.length_replicate];omega
def DL{K:W.Frag}{base:Heap}{name:Str}{kV:Value}
    {sp:Sp} (lk:K.lookup f=some ⟨oc,od,.func (W.fnOf name d h i a dV kV C pm an g ct),ac⟩) (af:W.codeIn K g d=true) (S:bW N Y a)
  (G:∀j H Q E,sp j H Q E->j.length=Y.length)
  (p:∀(A:Around) (c:List Env) (s:Shared) (H:Hp) (j:List V) (Q:VK) (E:XK),cT k (A.deeper (envOfC d a s.heap.objs.size f g))->sp j H Q E->
   ∃t,gJ (mn T P w K U base N d a f g A c s H E) i t/\t {nx:=λ_ m=>Q .av m,rt:=Q} (start N j) H):
  bq P w K U base T (k+1) f (W.fnOf name d h i a dV kV C pm an g ct) Y sp:=by
 refine ⟨G,λA c s H am us j Q E hr L hb r M=>?_⟩;have hl:=G _ _ _ _ M;have KX:K.In s.heap:=L.mod.p7.keeps λb o e=>(L.bs b o e).1;have aj:s.heap.NoLimit:=L.mod.nolimit.keeps λb o e=>(L.bs b o e).1;have z:∀y∈Y.zip us,a.names.lookup y.1=some .local\/(a.names.lookup y.1=some .cell/\((cellsFrom (s.heap.objs.size+1) a.names []).lookup y.1).isSome=true):=λq0 hy=>by
  obtain ⟨n,v⟩:=q0;rcases S.par n (PR hy).1 with q|q
  .exact .inl q
  .exact .inr ⟨q,QC _ _ _ (.inl q)⟩
 refine codeAny_call_function hr.depth (KX _ _ lk) rfl S.co S.gen rfl (W.codeRec_of KX af)<|hb _ _ _ _ ?_
 refine wpAny_newFunctionEnv_cells S.kind z λao he s1 x=>?_;subst he;refine ⟨aj.keeps x.toInCall.keep,codeAny_func ?_⟩;obtain ⟨t,ht,hq⟩:=p A c s H j Q E (hr.deeper _) M;have I:Inv (mn T P w K U base N d a f g A c s H E) [] (start N j) H s1:=HC S hr.hd L hl r x;refine NB (ht [] s1 (start N j) H _ I hq) (λfl s' B=>?_) λe s' B=>B;have O:∀{l:St} {m:Hp} {v:V} {u:Value},Inv (mn T P w K U base N d a f g A c s H E) [] l m s'->RelV v u->Q v m->CE c P w H s Q u s':=
  λ{l m v u} J rv q=>⟨v,m,J.os,J.bare,J.base,J.aA,rv,q⟩
 cases fl with
 |ret u=>
  obtain ⟨v,l,m,J,rv,q⟩:=B;exact O J rv q
 |next=>
  obtain ⟨l,m,J,q⟩:=B;exact O (v:=V.av) (u:=Value.none) J rfl q
 |brk=>
  obtain ⟨_,_,_,q⟩:=B;exact False.elim q
 |cont=>
  obtain ⟨_,_,_,q⟩:=B;exact False.elim q
end L2
namespace L2
open PySem PySem.Spec PyProof.Rows
section
variable {X:Cx}{x:Str}{p pos:Pos}{e:Expr}{es:List Expr}{t:TA}{id T:String}{r:List V->Hp->VK->Prop}
def cM (r:List V->Hp->VK->Prop)(t:TA):TE:=λσ H Q=>t σ H λvs H1=>r vs H1 Q
def pE (d:iw X (.builtin id) r)(f:Gl X x)(g:X.mg x=none)(i:bootBuiltins x=some (.builtin id))(j:PA X (e::es) t)(k:x≠"__name__":=by decide)(b:(x==("__debug__":Str))=false:=by decide)
  (he:starEach (e::es) X.env=(false,eval e X.env)::starEach es X.env:=by rfl) (hpl:(backTo pos (starEach es X.env)).any (·.1)=false:=by rfl):PE X (.Call (.Name x p) (e::es) [] pos) (cM r t):=by
 intro a s c H Q I h;refine N5<|jA I f g i ?_ k b
 exact PyProof.Rows.callWith_builtin1 (aP (j pos a s c H _ I h) λl m n=>by obtain ⟨o,q,u,v,w⟩:=n;exact d a m c q o l Q u v w) he hpl
def qk (f:iw X (.type T) r)(g:Gl X x)(i:X.mg x=none)(j:bootBuiltins x=some (.type T))(k:PA X (e::es) t)(l:x≠"__name__":=by decide)(b:(x==("__debug__":Str))=false:=by decide)
  (he:starEach (e::es) X.env=(false,eval e X.env)::starEach es X.env:=by rfl) (c:(backTo pos (starEach es X.env)).any (·.1)=false:=by rfl):PE X (.Call (.Name x p) (e::es) [] pos) (cM r t):=by
 intro a s d H Q I h;refine N5<|jA I g i j ?_ l b
 exact No (aP (k pos a s d H _ I h) λm n o=>by obtain ⟨q,u,v,w,y⟩:=o;exact f a n d u q m Q v w y) he c
end
end L2
namespace HT
open PySem PyProof.Rows
section
open PySem.SeqAt
open PySem.AutoSeq1 (wpAny_loadPart')
open PySem.MeetsSeq PySem.MeetsSeq2 PySem.MeetsSeq3
end
section
variable {prog:Program}{w:World}{A:Around}{E:Value->Shared->Prop}{s:Shared}
def Kn{d a:List Value}{Q:ZT}(v:IsTup s.heap t d.toArray)(x:IsTup s.heap b a.toArray)(l:d≠[])
  (y:a=[]->Q (.ref t) s) (z:a≠[]->Q (.ref s.heap.objs.size) {s with heap:=s.heap.push {cls:=.type "tuple",data:=.seq (d++a).toArray}})
  (k:d.length+a.length<=sizeLine):wpAny (model prog w) A (binaryOp .Add (.ref t) (.ref b)) Q E s:=by
 obtain ⟨⟨cls,m,data,o⟩,i,p,n,q⟩:=id v;obtain ⟨⟨r,f,data2,g⟩,c,h,u,dz⟩:=id x;simp only at p q h dz;subst p q h dz;have e:d.toArray++a.toArray=(d++a).toArray:=by simp
 by_cases j:a=[]
 .exact concat_meets ⟨_,i,rfl⟩ ⟨_,c,rfl⟩ Qt seq_tuple_add Pl Pg (OX _ _)
   (tuple_addW1 t b d.toArray a.toArray n u m f o g (by simpa using l) (by simp [j])) ⟨i,c,y j⟩
 .refine concat_meets ⟨_,i,rfl⟩ ⟨_,c,rfl⟩ Qt seq_tuple_add Pl Pg (OX _ _)
   (tuple_addW2 t b d.toArray a.toArray n u m f o g (by simpa using l) (by simpa using j) (by rw [Mw,Mw];exact k)) ⟨i,c,?_⟩
  rw [e];exact z j
def bO (n d:Nat):Option Int->Nat
 |none=>d
 |some v=>if v<0 then (v+(n:Int)).toNat else min v.toNat n
def y9 (n d:Nat):bO n d none=d:=rfl
def qy (n d k:Nat):bO n d (some (k:Int))=min k n:=by
 show (if (k:Int)<0 then ((k:Int)+(n:Int)).toNat else min (k:Int).toNat n)=min k n;rw [Mj Z4,Od]
def JB (n d:Nat)(b:d<=n)(o:Option Int):bO n d o<=n:=by
 cases o with
 |none=>exact b
 |some v=>
  show (if v<0 then (v+(n:Int)).toNat else min v.toNat n)<=n;by_cases a:v<0
  .rw [Mp a];omega
  .rw [Mj a];exact Nat.min_le_right _ _
def zK (v:Int)(n d:Nat):(if v<0 then max (v+(n:Int)) 0 else min v (n:Int))=((bO n d (some v):Nat):Int):=by
 show (if v<0 then max (v+(n:Int)) 0 else min v (n:Int))=(((if v<0 then (v+(n:Int)).toNat else min v.toNat n):Nat):Int)
 by_cases a:v<0
 .simp only [Mp a];omega
 .simp only [Mj a];omega
def IP (lo a:Option Int)(n:Nat):Builtin.Slice.sliceAdjust lo a 1 (n:Int)=(((bO n 0 lo:Nat):Int),((bO n n a:Nat):Int)):=by
 have b:¬((1:Int)<0):=by omega
 unfold Builtin.Slice.sliceAdjust;simp only [b,Qu];refine Prod.ext ?_ ?_
 .cases lo with
  |none=>rfl
  |some v=>exact zK v n 0
 .cases a with
  |none=>rfl
  |some v=>exact zK v n n
def KZ (i j:Nat):Builtin.Slice.slicePlaces (i:Int) (j:Int) 1=j-i:=by
 unfold Builtin.Slice.slicePlaces;have a:(1:Int)>0:=by omega
 simp only [a,O3,Int.ediv_one];split<;>omega
def AQ{Q:Option Int->Shared->Prop}(p:IsPart v o)(h:Q o s):wpAny (model prog w) A (Builtin.Slice.slicePartIndex v) Q E s:=by
 cases p with
 |none=>exact slicePart_none h
 |int i t=>exact slicePart_int h
def LN{lo:Option Int}{Q:Int×Int×Nat->Shared->Prop}(g:s.heap.IsSliceOf f d e .none)(i:IsPart d lo)(j:IsPart e a)
  (h:Q (((bO n 0 lo:Nat):Int),1,bO n n a-bO n 0 lo) s):wpAny (model prog w) A (Builtin.Slice.sliceApplied (.ref f) (pure (n:Int))) Q E s:=by
 obtain ⟨os,b,k,c⟩:=id g;unfold Builtin.Slice.sliceApplied Builtin.Slice.sliceFields;refine L9<|L9<|Nh b c (x:=d) rfl<|L9<|Nh b c (x:=e) rfl<|L9<|Nh b c (x:=.none) rfl<|Mt ?_;refine L9<|slicePart_none ?_;show wpAny _ _ (if ((1:Int)==0)=true then _ else _) _ _ s;rw [Mj Z1];refine L9<|AQ i<|L9<|AQ j<|L9<|Mt ?_;show wpAny _ _ (match Builtin.Slice.sliceAdjust lo a 1 (n:Int) with|(lo,a)=>pure (lo,(1:Int),Builtin.Slice.slicePlaces lo a 1)) _ _ s;rw [IP lo a n];show wpAny _ _ (pure (((bO n 0 lo:Nat):Int),(1:Int),Builtin.Slice.slicePlaces ((bO n 0 lo:Nat):Int) ((bO n n a:Nat):Int) 1)) _ _ s;rw [KZ];exact Mt h
def Eg (a:Array Value)(i k:Nat):((List.range k).filterMap λ(m:Nat)=>a[((i:Int)+(m:Int)*1).toNat]?).toArray=((a.toList.drop i).take k).toArray:=by
 have e:(λ(m:Nat)=>a[((i:Int)+(m:Int)*1).toNat]?)=λm=>a[i+m]?:=by
  funext m;have:((i:Int)+(m:Int)*1).toNat=i+m:=by omega
  rw [this]
 rw [e];have:=pick_run a i k;rw [List.filterMap_map] at this;have b:((λx=>a[x]?)∘λx=>i+x)=λm=>a[i+m]?:=rfl;rw [b] at this;rw [this]
def Hz{lo:Option Int}{Q:ZT}(d:IsTup s.heap t a)(n:s.heap.IsSliceOf e k l .none)(o:IsPart k lo)(p:IsPart l c)
  (r:¬(bO a.size 0 lo=0/\bO a.size a.size c=a.size))
  (h:Q (.ref s.heap.objs.size) {s with heap:=s.heap.push {cls:=.type "tuple",data:=.seq ((a.toList.drop (bO a.size 0 lo)).take (bO a.size a.size c-bO a.size 0 lo)).toArray}})
  (u:a.size<=sizeLine):wpAny (model prog w) A (getItem (.ref t) (.ref e)) Q E s:=by
 have b:sizeOk (.seq ((a.toList.drop<|bO a.size 0 lo).take<|bO a.size a.size c-bO a.size 0 lo).toArray):=by
  show ((a.toList.drop<|bO a.size 0 lo).take<|bO a.size a.size c-bO a.size 0 lo).toArray.size<=sizeLine;rw [Mw,MT,OQ,OW];omega
 have x:bO a.size a.size c<=a.size:=JB _ _ (Mh _) c;obtain ⟨os,f,g,v⟩:=id n;have i:s.TypeIs (.ref e) "slice":=⟨os,f,g⟩
 unfold getItem
 try with_reducible refine NQ ?_
 first|refine L9 (Mt ?_)|skip
 refine L9<|wpAny_sequenceKey d.typeIs Z1 ?_
 refine L9 (Np (name:=Str.ofString "__getitem__") d.typeIs Ol
  (Oq Ol d.typeIs entry_tuple_getitem ?_ (args_tuple_getitem _ _)))
 show wpAny _ _ (Builtin.Tuple.tupleItemsOf (.ref t)>>=_) _ _ s;refine L9<|tupleItemsOf_ d ?_
 refine L9<|P4 i ?_
 rw [Mp Z1];refine L9<|LN n o p ?_
 have j:¬((((bO a.size 0 lo:Nat):Int)==0&&(1:Int)==1&&(bO a.size a.size c-bO a.size 0 lo)==a.size)=true):=by
  intro q;rw [Na,Na] at q;have y:((bO a.size 0 lo:Nat):Int)=0:=eq_of_beq q.1.1;have z:bO a.size a.size c-bO a.size 0 lo=a.size:=eq_of_beq q.2;exact r ⟨by omega,by omega⟩
 show wpAny _ _ (if (((bO a.size 0 lo:Nat):Int)==0&&(1:Int)==1&&(bO a.size a.size c-bO a.size 0 lo)==a.size)=true then _ else _) _ _ s;rw [Mj j,Eg]
 first
  |exact L9 (m:=Builtin.Tuple.tupleExact _)<|NF (Mt ⟨_,rfl,Mt h⟩) b
  |exact L9 (m:=Builtin.Tuple.tupleExact _)<|NF (L9<|Mt<|Mt ⟨_,rfl,Mt h⟩) b
  |exact L9<|L9 (m:=Builtin.Tuple.tupleExact _)<|NF (Mt<|Mt ⟨_,rfl,Mt h⟩) b
  |exact L9<|L9 (m:=Builtin.Tuple.tupleExact _)<|NF (Mt ⟨_,rfl,Mt h⟩) b
end
end HT
namespace L2
open PySem PySem.Spec PyProof.Rows
abbrev TO:=St->Hp->(Option Int->Hp->Prop)->Prop
def PO (X:Cx)(e:Option Expr)(t:TO):Prop:=
 ∀(pins:List (Addr×Obj)) (s:Shared) (σ:St) (H:Hp) (Q:Option Int->Hp->Prop),Inv X pins σ H s->t σ H Q->
  wpAny (model X.prog X.w) X.A (evalPart e X.env) (λu s'=>∃o H',Inv X pins σ H' s'/\IsPart u o/\Q o H') X.xe s
def BV:TO:=λ_ H Q=>Q none H
def su (t:TE):TO:=λσ H Q=>t σ H λx H1=>∃i,x=.int i/\Q (some i) H1
section
variable {X:Cx}{e:Expr}{te:TE}{lo hi:Option Expr}{tl th:TO}{pos p2:Pos}
def pe:PO X none BV:=by
 intro a s b H Q I h;rw [evalPart_none];exact Mt ⟨none,H,I,.none,h⟩
def m4 (h:PE X e te):PO X (some e) (su te):=by
 intro a s b H Q I c;rw [evalPart_some];refine aP (h a s b H _ I c) λu l d=>?_;obtain ⟨x,f,g,j,k⟩:=d;obtain ⟨i,rfl,q⟩:=k;obtain ⟨t,rfl⟩:=j;exact ⟨some i,f,g,.int i t,q⟩
def vQ (X:Cx)(r:V->Option Int->Option Int->Hp->VK->Prop):Prop:=
 ∀(pins:List (Addr×Obj)) (s:Shared) (σ:St) (H:Hp) (x:V) (v vl vu:Value) (lo hi:Option Int) (sl:Addr) (Q:VK),Inv X pins σ H s->RelV x v->s.heap.IsSliceOf sl vl vu .none->IsPart vl lo->IsPart vu hi->r x lo hi H Q->
  ∃T id,typeLookup (.type T) "__getitem__"=pure (some (.builtin id))/\s.TypeIs v T/\wpAny (model X.prog X.w) X.A (getItem v (.ref sl)) (EP X pins σ Q) X.xe s
def wB (r:V->Option Int->Option Int->Hp->VK->Prop)(te:TE)(tl th:TO):TE:=λσ H Q=>te σ H λx H1=>tl σ H1 λl H2=>th σ H2 λu H3=>r x l u H3 Q
def nI(j:vQ X r)(k:PE X e te)(m:PO X lo tl)(n:PO X hi th):PE X (.Subscript e (.Slice lo hi none p2) pos) (wB r te tl th):=by
 intro a s d H Q I h;refine Subscript_<|aP (k a s d H _ I h) λv o p=>?_
 obtain ⟨x,t,y,z,B⟩:=p;refine wpAny_Slice<|aP (m a o d t _ y B) λf C ⟨l,E,G,J,L⟩=>aP (n a C d E _ G L) λg c M=>?_;obtain ⟨u,i,N,O,U⟩:=M;rw [evalPart_none];refine Mt ?_;have Y:Inv X a d i {c with heap:=c.heap.push {cls:=.type "slice",data:=.fields #[f,g,.none]}}:=N.kept (t':=c.toks) λb ob q=>Mf _ q;obtain ⟨T,id,hT,ht,hg⟩:=j a {c with heap:=c.heap.push {cls:=.type "slice",data:=.fields #[f,g,.none]}} d i x v f g l u c.heap.objs.size Q Y z (Heap.IsSliceOf.new ..) J O U;show wpAny (model X.prog X.w) X.A (subscriptTail e (.Slice lo hi none p2) v (.ref c.heap.objs.size)) (EP X a d Q) X.xe {c with heap:=c.heap.push {cls:=.type "slice",data:=.fields #[f,g,.none]}};exact tail_any (ops:=[.ref c.heap.objs.size,v]) ht hT hg (by with_unfolding_all rfl)
def gS (xs:List V)(lo hi:Option Int):List V:=(xs.drop (HT.bO xs.length 0 lo)).take (HT.bO xs.length xs.length hi-HT.bO xs.length 0 lo)
def Au (a:List V)(lo hi:Option Int):(gS a lo hi).length<=a.length:=by
 unfold gS;rw [MT,OQ];omega
def BU (K:PySem.W.Frag):V->Option Int->Option Int->Hp->VK->Prop:=λx lo hi H Q=>∃a xs,x=.ref a/\bz K H a xs/\
 ¬(HT.bO xs.length 0 lo=0/\HT.bO xs.length xs.length hi=xs.length)/\∀p,H p=none->Q (.ref p) (upd H p (.tup (gS xs lo hi)))
def qR:vQ X (BU X.K):=by
 intro pins s σ H x v vl vu lo hi sl Q I rx hs pl pu h;obtain ⟨a,xs,rfl,hx,hw,q⟩:=h;cases rx;obtain ⟨its,r,ht,hz⟩:=I.tuple hx;have hlen:its.toArray.size=xs.length:=by rw [Mw];exact r.length.symm
 refine ⟨"tuple",_,Ol.lookup,ht.typeIs,?_⟩;refine HT.Hz ht hs pl pu (by rw [hlen];exact hw) ?_ (by rw [hlen];exact hz);rw [hlen];refine ⟨.ref s.heap.objs.size,_,I.laid (t':=s.toks) (o:=.tup (gS xs lo hi)) (λb ob q=>Mf _ q) (Mh _) ?_,rfl,q _ (I.aA.fresh (Mh _))⟩;exact ⟨MF (Au xs lo hi) hz,_,(r.drop (HT.bO xs.length 0 lo)).take (HT.bO xs.length xs.length hi-HT.bO xs.length 0 lo),IsTup.new _ _⟩
def KP (K:PySem.W.Frag):R2:=λx y H Q=>∃a b xs ys,x=.ref a/\y=.ref b/\bz K H a xs/\bz K H b ys/\xs≠[]/\xs.length+ys.length<=sizeLine/\
 (ys=[]->Q (.ref a) H)/\(ys≠[]->∀p,H p=none->Q (.ref p) (upd H p (.tup (xs++ys))))
def be.tY(r:be a b):b=[]↔a=[]:=by
 cases r with
 |nil=>simp
 |cons _ _=>simp
def IW:cO X (binaryOp .Add) (KP X.K):=by
 intro pins s σ H x y v u Q I rx ry h;obtain ⟨a,b,xs,ys,rfl,rfl,ha,hb,hx,hz,q1,q2⟩:=h;cases rx;cases ry;obtain ⟨its,r1,p1,_⟩:=I.tuple ha;obtain ⟨its2,r2,p2,_⟩:=I.tuple hb;refine HT.Kn p1 p2 (λz=>hx (r1.tY.mp z)) (λz=>⟨.ref a,H,I,rfl,q1 (r2.tY.mp z)⟩) (λz=>?_) (by rw [<-r1.length,<-r2.length];exact hz);refine ⟨.ref s.heap.objs.size,_,I.laid (t':=s.toks) (o:=.tup (xs++ys)) (λb ob q=>Mf _ q) (Mh _) ?_,rfl,q2 (λw=>z (r2.tY.mpr w)) _ (I.aA.fresh (Mh _))⟩;exact ⟨by rw [Mv];exact hz,_,r1.append r2,IsTup.new _ _⟩
end
end L2
namespace L2
open PySem PySem.Spec PyProof.Rows
def mw (n:Nat)(i:Int):Option Nat:=if 0<=i then (if i<n then some i.toNat else none) else if-(n:Int)<=i then some (i+n).toNat else none
def de {α:Type}(xs:List α)(i:Int):Option α:=(mw xs.length i).bind λj=>xs[j]?
def Ld(h:mw n i=some j):seqIndex? i n=some j/\j<n/\-(n:Int)<=i/\i<n:=by
 unfold mw at h;by_cases b:0<=i
 .rw [Mp b] at h
  by_cases a:i<n
  .rw [Mp a] at h
   have e:i.toNat=j:=Mu h;exact ⟨by rw [seqIndex_of b a,e],by omega,by omega,a⟩
  .rw [Mj a] at h;cases h
 .rw [Mj b] at h
  by_cases a:-(n:Int)<=i
  .rw [Mp a] at h
   have e:(i+n).toNat=j:=Mu h;exact ⟨by rw [seqIndex_neg Z4 a,e],by omega,a,by omega⟩
  .rw [Mj a] at h;cases h
def jo(h:de a i=some v):∃j,seqIndex? i a.length=some j/\a[j]?=some v/\j<a.length/\-(a.length:Int)<=i/\i<a.length:=by
 unfold de at h;cases e:mw a.length i with
 |none=>rw [e] at h;cases h
 |some j=>
  rw [e] at h;obtain ⟨c,d,f,g⟩:=Ld e;exact ⟨j,c,h,d,f,g⟩
def tR{j:Nat}(h:a[j]?=some v):de a (j:Int)=some v:=by
 have c:j<a.length:=(Ma.mp h).1;have e:mw a.length (j:Int)=some j:=by
  unfold mw;rw [Mp Z4,Mp Z4];simp
 unfold de;rw [e];exact h
def sX (b:Expr):Prop:=∀o i,subscripted b false o i=operate [o,i] (getItem o i)
def jP (X:Cx)(r:R2):Prop:=
 ∀(value slice:Expr) (pins:List (Addr×Obj)) (s:Shared) (σ:St) (H:Hp) (x y:V) (v u:Value) (Q:VK),Inv X pins σ H s->RelV x v->RelV y u->r x y H Q->
  subscripted slice false v u=operate [v,u] (getItem v u)->wpAny (model X.prog X.w) X.A (subscriptTail value slice v u) (EP X pins σ Q) X.xe s
def uA (X:Cx)(id:String)(r:V->List V->Hp->VK->Prop):Prop:=
 ∀(pins:List (Addr×Obj)) (s:Shared) (σ:St) (H:Hp) (x:V) (xs:List V) (v:Value) (us:List Value) (Q:VK),Inv X pins σ H s->RelV x v->be xs us->r x xs H Q->
  wpAny (model X.prog X.w) X.A (call (.builtin id) (v::us)) (EP X pins σ Q) X.xe s
section
variable {X:Cx}{a b:Expr}{ta tb:TE}{pos:Pos}
def jP.or(h:jP X r)(l:jP X f):jP X (λx y H Q=>r x y H Q\/f x y H Q):=by
 intro c d e s g H x y v u Q I i j q k;rcases q with q|q
 .exact h c d e s g H x y v u Q I i j q k
 .exact l c d e s g H x y v u Q I i j q k
def FF(d:jP X r)(e:PE X a ta)(f:PE X b tb)(g:sX b):PE X (.Subscript a b pos) (bJ r ta tb):=by
 intro c s i H Q I h;exact Subscript_<|wF e f I h λv u j x y k l m n q=>d a b c j i k x y v u Q l m n q<|g _ _
def AC (K:PySem.W.Frag):R2:=λx y H Q=>∃p xs i v,x=.ref p/\y=.int i/\aN K H p xs/\de xs i=some v/\Q v H
def yq (K:PySem.W.Frag):R2:=λx y H Q=>∃p xs i v,x=.ref p/\y=.int i/\bz K H p xs/\de xs i=some v/\Q v H
def zx:R2:=λx y H Q=>∃z i c,x=.str z/\y=.int i/\z.length<=sizeLine/\de z.cps.toList i=some c/\Q (.str ⟨#[c]⟩) H
def Jh:jP X (AC X.K):=by
 intro f g c s o H x y v u Q I E G h A;obtain ⟨p,Y,i,z,rfl,rfl,J,L,q⟩:=h;cases E;obtain ⟨t,rfl⟩:=G;obtain ⟨k,r,l,hz⟩:=I.list J;obtain ⟨j,e,M,h3,N,O⟩:=jo L;obtain ⟨w,B,m⟩:=r.get M;have T:=r.length;have hn:=pQ;have d:EP X c o Q w s:=⟨z,H,I,m,q⟩
 by_cases C:0<=i
 .have n:i.toNat=j:=by
   rw [seqIndex_of C O] at e;exact Mu e
  exact item_listR l.isList C Z4 (by rw [n];simpa using B) d A
 .have n:(i+(k.toArray.size:Int)).toNat=j:=by
   rw [seqIndex_neg Z4 N] at e;rw [Mw,<-T];exact Mu e
  exact subscriptTail_builtinR (x:=w) l.isList.typeIs slot_list_getitem.lookup
   (wpAny_getItem_list_neg (Q:=λr U=>r=w/\EP X c o Q r U) l.isList Z4 (by rw [Mw]<;>omega) Z4 (by rw [n];simpa using B) ⟨rfl,d⟩) A
def JY:jP X (yq X.K):=by
 intro d e c s k H x y v u Q I m n h o;obtain ⟨p,N,i,z,rfl,rfl,A,B,q⟩:=h;cases m;obtain ⟨t,rfl⟩:=n;obtain ⟨C,r,l,O⟩:=I.tuple A;obtain ⟨j,E,G,T,U,Y⟩:=jo B;obtain ⟨w,J,f⟩:=r.get G;have L:=r.length;have hn:=pQ;have g:EP X c k Q w s:=⟨z,H,I,f,q⟩
 exact subscriptTail_builtinR (x:=w) l.typeIs slot_tuple_getitem.lookup
  (getItem_tuple (j:=j) (Q:=λr M=>r=w/\EP X c k Q r M) l Z4 Z4 (by rw [Mw,<-L];exact E) (by simpa using J) ⟨rfl,g⟩) o
def Fn:jP X zx:=by
 intro d e f s C H x y v u Q I k l h m;obtain ⟨z,i,c,rfl,rfl,E,n,q⟩:=h;obtain ⟨t,rfl⟩:=k;obtain ⟨G,rfl⟩:=l;obtain ⟨j,g,o,J,p,r⟩:=jo n;have w:z.cps.toList.length=z.length:=by simp [Str.length]
 rw [w] at g p r;have L:=pQ;exact tail_any (typeIs_str s z t) slot_str_getitem.lookup (getItem_str (c:=c) (by
  have A:decide (i< -(2^63:Int))=false:=MH Z4;have B:decide (i≥2^63)=false:=MH Z4;rw [A,B,Qp]) (by rw [g];simpa using o) ⟨.str ⟨#[c]⟩,H,I.tok _,⟨_,rfl⟩,q⟩) m
def d6 (K:PySem.W.Frag):R2:=λx y H Q=>AC K x y H Q\/yq K x y H Q\/zx x y H Q
def Dl:jP X (d6 X.K):=Jh.or<|JY.or Fn
def J8 (lo hi:Option Int)(n:Nat):(sliceBounds lo hi none n).1=((HT.bO n 0 lo:Nat):Int)/\(sliceBounds lo hi none n).2.1=((HT.bO n n hi:Nat):Int)/\(sliceBounds lo hi none n).2.2=1:=by
 refine ⟨?_,?_,rfl⟩
 .cases lo with
  |none=>simp [sliceBounds,HT.bO]
  |some i=>
   simp only [sliceBounds,HT.bO,Qv,show (1:Int)>0 by decide,O3];by_cases h:i<0
   .simp only [h,O3]<;>omega
   .simp only [h,Qu]<;>omega
 .cases hi with
  |none=>simp [sliceBounds,HT.bO]
  |some i=>
   simp only [sliceBounds,HT.bO,Qv,show (1:Int)>0 by decide,O3];by_cases h:i<0
   .simp only [h,O3]<;>omega
   .simp only [h,Qu]<;>omega
def D9 (its:List Value)(lo hi:Option Int):slicePick its.toArray lo hi none=((its.drop (HT.bO its.length 0 lo)).take (HT.bO its.length its.length hi-HT.bO its.length 0 lo)).toArray:=by
 obtain ⟨h1,h2,h3⟩:=J8 lo hi its.toArray.size;unfold slicePick;rw [h1,h2,h3];simp only [sliceRange_one,pick_run,Mw]<;>rfl
def B3 (K:PySem.W.Frag):V->Option Int->Option Int->Hp->VK->Prop:=λx lo hi H Q=>∃a xs,x=.ref a/\aN K H a xs/\∀p,H p=none->Q (.ref p) (upd H p (.lst (gS xs lo hi)))
def AT:vQ X (B3 X.K):=by
 intro pins s σ H x v vl vu lo hi sl Q I rx hs pl pu h;obtain ⟨a,xs,rfl,hx,q⟩:=h;cases rx;obtain ⟨its,r,ht,hz⟩:=I.list hx;have hlen:=r.length;refine ⟨"list",_,slot_list_getitem.lookup,ht.isList.typeIs,?_⟩;refine wpAny_getItem_list_slice ht.isList hs pl pu .none Z8 ?_ (by rw [Mw]<;>omega);rw [D9,<-hlen];refine ⟨.ref s.heap.objs.size,_,I.laid (t':=s.toks) (o:=.lst (gS xs lo hi)) (λb ob q=>Mf _ q) (Mh _) ?_,rfl,q _ (I.aA.fresh (Mh _))⟩;exact ⟨MF (Au xs lo hi) hz,_,0,(r.drop (HT.bO xs.length 0 lo)).take (HT.bO xs.length xs.length hi-HT.bO xs.length 0 lo),Mz _ rfl⟩
def DE:iw X (.builtin "len") (λj H Q=>∃p d,j=[.ref p]/\(aN X.K H p d\/bz X.K H p d)/\Q (.int d.length) H):=by
 intro k s n H j o Q I r h;obtain ⟨p,d,rfl,e,q⟩:=h;obtain ⟨u,rfl,l⟩:=Qk r;cases l;have t:=pQ;rcases e with e|e
 .obtain ⟨f,g,i,m⟩:=I.list e;have c:=g.length;exact Calls.call_len_list i.isList (by simp only [Mw]<;>omega) ⟨.int d.length,H,I.tok _,⟨s.toks+1,by rw [Mw,c]⟩,q⟩
 .obtain ⟨f,g,i,m⟩:=I.tuple e;have c:=g.length;exact len_tuple i (by simp only [Mw]<;>omega) ⟨.int d.length,H,I.tok _,⟨s.toks+1,by rw [Mw,c]⟩,q⟩
def EO:iw X (.type "list") (λC H Q=>∃p f,C=[.ref p]/\(aN X.K H p f\/bz X.K H p f)/\∀l,H l=none->Q (.ref l) (upd H l (.lst f))):=by
 intro j s G H C L Q I r h;obtain ⟨p,f,rfl,k,q⟩:=h;obtain ⟨u,rfl,J⟩:=Qk r;cases J;have m:∀(c:List Value),be f c->f.length<=sizeLine->∀(d:Heap) (g:Nat),(∀b E,s.heap.get? b=some E->d.get? b=some E)->
   d.get? s.heap.objs.size=some {cls:=.type "list",dict:=none,data:=.seq c.toArray g,slots:= #[]}->EP X j G Q (.ref s.heap.objs.size) {s with heap:=d}:=λc i t d g v e=>
  ⟨.ref s.heap.objs.size,_,I.laid (t':=s.toks) v (Mh _) (show ca X.prog X.w _ d _ (.lst f) from ⟨t,c,g,i,e⟩),rfl,q _<|I.aA.fresh<|Mh _⟩
 rcases k with k|k
 .obtain ⟨c,i,y,t⟩:=I.list k;have x:=i.length;obtain ⟨o,z,A,n,B⟩:=y.isList;exact call_list_seq p (.inl rfl) z A B (λd g v e=>m c i t d g v e) (by simp only [Mw]<;>omega)
 .obtain ⟨c,i,y,t⟩:=I.tuple k;have x:=i.length;obtain ⟨o,z,A,n,B⟩:=y;exact call_list_seq p (.inr rfl) z A B (λd g v e=>m c i t d g v e) (by simp only [Mw]<;>omega)
def DW:iw X (.type "tuple") (λm H Q=>∃p f,m=[.ref p]/\((aN X.K H p f/\∀l,H l=none->Q (.ref l) (upd H l (.tup f)))\/(bz X.K H p f/\Q (.ref p) H))):=by
 intro c s n H m B Q I r h;obtain ⟨p,f,rfl,h⟩:=h;obtain ⟨u,rfl,y⟩:=Qk r;cases y;rcases h with ⟨i,q⟩|⟨i,q⟩
 .obtain ⟨d,j,k,t⟩:=I.list i;have v:=j.length;refine call_tuple_list k.isList (λg z=>?_) (by simp only [Mw]<;>omega);have x:Inv X c n H {s with heap:=g}:=I.kept (t':=s.toks) z;have A:Inv X c n (upd H g.objs.size (.tup f)) {s with heap:=g.push {cls:=.type "tuple",data:=.seq d.toArray}}:=
   x.laid (t':=s.toks) (λb o e=>Mf _ e) (Mh _) (show ca X.prog X.w _ _ _ (.tup f) from ⟨t,d,j,IsTup.new _ _⟩)
  exact ⟨.ref g.objs.size,_,A,rfl,q _<|x.aA.fresh<|Mh _⟩
 .obtain ⟨d,j,k,t⟩:=I.tuple i;exact call_tuple_same k ⟨.ref p,H,I,rfl,q⟩
def gW (K:PySem.W.Frag)(T:String)(x:V)(H:Hp):Prop:=match x with
 |.str _=>T="str"
 |.int _=>T="int"
 |.ref p=>(T="list"/\∃xs,aN K H p xs)\/(T="tuple"/\∃o,K.lookup p=some o/\o.cls=.type "tuple"/\o.dict=none)\/
   (T="dict"/\((∃kvs,H p=some (.dK kvs))\/∃kvs,H p=some (.dT kvs)))\/(T="set"/\∃S n,H p=some (.set S n))
 |_=>False
def BF(I:Inv X g u H s)(r:RelV x v)(h:gW X.K T x H):
  s.TypeIs v T/\∀a,v=.ref a->∃m,s.heap.get? a=some m/\m.dict=none:=by
 cases x with
 |str z=>
  obtain ⟨t,rfl⟩:=r;cases (show T="str" from h);exact ⟨typeIs_str s z t,λ_ e=>nomatch e⟩
 |int i=>
  obtain ⟨t,rfl⟩:=r;cases (show T="int" from h);exact ⟨typeIs_int s i t,λ_ e=>nomatch e⟩
 |ref p=>
  cases r;rcases h with ⟨rfl,B,w⟩|⟨rfl,o,d,y,j⟩|⟨rfl,d⟩|⟨rfl,S,n,d⟩
  .obtain ⟨A,_,q,_⟩:=I.list w;refine ⟨q.isList.typeIs,λa e=>?_⟩;cases e;obtain ⟨o,n,e,c,j,_⟩:=q;exact ⟨o,e,j⟩
  .refine ⟨⟨o,I.dL p o d,y⟩,λa e=>?_⟩
   cases e;exact ⟨o,I.dL _ o d,j⟩
  .have z:∃o,s.heap.get? p=some o/\o.ExactDict:=by
    rcases d with ⟨k,d⟩|⟨k,d⟩
    .obtain ⟨_,_,_,_,o,_,_,e,f,_⟩:=I.aA p _ d;exact ⟨o,e,f⟩
    .obtain ⟨_,_,_,_,o,_,_,e,f,_⟩:=I.aA p _ d;exact ⟨o,e,f⟩
   obtain ⟨o,e,f⟩:=z;refine ⟨⟨o,e,f.1⟩,λa l=>?_⟩;cases l;exact ⟨o,e,f.2.1⟩
  .obtain ⟨o,_,_,_,e,f,_⟩:=I.aA p _ d;refine ⟨⟨o,e,f.1⟩,λa l=>?_⟩;cases l;exact ⟨o,e,f.2.1⟩
 |_=>exact False.elim h
def xk (K:PySem.W.Frag)(T:String)(r:V->List V->Hp->VK->Prop)(to:TE):TE:=λσ H Q=>to σ H λx H1=>gW K T x H1/\r x [] H1 Q
def nq (K:PySem.W.Frag)(T:String)(r:V->List V->Hp->VK->Prop)(to:TE)(t:TA):TE:=λσ H Q=>to σ H λx H1=>gW K T x H1/\t σ H1 λxs H2=>r x xs H2 Q
variable {o e:Expr}{es:List Expr}{to:TE}{t:TA}{name:Str}{apos cpos:Pos}{T id:String}{r:V->List V->Hp->VK->Prop}
def z6 (m:PlainAttrs T)(g:Slot T name id)(i:typeOf (.builtin id)=pure (.type "method_descriptor"))(n:uA X id r)(p:PE X o to)
  (d:attributeBase o name X.env (eval o X.env)=eval o X.env:=by rfl) (f:(apos.endLine==cpos.line)=true:=by rfl):PE X (.Call (.Attribute o name apos) [] [] cpos) (xk X.K T r to):=by
 intro c s j H Q I h;refine wpAny_Call_method0_late d f<|aP (p c s j H _ I h) λv q u=>?_
 obtain ⟨x,w,k,l,y,z⟩:=u;obtain ⟨A,B⟩:=BF k l y;exact ⟨T,id,m,g,i,A,B,NZ rfl<|PySem.evalArgs_none<|n c q j w x [] v [] Q k l .nil z⟩
def qV (q:PlainAttrs T)(i:Slot T name id)(k:typeOf (.builtin id)=pure (.type "method_descriptor"))(u:uA X id r)(w:PE X o to)(y:PA X (e::es) t)
  (f:attributeBase o name X.env (eval o X.env)=eval o X.env:=by rfl)
  (j:((backTo cpos (starEach (e::es) X.env)).all (λx=> !x.1)&&(backToKw cpos (keywordEach [] X.env)).all (λx=>x.1.isSome)
   &&decide ((e::es).length+([]:List Keyword).length+(if ([]:List Keyword).isEmpty then 0 else 1)<30))=true:=by rfl)
  (g:(apos.endLine==cpos.line)=true:=by rfl) (z:starEach (e::es) X.env=(false,eval e X.env)::starEach es X.env:=by rfl) (d:(backTo cpos (starEach es X.env)).any (·.1)=false:=by rfl):
  PE X (.Call (.Attribute o name apos) (e::es) [] cpos) (nq X.K T r to t):=by
 intro c s l H Q I h;refine wpAny_Call_method_late f j g rfl<|aP (w c s l H _ I h) λv A B=>?_
 obtain ⟨x,C,m,n,E,G⟩:=B;obtain ⟨J,L⟩:=BF m n E;refine ⟨T,id,q,i,k,J,L,?_⟩;have p:=y cpos c A l C _ m G;rw [z] at p⊢;refine NZ (by show (false||(backTo cpos<|starEach es X.env).any (·.1))=false;rw [d]<;>rfl)<|PJ ?_;exact aP p λM N O=>by obtain ⟨U,Y,I2,r2,q2⟩:=O;exact u c N l Y x U v M Q I2 n r2 q2
end
end L2
namespace L2
open PySem PySem.Spec PyProof.Rows
def uX (X:Cx)(id:String)(r:V->List V->Hp->VK->Prop):Prop:=
 ∀(pins:List (Addr×Obj)) (s:Shared) (σ:St) (H:Hp) (x:V) (xs:List V) (v:Value) (us:List Value) (Q:VK),Inv X pins σ H s->RelV x v->be xs us->r x xs H Q->
  wpAny (model X.prog X.w) X.A (call (.builtin id) (v::us)) (EP X pins σ Q) X.xe s
def be.one:∀{x:V} {a:List Value},be [x] a->∃u,a=[u]/\RelV x u
 |_,_,.cons r .nil=>⟨_,rfl,r⟩
def be.two:∀{x y:V} {a:List Value},be [x,y] a->∃u v,a=[u,v]/\RelV x u/\RelV y v
 |_,_,_,.cons r (.cons q .nil)=>⟨_,_,rfl,r,q⟩
def be.zero:∀{a:List Value},be [] a->a=[]
 |_,.nil=>rfl
theorem be.dropLast(h:be a b):be a.dropLast b.dropLast:=by
 induction h with
 |nil=>exact .nil
 |cons r t c=>
  cases t with
  |nil=>exact .nil
  |cons q d=>exact .cons r c
def FT(l:List c):l.eraseIdx (l.length-1)=l.dropLast:=by
 induction l with
 |nil=>rfl
 |cons a r d=>
  cases r with
  |nil=>rfl
  |cons b r=>
   have e:(a::b::r).length-1=((b::r).length-1)+1:=by
    have f:(a::b::r).length=r.length+2:=rfl;have g:(b::r).length=r.length+1:=rfl;omega
   rw [e,List.eraseIdx_cons_succ,d]
   all_goals rfl
section
variable {X:Cx}{pins:List (Addr×Obj)}{σ:St}{H:Hp}{s:Shared}{l b:Addr}{xs ys zs:List V}
def Inv.vK{a its':List Value}{f:Array Value->Array Value}(I:Inv X pins σ H s)(d:H l=some (.lst xs))
  (e:s.heap.get? l=some {cls:=.type "list",data:=.seq a.toArray n}) (g:f a.toArray=its'.toArray) (h:be ys its') (i:ys.length<=sizeLine):
  Inv X pins σ (upd H l (.lst ys)) {s with heap:=s.heap.update l (Obj.mapSeq f),toks:=c}:=by
 have q:=PySem.IsL.update e f;rw [g] at q;refine I.write (x:=l) (e:=l) (by rw [d];exact trivial) (.inl rfl) (λm u j k=>(NG s.heap (Obj.mapSeq f)<|M6 j).trans k) ⟨_,q⟩ ?_;exact ⟨i,its',_,h,q⟩
def Inv.LJ(I:Inv X pins σ H s)(c:be ys a)(d:ys.length<=sizeLine):
  Inv X pins σ (upd H s.heap.objs.size (.lst ys)) {s with heap:=s.heap.push {cls:=.type "list",data:=.seq a.toArray},toks:=t'}:=
 I.laid (λ_ _ q=>Mf _ q) (Mh _) ⟨d,a,0,c,Mz _ rfl⟩
theorem Inv.fresh (I:Inv X pins σ H s):H s.heap.objs.size=none:=I.aA.fresh<|Mh _
def Inv.nK (I:Inv X pins σ H s)(c:H l=some (.lst xs)):xs.length<=sizeLine/\∃(a:List Value) (n:Nat),be xs a/\xs.length=a.length/\s.heap.get? l=some {cls:=.type "list",data:=.seq a.toArray n}:=by
 obtain ⟨z,a,n,r,e⟩:=I.aA l _ c;exact ⟨z,a,n,r,r.length,e⟩
def wu(h:n<=sizeLine):Builtin.List.listTooLong n=false:=by
 unfold Builtin.List.listTooLong;exact MH Z4
end
section
variable {X:Cx}
def nJ:V->List V->Hp->VK->Prop:=λx vs H Q=>∃l xs y,x=.ref l/\vs=[y]/\H l=some (.lst xs)/\xs.length<sizeLine/\Q .av (upd H l (.lst (xs++[y])))
def zG:uX X "list.append" nJ:=by
 intro b s i H x j v k Q I d f h;obtain ⟨l,m,y,rfl,rfl,c,o,q⟩:=h;cases d;obtain ⟨u,rfl,g⟩:=f.one;obtain ⟨z,a,n,r,p,e⟩:=I.nK c;refine QW F.slot_list_append ⟨_,e,rfl⟩ F.entry_list_append (F.args_list_append_2 _ _) (PySem.list_append l a.toArray n u (by rw [Mw];omega)) ⟨e,?_⟩;refine ⟨.av,_,I.vK (its':=a++[u]) c e Z8 (r.append (.cons g .nil)) ?_,rfl,q⟩;rw [Mv,Nv];omega
def Ce:V->List V->Hp->VK->Prop:=λx vs H Q=>∃l b xs zs,x=.ref l/\vs=[.ref b]/\H l=some (.lst xs)/\H b=some (.lst zs)/\xs.length+zs.length<=sizeLine/\Q .av (upd H l (.lst (xs++zs)))
def u3:uX X "list.extend" Ce:=by
 intro g s A H x B v C Q I j k h;obtain ⟨l,b,E,G,rfl,rfl,i,m,J,q⟩:=h;cases j;obtain ⟨u,rfl,o⟩:=k.one;cases o;obtain ⟨z,c,n,r,L,e⟩:=I.nK i;obtain ⟨M,a,p,t,w,y⟩:=I.nK m;have f:c.toArray.size+a.toArray.size<=sizeLine:=by rw [Mw,Mw];omega
 have d:¬(!c.toArray.isEmpty&&Builtin.List.listTooLong (c.toArray.size+a.toArray.size))=true:=by
  rw [wu f,QO];exact Mm
 refine QW Ov ⟨_,e,rfl⟩ F.entry_list_extend (F.args_list_extend_2 _ _)
  (AutoSeq1.list_extend_list_list_0 l c.toArray n b a.toArray p d (by rw [Mw];omega) Z4) ⟨e,y,?_⟩
 refine ⟨.av,_,I.vK (its':=c++a) i e Z8 (r.append t) ?_,rfl,q⟩;rw [Mv];omega
def JI:V->List V->Hp->VK->Prop:=λx vs H Q=>∃l xs y,x=.ref l/\vs=[]/\H l=some (.lst xs)/\xs[xs.length-1]?=some y/\Q y (upd H l (.lst xs.dropLast))
def Io:uX X "list.pop" JI:=by
 intro d s p H x t v w Q I g i h;obtain ⟨l,A,y,rfl,rfl,f,j,q⟩:=h;cases g;have b:=i.zero;subst b;obtain ⟨z,a,n,r,k,e⟩:=I.nK f;obtain ⟨u,m,o⟩:=r.get j;have c:a.toArray[a.toArray.size-1]?=some u:=by
  show a.toArray[a.length-1]?=some u;rw [<-QL,<-k];exact m
 refine QW F.slot_list_pop ⟨_,e,rfl⟩ F.entry_list_pop (F.args_list_pop_1 _) (MeetsSeq.list_pop_last l a.toArray n u c (by rw [Mw];omega)) ⟨e,?_⟩;refine ⟨y,_,I.vK (its':=a.dropLast) f e ?_ r.dropLast ?_,o,q⟩
 .show a.toArray.eraseIdxIfInBounds (a.toArray.size-1)=a.dropLast.toArray;rw [Mw,List.eraseIdxIfInBounds_toArray,FT]
 .rw [List.length_dropLast]
  omega
def BR:R2:=λx y H Q=>∃l b xs zs,x=.ref l/\y=.ref b/\H l=some (.lst xs)/\H b=some (.lst zs)/\xs.length+zs.length<=sizeLine/\∀p,H p=none->Q (.ref p) (upd H p (.lst (xs++zs)))
def m9:cO X (binaryOp .Add) BR:=by
 intro d s t H x y v u Q I f g h;obtain ⟨l,b,w,A,rfl,rfl,i,j,B,q⟩:=h;cases f;cases g;obtain ⟨z,c,n,r,C,e⟩:=I.nK i;obtain ⟨E,a,G,k,m,o⟩:=I.nK j;refine PySem.P.add_list e o ?_ (by rw [Mw,Mw];omega);have p:c.toArray++a.toArray=(c++a).toArray:=by simp
 rw [p];exact ⟨.ref _,_,I.LJ (t':=s.toks) (r.append k) (by rw [Mv];omega),rfl,q _ I.fresh⟩
end
section
variable {prog:Program}{w:World}{A:Around}{E:Value->Shared->Prop}{s:Shared}
def GD {a c n:Nat}(b:a<=c)(f:c<=n):sliceBounds (some (a:Int)) (some (c:Int)) none n=((a:Int),(c:Int),1):=by
 simp only [sliceBounds,Qv];have d:¬((a:Int)<0):=by omega
 have e:¬((c:Int)<0):=by omega
 simp only [d,e,Qu,show (1:Int)>0 by decide,O3];congr 1
 .omega
 .congr 1;omega
set_option maxRecDepth 100000 in
def L1{n I:Nat}{a c:Nat}{Q:Unit->Shared->Prop}
  (e:s.heap.get? l=some {cls:=.type "list",data:=.seq d n}) (H:s.heap.get? b=some {cls:=.type "list",data:=.seq g I}) (y:l≠b)
  (J:s.heap.IsSliceOf q u v .none) (L:IsPart u (some (a:Int))) (M:IsPart v (some (c:Int))) (z:a<=c) (N:c<=d.size)
  (k:d.size+g.size<=sizeLine) (h:Q () {s with heap:=s.heap.update l (Obj.mapSeq λi=>i.extract 0 a++g++i.extract c i.size)}):
  wpAny (model prog w) A (setItem (.ref l) (.ref q) (.ref b)) Q E s:=by
 have B:s.heap.IsList l d:=PySem.IsL.isList e;have O:s.heap.IsList b g:=PySem.IsL.isList H;obtain ⟨os,j,C,o⟩:=id J;have r:s.TypeIs (.ref q) "slice":=⟨os,j,C⟩
 have p:¬((rawPart none==rawInt 0)=true):=Mm;have f:Builtin.List.listSameRef (.ref l) (.ref b)=false:=by
  unfold Builtin.List.listSameRef;exact Nl.mpr y
 have t:(max (a:Int) (c:Int)).toNat=c:=by omega
 have G:((λi:Array Value=>i.extract 0 a++g++i.extract c i.size) d).size<=sizeLine+1:=by
  simp only [Array.size_append,Array.size_extract];omega
 unfold setItem
 try with_reducible refine NQ ?_
 first|refine L9 (Mt ?_)|skip
 refine L9<|wpAny_sequenceKey B.typeIs Z1 ?_
 refine L9 (Np (name:=Str.ofString "__setitem__") B.typeIs slot_list_setitem
  (Oq slot_list_setitem B.typeIs entry_list_setitem ?_ (args_list_setitem _ _ _)))
 show wpAny _ _ (Builtin.List.listSubscript? (.ref q)>>=_) _ _ s;refine L9 ?_;unfold Builtin.List.listSubscript?;refine L9<|wpAny_specialOf r slice_no_index ?_
 simp only [Option.isNone_none,O3];refine Mt ?_;show wpAny _ _ (typeOf (.ref q)>>=_) _ _ s;refine L9<|P4 r ?_
 first
  |rw [Mj Z1]
  |refine Qa Z1 ?_
 rw [listSliceParts_eq];refine L9<|L9<|Nh j o (x:=.none) rfl<|L9<|QP .none ?_
 rw [Mj p];refine L9<|Nh j o (x:=u) rfl<|L9<|QP L ?_
 refine L9<|Nh j o (x:=v) rfl<|L9<|QP M<|Mt ?_
 first
  |simp only [f,Qb,Qu]
  |refine Qa f ?_
  |(dsimp only
    rw [Mj (by rw [f];exact Mm)])
 refine L9 (m:=Builtin.List.listAllItems (.ref b) "must assign iterable to extended slice") ?_;unfold Builtin.List.listAllItems;refine L9<|P4 O.typeIs ?_
 first
  |refine W.KFB.if_so Z1 ?_
  |rw [Mp Z1]
  |simp only [Px,Bool.true_or,O3]
 unfold Builtin.List.listItems;refine L9<|Nj H rfl<|Mt ?_
 refine L9<|L9<|Nj e rfl<|Mt ?_
 refine L9<|QQ ((sliceIndices_raw (some (a:Int)) (some (c:Int)) none d.size Z8).trans<|M7 (pure:Int×Int×Int->Sem (Int×Int×Int))<|GD z N) ?_
 show wpAny _ _ (if ((1:Int)==1)=true then _ else _) _ _ s;rw [Mp Z1];refine L9<|Pd ?_
 first
  |simp only [wu k,Qb,Qu]
  |refine Qa (wu k) ?_
 first|refine L9 (Mt ?_)|skip
 show wpAny _ _ (updateSeq l (λi=>i.extract 0 ((a:Int)).toNat++g++i.extract (max (a:Int) (c:Int)).toNat i.size)>>=_) _ _ s;rw [t,Od];refine L9<|PU (hz:=MF (Nb _ _) k) (_hz':=G) e rfl ?_
 refine L9<|OJ ?_
 first
  |exact L9<|Mt<|Mt ⟨.none,rfl,Mt h⟩
  |exact Mt ⟨.none,rfl,Mt h⟩
end
section
variable {X:Cx}
end
end L2
namespace L2
open PySem PySem.Spec PyProof.Rows
section
variable {κ:Type} [DecidableEq κ]
def br (kvs:List (κ×V))(k:κ):Option V:=(kvs.find? λkv=>decide (kv.1=k)).map (·.2)
def cf (kvs:List (κ×V))(k:κ)(v:V):List (κ×V):=
 if (kvs.any λkv=>decide (kv.1=k))=true then kvs.map (λkv=>if kv.1=k then (kv.1,v) else kv) else kvs++[(k,v)]
def ge{p:κ×V}(e:p.1=k):br (p::r) k=some p.2:=by simp [br,Nk,e]
def gk{p:κ×V}(e:¬p.1=k):br (p::r) k=br r k:=by simp [br,Nk,e]
theorem kI (k:κ):∀a:List (κ×V),(a.any λb=>decide (b.1=k))=(br a k).isSome
 |[]=>rfl
 |p::r=>by
  rw [Pz];by_cases e:p.1=k
  .simp only [ge e,My e,Bool.true_or,Option.isSome_some]
  .rw [gk e,MH e,Bool.false_or];exact kI k r
theorem AW (k j:κ)(y:V):∀a:List (κ×V),br (a.map λb=>if b.1=k then (b.1,y) else b) j=(br a j).map λx=>if j=k then y else x
 |[]=>rfl
 |p::r=>by
  have c:=AW k j y r;rw [MW];by_cases h:p.1=k
  .rw [Mp h]
   by_cases e:p.1=j
   .rw [ge (p:=(p.1,y)) e,ge e,O4,Mp<|e.symm.trans h]
   .rw [gk (p:=(p.1,y)) e,gk e,c]
  .rw [Mj h]
   by_cases e:p.1=j
   .rw [ge (p:=p) e,ge e,O4,Mj λz=>h<|e.trans z]
   .rw [gk (p:=p) e,gk e,c]
theorem yN (k j:κ)(y:V):∀a:List (κ×V),br a k=none->br (a++[(k,y)]) j=if j=k then some y else br a j
 |[],_=>by
  by_cases e:k=j
  .rw [Mp e.symm];exact ge (p:=(k,y)) e
  .rw [Mj λz=>e z.symm];exact gk (p:=(k,y)) e
 |p::r,b=>by
  rw [PL];have c:¬p.1=k:=λz=>by rw [ge z] at b;cases b
  rw [gk c] at b;have d:=yN k j y r b;by_cases e:p.1=j
  .rw [ge e,ge e,Mj λz=>c<|e.trans z]
  .rw [gk e,gk e,d]
def xf (b:List (κ×V))(k j:κ)(y:V):br (cf b k y) j=if j=k then some y else br b j:=by
 unfold cf;by_cases a:(b.any λc=>decide<|c.1=k)=true
 .rw [Mp a,AW]
  rw [kI] at a;by_cases e:j=k
  .obtain ⟨x,d⟩:=Qo.mp a;rw [Mp e,e,d,O4,Mp rfl]
  .rw [Mj e]
   cases br b j with
   |none=>rfl
   |some x=>rw [O4,Mj e]
 .rw [Mj a]
  refine yN k j y b ?_;rw [kI] at a;cases q:br b k with
  |none=>rfl
  |some x=>rw [q] at a;exact (a rfl).elim
def mT (a:List (κ×V))(k:κ)(v:V):(cf a k v).length<=a.length+1:=by
 unfold cf;split
 .rw [Md];omega
 .rw [Mv,MN,N6];omega
def wI {a:List (κ×V)}{k:κ}(v:V)(h:br a k=none):cf a k v=a++[(k,v)]:=by
 unfold cf;rw [kI,h];exact Mj Z1
def ee.pU(r:ee o u):o.isSome=u.isSome:=by
 cases o with
 |none=>cases u with
  |none=>rfl
  |some _=>exact (show False from r).elim
 |some _=>cases u with
  |none=>exact (show False from r).elim
  |some _=>rfl
theorem ee.getD(r:ee o u)(b:RelV d a):RelV (o.getD d) (u.getD a):=by
 cases o with
 |none=>cases u with
  |none=>exact b
  |some _=>exact (show False from r).elim
 |some _=>cases u with
  |none=>exact (show False from r).elim
  |some _=>exact r
def KV.val(r:KV a f)(k:κ):ee (br a k) (valueAt f k):=by
 unfold KV at r;induction r with
 |nil=>exact True.intro
 |@cons p q l c h t i=>
  obtain ⟨g,j⟩:=h;by_cases e:p.1=k
  .have d:q.1=k:=g.symm.trans e;have b:valueAt (q::c) k=some q.2:=by simp [valueAt,Nk,d]
   rw [ge e,b];exact j
  .have d:¬q.1=k:=λz=>e (g.trans z);have b:valueAt (q::c) k=valueAt c k:=by simp [valueAt,Nk,d]
   rw [gk e,b];exact i
theorem KV.any(r:KV a c)(k:κ):(a.any λb=>decide (b.1=k))=c.any λb=>decide (b.1=k):=by
 unfold KV at r;induction r with
 |nil=>rfl
 |cons h t d=>rw [Pz,Pz,d,h.1]
def KV.mO(r:KV b d)(k:κ)(f:RelV y u):
  KV (b.map λa=>if a.1=k then (a.1,y) else a) (d.map λa=>if a.1=k then (a.1,u) else a):=by
 unfold KV at r⊢;induction r with
 |nil=>exact .nil
 |@cons p q j l h t g=>
  rw [MW,MW];refine .cons ?_ g;obtain ⟨c,i⟩:=h;by_cases e:p.1=k
  .rw [Mp e,Mp<|c.symm.trans e];exact ⟨c,f⟩
  .rw [Mj e,Mj λz=>e<|c.trans z];exact ⟨c,i⟩
def KV.put(r:KV a b)(k:κ)(c:RelV y u):KV (cf a k y) (stored b k u):=by
 unfold cf stored;rw [r.any k];by_cases e:(b.any λd=>decide<|d.1=k)=true
 .rw [Mp e,Mp e];exact r.mO k c
 .rw [Mj e,Mj e];exact Paired.snoc r ⟨rfl,c⟩
theorem KV.length(r:KV a b):a.length=b.length:=N3 r
end
def kB(r:RelV (kV k) u):(dw P w).is k u=true:=by
 cases k with
 |inl i=>obtain ⟨t,e⟩:=(show∃t,u=Value.int i t from r);subst e;exact JR P w i t
 |inr x=>obtain ⟨t,e⟩:=(show∃t,u=Value.str x t from r);subst e;exact Ja P w x t
theorem CB:∀{a:List aM} {b:List Value},be (a.map kV) b->ItemsAre (dw P w) a b
 |[],_,r=>by rw [OR] at r;cases r;exact .nil
 |k::a,_,r=>by
  rw [MW] at r;cases r with
  |cons h t=>exact .cons (kB h)<|CB t
abbrev KT (H:Hp):List (List aM×V)->List (List aM×Addr×Value)->Prop:=Paired λp q=>p.1=q.1/\H q.2.1=some (.tup (p.1.map kV))/\RelV p.2 q.2.2
def KT.val(r:KT H a f)(k:List aM):ee (br a k) ((atKey f k).map (·.2)):=by
 induction r with
 |nil=>exact True.intro
 |@cons p q l c h t i=>
  obtain ⟨g,_,j⟩:=h;by_cases e:p.1=k
  .have d:q.1=k:=g.symm.trans e;have b:atKey (q::c) k=some q.2:=by simp [atKey,Nk,d]
   rw [ge e,b];exact j
  .have d:¬q.1=k:=λz=>e (g.trans z);have b:atKey (q::c) k=atKey c k:=by simp [atKey,Nk,d]
   rw [gk e,b];exact i
def KT.mO(r:KT H a d)(k:List aM)(g:RelV y u):
  KT H (a.map λc=>if c.1=k then (c.1,y) else c) (d.map (putAt k u)):=by
 induction r with
 |nil=>exact .nil
 |@cons p q l m h t i=>
  rw [MW,MW];refine .cons ?_ i;obtain ⟨b,f,j⟩:=h;unfold putAt;by_cases e:p.1=k
  .rw [Mp e,Mp<|b.symm.trans e];exact ⟨b,f,g⟩
  .rw [Mj e,Mj λz=>e<|b.trans z];exact ⟨b,f,j⟩
def KT.put(r:KT H a c)(k:List aM)(f:H b=some (.tup (k.map kV)))(d:RelV y u):
  KT H (cf a k y) (storedH c k b u):=by
 have e:(a.any λg=>decide<|g.1=k)=(atKey c k).isSome:=by
  rw [kI,(r.val k).pU,Pm]
 unfold cf storedH;rw [e];by_cases q:(atKey c k).isSome=true
 .rw [Mp q,Mp q];exact r.mO k d
 .rw [Mj q,Mj q];exact Paired.snoc r ⟨rfl,f,d⟩
def KT.keeps{c:Hp}(r:KT H a d)(f:∀b e,H b=some (.tup e)->c b=some (.tup e)):KT c a d:=
 Paired.we r λ_ _ z=>⟨z.1,f _ _ z.2.1,z.2.2⟩
section
variable {P:Program}{w:World}{H:Hp}{h:Heap}{a:Addr}
def AV(b:cZ P w H h)(e:Rd H a u):ca P w H h a u:=e.ok b
def ie(d:cZ P w H h)(e:Rd H a (.dK b)):b.length<=sizeLine/\(a==sysModules)=false/\∃c,KV b c/\h.DictOf (dw P w) a c:=
 show ca P w H h a (.dK b) from AV d e
def zj(d:cZ P w H h)(e:H a=some (.dK b)):b.length<=sizeLine/\(a==sysModules)=false/\∃c,KV b c/\h.DictOf (dw P w) a c:=ie d (.inl e)
def kW {b:List aM}(d:cZ P w H h)(e:H a=some (.tup (b.map kV))):(tupleKind (dw P w)).is h b a:=by
 obtain ⟨_,c,r,o,f,g,n,i⟩:=(show ca P w H h a (.tup<|b.map kV) from d a _ e)
 exact ⟨o,c.toArray,n,f,g,i,by simpa using CB r⟩
def kF(f:cZ P w H h)(e:Rd H a (.dT b)):b.length<=sizeLine/\(a==sysModules)=false/\
  ∃d,KT H b d/\h.DictOfH (tupleKind (dw P w)) a d:=by
 obtain ⟨z,y,d,r,o,i,j,k,n,s,u,v⟩:=(show ca P w H h a (.dT b) from AV f e)
 refine ⟨z,y,d,r,o,i,j,k,n,s,u,λx c=>?_,v⟩;have all:∀{l:List (List aM×V)} {m:List (List aM×Addr×Value)},KT H l m->∀x∈m,(tupleKind<|dw P w).is h x.1 x.2.1:=by
  intro l m q;induction q with
  |nil=>intro x c;exact nomatch c
  |@cons p q B C g t A=>
   intro x c;rcases Mn.mp c with e|c
   .subst e;exact kW f (by rw [<-g.1];exact g.2.1)
   .exact A x c
 exact all r x c
def CG(d:cZ P w H h)(e:H a=some (.dT b)):b.length<=sizeLine/\(a==sysModules)=false/\
  ∃c,KT H b c/\h.DictOfH (tupleKind (dw P w)) a c:=kF d (.inl e)
end
def c6 (H:Hp)(a:Addr)(y:V)(r:Option V):Prop:=
 (∃kvs k,Rd H a (.dK kvs)/\y=kV k/\r=br kvs k)\/∃kvs k b,Rd H a (.dT kvs)/\y=.ref b/\H b=some (.tup (k.map kV))/\r=br kvs k
def gi (H:Hp)(a:Addr)(y v:V)(H':Hp):Prop:=
 (∃kvs k,H a=some (.dK kvs)/\y=kV k/\kvs.length<sizeLine/\H'=upd H a (.dK (cf kvs k v)))\/
 ∃kvs k b,H a=some (.dT kvs)/\y=.ref b/\H b=some (.tup (k.map kV))/\kvs.length<sizeLine/\H'=upd H a (.dT (cf kvs k v))
theorem c6.k {H:Hp}{a:Addr}{b:List (aM×V)}{k:aM}(e:H a=some (.dK b)):c6 H a (kV k) (br b k):=.inl ⟨b,k,.inl e,rfl,rfl⟩
def c6.t{H:Hp}{k:List aM}(e:H a=some (.dT c))(d:H b=some (.tup (k.map kV))):c6 H a (.ref b) (br c k):=.inr ⟨c,k,b,.inl e,rfl,d,rfl⟩
theorem gi.k {H:Hp}{a:Addr}{b:List (aM×V)}{k:aM}{v:V}(e:H a=some (.dK b))(c:b.length<sizeLine):gi H a (kV k) v (upd H a (.dK (cf b k v))):=.inl ⟨b,k,e,rfl,c,rfl⟩
def gi.t{H:Hp}{k:List aM}(e:H a=some (.dT c))(d:H b=some (.tup (k.map kV)))(f:c.length<sizeLine):
  gi H a (.ref b) v (upd H a (.dT (cf c k v))):=.inr ⟨c,k,b,e,rfl,d,f,rfl⟩
section
variable {X:Cx}{pins:List (Addr×Obj)}{σ:St}{H:Hp}{s:Shared}{a:Addr}{y v:V}{u r:Value}{o:Option V}{A:Around}{E:Value->Shared->Prop}
def Inv.sU (I:Inv X pins σ H s):sysModules<s.heap.objs.size:=by
 have h:mainGlobals<s.heap.objs.size:=(I.mod.glob.keeps I.bk).lt;exact Nat.lt_trans Z1 h
def Il {Q:ZT}(x:A.units+1<cLine)(I:Inv X pins σ H s)(g:c6 H a y (some v))(q:RelV y u)(h:∀d t,Inv X pins σ H t->RelV v d->Q d t):
  wpAny (model X.prog X.w) A (getItem (.ref a) u) Q E s:=by
 rcases g with ⟨f,k,e,i,l⟩|⟨f,k,b,e,i,B,l⟩
 .subst i;obtain ⟨z,C,G,bE,j⟩:=ie I.aA e;obtain ⟨d,m,c⟩:=ee.some_of (v:=v) (o:=valueAt G k) (by rw [l];exact bE.val k);exact wpAny_getItem_of (kB q) j.mapOf m<|h d _ (I.tok _) c
 .subst i;cases (show u=Value.ref b from q);obtain ⟨z,C,J,bE,j⟩:=kF I.aA e;obtain ⟨d,m,c⟩:=ee.some_of (v:=v) (o:=(atKey J k).map (·.2)) (by rw [l];exact bE.val k);obtain ⟨p,L,n⟩:=M8.mp m;refine wpAny_getItem_heap (NM x) (kW I.aA B) j L ?_;rw [n];exact h d _ (I.tok _) c
def G2 {Q:ZT}(n:A.units+1<cLine)(I:Inv X pins σ H s)(g:c6 H a y o)(j:RelV y u)(h:∀m,Inv X pins σ H m->Q (.bool o.isSome) m):
  wpAny (model X.prog X.w) A (compareOp .In u (.ref a)) Q E s:=by
 rcases g with ⟨c,k,e,d,l⟩|⟨c,k,b,e,d,p,l⟩
 .subst d;obtain ⟨z,f,t,bE,i⟩:=ie I.aA e;refine wpAny_in_of (kB j) f i.mapOf ?_;rw [<-(bE.val k).pU,<-l];exact h _<|I.tok _
 .subst d;cases (show u=Value.ref b from j);obtain ⟨z,f,x,bE,i⟩:=kF I.aA e;refine wpAny_in_heap (NM n) (kW I.aA p) f i ?_;have q:=(bE.val k).pU;rw [Pm] at q;rw [<-q,<-l];exact h _<|I.tok _
def Hg {Q:ZT}(n:A.units+1<cLine)(I:Inv X pins σ H s)(g:c6 H a y o)(j:RelV y u)(h:∀m,Inv X pins σ H m->Q (.bool (!o.isSome)) m):
  wpAny (model X.prog X.w) A (compareOp .NotIn u (.ref a)) Q E s:=by
 rcases g with ⟨c,k,e,d,l⟩|⟨c,k,b,e,d,p,l⟩
 .subst d;obtain ⟨z,f,t,bE,i⟩:=ie I.aA e;refine wpAny_notIn_of (kB j) f i.mapOf ?_;rw [<-(bE.val k).pU,<-l];exact h _<|I.tok _
 .subst d;cases (show u=Value.ref b from j);obtain ⟨z,f,x,bE,i⟩:=kF I.aA e;refine wpAny_notIn_heap (NM n) (kW I.aA p) f i ?_;have q:=(bE.val k).pU;rw [Pm] at q;rw [<-q,<-l];exact h _<|I.tok _
def qJ(I:Inv X pins σ H s)(h:pq (H a))(i:Heap.SameBut a s.heap c)(j:∃q,c.get? a=some q)(f:ca X.prog X.w (upd H a d) c a d):
  Inv X pins σ (upd H a d) {s with heap:=c,toks:=g}:=
 I.write (x:=a) (e:=a) h (.inl rfl) (λb q k z=>(i.2 b k).trans z) j f
def rD{d:Heap}{b:List (aM×V)}(z:b.length<=sizeLine)(f:(a==sysModules)=false)(bE:KV b c)(g:d.DictOf (dw P w) a c):
  ca P w e d a (.dK b):=⟨z,f,c,bE,g⟩
def Ii{Q:Unit->Shared->Prop}(T:A.units+1<cLine)(I:Inv X pins σ H s)(g:gi H a y v C)(G:RelV y u)(J:RelV v r)(h:∀L,Inv X pins σ C L->Q () L):
  wpAny (model X.prog X.w) A (setItem (.ref a) u r) Q E s:=by
 rcases g with ⟨d,k,e,j,l,m⟩|⟨d,k,b,e,j,M,l,m⟩
 .subst j m;obtain ⟨z,n,U,bE,p⟩:=zj I.aA e;have t:U.length<=sizeLine:=by rw [<-bE.length];exact z
  have x:(cf d k v).length<=sizeLine:=by have:=mT d k v;omega
  refine wpAny_setItem_pairs (hsz:=t) (kB G) p λN f B=>h _ ?_;have Y:∃q,N.get? a=some q:=let ⟨q,_,_,i,_⟩:=f;⟨q,i⟩;exact qJ I (by rw [e];exact True.intro) B Y<|rD x n (bE.put k J) f
 .subst j m;cases (show u=Value.ref b from G);obtain ⟨z,n,xs,bE,p⟩:=CG I.aA e;have t:xs.length<=sizeLine:=by rw [<-N3 bE];exact z
  have x:(cf d k v).length<=sizeLine:=by have:=mT d k v;omega
  refine wpAny_setItem_heap (hsz:=t) (NM T) (kW I.aA M) p λN f B=>h _ ?_;obtain ⟨q,es,ep,i,h2,h3,h4,_,h5⟩:=f;refine qJ I (by rw [e];exact True.intro) B ⟨q,i⟩ ⟨x,n,_,(bE.put k M J).keeps λc ys O=>?_,q,es,ep,i,h2,h3,h4,h5⟩;rw [aD<|zZ O e λz=>nomatch z];exact O
end
section
variable {X:Cx}{pins:List (Addr×Obj)}{σ:St}{H:Hp}{s:Shared}{a:Addr}{kvs:List (aM×V)}{k:aM}{u:Value}{A:Around}{E:Value->Shared->Prop}
def LV {Q:ZT}(I:Inv X pins σ H s)(e:Rd H a (.dK kvs))(h:∀t b,Inv X pins σ H b->Q (.int kvs.length t) b):wpAny (model X.prog X.w) A (call (.builtin "len") [.ref a]) Q E s:=by
 obtain ⟨z,c,f,bE,d⟩:=ie I.aA e;refine call_len_dict c d (by rw [<-bE.length];rw [Qj] at z;omega) ?_;rw [<-bE.length];exact h _ _<|I.tok _
end
def yA (i:Expr):Prop:=∀ov iv,subscripted i false ov iv=operate [ov,iv] (getItem ov iv)
def IM{id:String}
  (q:typeLookup (.type T) "__getitem__"=pure (some (.builtin id))) (t:yA b)
  (h:wpAny (model a w) A (eval c j) (λo f=>wpAny (model a w) A (eval b j) (λi d=>d.TypeIs o T/\wpAny (model a w) A (getItem o i) Q E d) E f) E s):
  wpAny (model a w) A (eval (.Subscript c b n) j) Q E s:=by
 refine Subscript_<|NB h (λo f l=>NB l (λi d e=>?_) λ_ _ x=>x) λ_ _ x=>x
 obtain ⟨p,e⟩:=e;unfold subscriptTail;refine L9 ?_;rw [getitemInPython_of_ne p.not_modules];refine L9<|wpAny_specialOf p q ?_;have k:wpAny (model a w) A (subscripted b false o i) (λr g=>wpAny (model a w) A (letTemporaryGo c o r>>=λ_=>pure r) Q E g) E d:=by
  rw [t o i];exact wpAny_operating<|NB e (λr g m=>L9<|wpAny_letTemporaryGo<|Mt m) λ_ _ x=>x
 first
  |exact Mt<|L9 k
  |exact L9<|Mt<|L9 k
  |exact L9 k
def Ef(I:Inv X c h H s)(g:c6 H a y o):s.TypeIs (.ref a) "dict":=by
 rcases g with ⟨d,k,e,_,_⟩|⟨d,k,b,e,_,_,_⟩
 .obtain ⟨_,_,i,_,f⟩:=ie I.aA e;exact f.typeIs
 .obtain ⟨_,_,j,_,f⟩:=kF I.aA e;exact f.typeIs
def A3 (td ty:TE):TE:=λσ H Q=>td σ H λx H1=>ty σ H1 λy H2=>∃a v,x=.ref a/\c6 H2 a y (some v)/\Q v H2
def qc (ty td:TE):TE:=λσ H Q=>ty σ H λy H1=>td σ H1 λx H2=>∃a o,x=.ref a/\c6 H2 a y o/\Q (.bl o.isSome) H2
def nP (ty td:TE):TE:=λσ H Q=>ty σ H λy H1=>td σ H1 λx H2=>∃a o,x=.ref a/\c6 H2 a y o/\Q (.bl (!o.isSome)) H2
def p9 (td ty tv:TE):TS:=λD σ H=>tv σ H λv H1=>td σ H1 λx H2=>ty σ H2 λy H3=>∃a H4,x=.ref a/\gi H3 a y v H4/\D.nx σ H4
section
variable {X:Cx}{o i e value:Expr}{pos pos' tpos:Pos}{td ty tv:TE}
def zI (j:X.A.units+1<cLine)(k:PE X o td)(l:PE X i ty)(m:yA i):PE X (.Subscript o i pos) (A3 td ty):=by
 intro b s d H Q I h;refine IM PySem.F.slot_dict_getitem.lookup m<|aP (k b s d H _ I h) λu n ⟨x,p,q,r,t⟩=>aP (l b n d p _ q t) λJ L w=>?_
 obtain ⟨y,z,f,B,a,v,C,g,E⟩:=w;subst C;obtain rfl:u=Value.ref a:=r;exact ⟨Ef f g,Il j f g B λM N G c=>⟨v,z,G,c,E⟩⟩
def pr (d:X.A.units+1<cLine)(f:PE X i ty)(j:PE X o td):PC X .In i o (qc ty td):=by
 intro b s c H Q I h;refine aP (f b s c H _ I h) λE k ⟨y,l,m,n,p⟩=>aP (j b k c l _ m p) λu G q=>?_;obtain ⟨x,r,t,v,a,w,z,g,B⟩:=q;subst z;obtain rfl:u=Value.ref a:=v;exact G2 d t g n λJ C=>⟨.bl w.isSome,r,C,rfl,B⟩
def pB (d:X.A.units+1<cLine)(f:PE X i ty)(j:PE X o td):PC X .NotIn i o (nP ty td):=by
 intro b s c H Q I h;refine aP (f b s c H _ I h) λE k ⟨y,l,m,n,p⟩=>aP (j b k c l _ m p) λu G q=>?_;obtain ⟨x,r,t,v,a,w,z,g,B⟩:=q;subst z;obtain rfl:u=Value.ref a:=v;exact Hg d t g n λJ C=>⟨.bl<|!w.isSome,r,C,rfl,B⟩
def lq (d:X.A.units+1<cLine)(f:PE X o td)(j:PE X i ty)(k:PE X value tv)(l:swapsWith value (some (.Subscript o i pos')) pos.line X.env=pure false):
  PS X (.Assign [.Subscript o i pos'] value pos) (p9 td ty tv):=by
 intro b s c H D I h;refine wpAny_Assign_Subscript (aP (k b s c H _ I h) λr m ⟨v,n,p,q,t⟩=>aP (f b m c n _ p t) λu w ⟨x,z,B,C,E⟩=>aP (j b w c z _ B E) λQ T ⟨y,U,G,J,a,L,M,g,N⟩=>?_) l;subst M;obtain rfl:u=Value.ref a:=C;exact Ii d G g J q λY O=>⟨c,L,O,N⟩
end
def Iv(h:Heap)(a:sysModules<h.objs.size):ca P w H (h.push {cls:=.type "dict",data:=.dict #[]}) h.objs.size (.dK []):=
 ⟨MI _,Nl.mpr<|M6<|MM a,[],.nil,Heap.DictOf.new h⟩
def Dv(h:Heap)(a:sysModules<h.objs.size):ca P w H (h.push {cls:=.type "dict",data:=.dict #[]}) h.objs.size (.dT []):=
 ⟨MI _,Nl.mpr<|M6<|MM a,[],.nil,_, #[],0,Mz _ rfl,⟨rfl,rfl,rfl⟩,rfl,rfl,OS⟩
def u8:TE:=λ_ H Q=>∀p,H p=none->Q (.ref p) (upd H p (.dK []))
def vG:TE:=λ_ H Q=>∀p,H p=none->Q (.ref p) (upd H p (.dT []))
section
variable {X:Cx}{pos:Pos}
def pT:PE X (.Dict [] [] pos) u8:=λb s c H Q I h=>
 wpAny_Dict_empty ⟨.ref s.heap.objs.size,_,I.laid (a:=s.heap.objs.size) (o:=.dK []) (t':=s.toks) (λ_ _ q=>Mf _ q) (Mh _)<|Iv s.heap I.sU,rfl,h _<|I.aA.fresh<|Mh _⟩
def t0:PE X (.Dict [] [] pos) vG:=λb s c H Q I h=>
 wpAny_Dict_empty ⟨.ref s.heap.objs.size,_,I.laid (a:=s.heap.objs.size) (o:=.dT []) (t':=s.toks) (λ_ _ q=>Mf _ q) (Mh _)<|Dv s.heap I.sU,rfl,h _<|I.aA.fresh<|Mh _⟩
end
def b9 (kvs more:List (aM×V)):List (aM×V):=more.foldl (λacc kv=>cf acc kv.1 kv.2) kvs
def KV.merge:∀{a:List (aM×V)} {b:List (aM×Value)} {kvs:List (aM×V)} {vs:List (aM×Value)},KV a b->KV kvs vs->KV (b9 kvs a) (merged vs b):=by
 intro a b kvs vs r;unfold KV at r;induction r generalizing kvs vs with
 |nil=>intro q;exact q
 |@cons p q f g h t c=>
  intro d;have e:KV (cf kvs p.1 p.2) (stored vs q.1 q.2):=by
   have:=d.put p.1 h.2;rw [<-h.1];exact this
  exact c e
theorem wc:∀(b a:List (aM×V)),(b9 a b).length<=a.length+b.length
 |[],a=>by show a.length<=a.length+0;omega
 |p::r,a=>by
  have c:=wc r<|cf a p.1 p.2
  have d:=mT a p.1 p.2;show (b9 (cf a p.1 p.2) r).length<=_;rw [MN];omega
structure M2 (X:Cx)(o:Expr)(m:Str)(apos:Pos)(e f:Expr)(cpos:Pos):Prop where
 base:attributeBase o m X.env (eval o X.env)=eval o X.env
 dI:((backTo cpos (starEach [e,f] X.env)).all (fun x=> !x.1)&&(backToKw cpos (keywordEach [] X.env)).all (fun x=>x.1.isSome)
  &&decide (([e,f]:List Expr).length+([]:List Keyword).length+(if ([]:List Keyword).isEmpty then 0 else 1)<30))=true
 line:(apos.endLine==cpos.line)=true
 trees:backTo cpos (starEach [e,f] X.env)=[(false,eval e X.env),(false,eval f X.env)]
def rK (H:Hp)(a:Addr):Prop:=(∃kvs,Rd H a (.dK kvs))\/∃kvs,Rd H a (.dT kvs)
def u0(I:Inv X f l H s)(d:rK H a):
  s.TypeIs (.ref a) "dict"/\(∀b,Value.ref a=.ref b->∃c,s.heap.get? b=some c/\c.dict=none)/\(a==sysModules)=false:=by
 rcases d with ⟨h,e⟩|⟨h,e⟩
 .obtain ⟨_,i,m,_,g⟩:=ie I.aA e;refine ⟨g.typeIs,λb q=>?_,i⟩;cases q;obtain ⟨c,_,_,j,k,_⟩:=g;exact ⟨c,j,k.2.1⟩
 .obtain ⟨_,i,n,_,g⟩:=kF I.aA e;refine ⟨g.typeIs,λb q=>?_,i⟩;cases q;obtain ⟨c,_,_,j,k,_⟩:=g;exact ⟨c,j,k.2.1⟩
section
variable {X:Cx}{pins:List (Addr×Obj)}{σ:St}{H:Hp}{s:Shared}{a:Addr}{y d:V}{u r:Value}{o:Option V}{A:Around}{E:Value->Shared->Prop}
def EQ {Q:ZT}(t:A.units+1<cLine)(I:Inv X pins σ H s)(g:c6 H a y o)(m:RelV y u)(n:RelV d r)(h:∀p q,Inv X pins σ H q->RelV (o.getD d) p->Q p q):
  wpAny (model X.prog X.w) A (call (.builtin "dict.get") [.ref a,u,r]) Q E s:=by
 rcases g with ⟨f,k,e,i,l⟩|⟨f,k,b,e,i,v,l⟩
 .subst i;obtain ⟨z,j,B,bE,c⟩:=ie I.aA e;refine Oy Pt c.typeIs QD (Qw _ _ _) (meets_dict_get_default (dw X.prog X.w) a (kB m) j r) ⟨_,c.mapOf,h _ _ (I.tok _) ?_⟩;rw [l];exact (bE.val k).getD n
 .subst i;cases (show u=Value.ref b from m);obtain ⟨z,j,x,bE,c⟩:=kF I.aA e;refine Oy Pt c.typeIs QD (Qw _ _ _) (meetsH_dict_get_default (tupleKind<|dw X.prog X.w) a b j r) ⟨NM t,k,x,kW I.aA v,c,h _ _ (I.tok _) ?_⟩;rw [l];exact (bE.val k).getD n
end
def pZ (td ty tx:TE):TE:=λσ H Q=>td σ H λx H1=>∃a,x=.ref a/\rK H1 a/\ty σ H1 λy H2=>tx σ H2 λz H3=>∃o,c6 H3 a y o/\Q (o.getD z) H3
section
variable {X:Cx}{o e f:Expr}{apos cpos:Pos}{td ty tx:TE}
def sR (k:X.A.units+1<cLine)(l:PE X o td)(n:PE X e ty)(p:PE X f tx)(m:M2 X o "get" apos e f cpos):PE X (.Call (.Attribute o "get" apos) [e,f] [] cpos) (pZ td ty tx):=by
 intro b s c H Q I h;refine wpAny_Call_method m.base m.dI m.line Ph Pt PySem.F.type_dict_get<|aP (l b s c H _ I h) λu q r=>?_
 obtain ⟨x,t,j,v,a,w,d,B⟩:=r;subst w;obtain rfl:u=Value.ref a:=v;obtain ⟨C,E,_⟩:=u0 j d;refine ⟨C,E,?_⟩;rw [m.trees];refine NZ rfl (PJ (Ox (aP (n b q c t _ j B) λiv G ⟨y,J,L,M,N⟩=>
  Ox (aP (p b G c J _ L N) λfv s3 ⟨z,O,T,U,ov,g,Y⟩=>Ql ?_))))
 exact EQ k T g M U λw' s4 I4 i=>⟨_,O,I4,i,Y⟩
end
section
variable {X:Cx}{pins:List (Addr×Obj)}{σ:St}{H:Hp}{s:Shared}{a:Addr}{kvs:List (aM×V)}{A:Around}{E:Value->Shared->Prop}
end
section
variable {X:Cx}{pins:List (Addr×Obj)}{σ:St}{H:Hp}{s:Shared}{a:Addr}{y:V}{u:Value}{A:Around}{E:Value->Shared->Prop}
end
end L2
namespace AR
open PySem PySem.W PySem.Calls PyProof.Rows
def Eu:∀(c:List Int) (d:List Value),WellAll P h d (c.map WData.int)->IntsAre d c:=by
 intro c;induction c with
 |nil=>
  intro d w;rw [OR] at w;cases w;exact .nil
 |cons n c e=>
  intro d w;rw [MW] at w;cases w with
  |cons a b=>
   cases a;exact .cons _ _<|e _ b
def JS{l:OpenLaw}(s:l.most=some n)
  (e:l.row.toRowW.claim.pre args=true) (k:WellAll P h c args):
  ∃a o b,c=[Value.ref a]/\args=[WData.list (b.map WData.int)]/\h.get? a=some {cls:=.type "list",data:=.seq o.toArray}/\IntsAre o b/\b.length<=n:=by
 have m:WShape.hasAll [] args [.list .int]=true:=(pre_splitW e).1;have p:l.pre.holds [] {args:=args}=true:=(pre_splitW e).2;obtain ⟨d,r,rfl,t,u⟩:=hasAllW_cons m;obtain rfl:=hasAllW_nil u;obtain ⟨A,rfl,v⟩:=hasW_list t;obtain ⟨b,rfl⟩:=items_int v;have f:b.length<=n:=by
  unfold OpenLaw.pre at p;have i:(WTm.not (.lt (.lit (.int (n:Int))) (.len (.arg 0)))).holds [] {args:=[.list<|b.map .int]}=true:=by
   have i:=(holds_andW p).1;rw [s] at i;exact i
  have j:=condW_of i<|w_not<|w_lt w_lit<|w_len_list<|w_arg rfl
  rw [Md] at j;refine MV λq=>?_;have w:(n:Int)<((b.length:Nat):Int):=by omega
  first
   |(rw [My w] at j;exact absurd j Z1)
   |(simp at j;omega)
 cases k with
 |cons x y=>
  cases y;cases x with
  |list z g=>exact ⟨_,_,b,rfl,rfl,z,Eu b _ g,f⟩
def LH (l:OpenLaw)(args:List WData):l.row.toRowW.claim.post args (.bool true) args=true:=
 postW_of (r:=l.row.toRowW) (X:=(true==true))
  (show WShape.has [] (.bool true) .bool=true by first|rfl|decide|simp [WShape.has,WShape.arms,WShape.armsAll])
  (show (WTm.eq .res (.lit (.bool true))).value [] {args:=args,res:=some (.bool true),after:=args}=some (.bool<|true==true) from w_eq_bool (w_res rfl) w_lit) rfl
def Jb{l:OpenLaw}{H:World->Heap->Prop}{d:DefRec}
  (N:l.most=some n) (x:d.params.defaults=[])
  (call:∀(w:World) (e b:Shared) (s y:ZU) (j:Addr) (o:Obj) (z t g:Value) (a:Addr) (i:List Value) (u:List Int),
   Ground q c [] E w e s y b.heap->H w b.heap->
   b.heap.get? j=some o->o.data=.func (docDef d.name d.params d.body d.scope z t g)->b.heap.CodeRec t d.name->s d.name=some (.ref j)->
   b.heap.get? a=some {cls:=.type "list",data:=.seq i.toArray}->IntsAre i u->u.length<=n->b.gens= #[]->
   codeAny (model l.prog w) callerA (.call (.ref j) ⟨[.ref a],[]⟩) (λr v=>r=.ok (.ret (.bool true))/\OldK b.heap v.heap/\v.os=b.os/\AllBare v.gens) b):
  WalkO q c E H l.row.toRowW d [] (λf i=>PySem.call f i):=by
 intro w e b s y G Y j o z t g O kV Q T A I B U J L as k M ac C af;obtain rfl:O=.none:=Dflts.none I x;obtain rfl:kV=.none:=Dflts.noKw I;obtain ⟨a,i,u,rfl,rfl,m,h,p⟩:=JS N k C;refine enter_call<|Pk (call w e b s y j o z t g a i u G Y Q (fd_plain T) A B m h p U) λr v hq=>?_
 obtain ⟨rfl,h2,h3,h4⟩:=hq;exact ⟨.inl ⟨.bool true,.bool true,[],rfl,λ_=>rfl,.bool true,LH l _,λ_=>⟨List.Pairwise.nil,λ_ hm=>(nomatch hm)⟩⟩,h2,h3,h4⟩
section
variable {prog:Program}{w:World}{A:Around}{E:Value->Shared->Prop}{s:Shared}{K:Frag}
end
end AR
namespace L2
open PySem PySem.Spec PyProof.Rows
theorem Az:∀{a:List Value} {b:List Int},IntsAre a b->be (b.map V.int) a
 |_,_,.nil=>.nil
 |_,_,.cons n t h=>.cons ⟨t,rfl⟩<|Az h
def xb (H:Hp):Prop:=∀b,H b=none\/∃o xs,H b=some (.cW o (.lst xs))
def DU{K:W.Frag}{c:Shared}{p:List Value}
  (KX:K.In c.heap) (B:c.heap.Ns mainGlobals y) (g:c.heap.Ns builtinsNs Q) (U:∀x:Str,x≠"__name__"->Q x=bootBuiltins x) (C:c.heap.NoLimit) (hg:c.gens= #[])
  (O:c.heap.get? a=some {cls:=.type "list",data:=.seq p.toArray}) (hi:IntsAre p A) (hl:A.length<=sizeLine) (hr:cT k callerA)
  (F:∀base:Heap,K.In base->base.Ns mainGlobals y->bq P w K y base CX k T fd [x] sp) (t:∀(s:Shared) (u:Value),BindsTo s fd ⟨[u],[]⟩ [(x,u)])
  (Y:∀H:Hp,xb H->aN K H a (A.map V.int)->sp [.ref a] H (λv _=>v=.bl true) λ_ _ _=>False)
  (ac:∀H e i,CX [] H c (λ_ _ _=>False) e i->False):
  codeAny (model P w) callerA (.call (.ref T) ⟨[.ref a],[]⟩) (λr i=>r=.ok (.ret (.bool true))/\OldK c.heap i.heap/\i.os=c.os/\AllBare i.gens) c:=by
 have rv:=Az hi;have E:=hi.length;have l:∀H:Hp,xb H->aN K H a (A.map V.int)->cZ P w H c.heap->(∀b,H b≠none->b=a)->(H a≠none->K.lookup a=none)->
   codeAny (model P w) callerA (.call (.ref T) ⟨[.ref a],[]⟩) (λr i=>r=.ok (.ret (.bool true))/\OldK c.heap i.heap/\i.os=c.os/\AllBare i.gens) c:=by
  intro H hO hS aA hA hK;have f:∀{b:Addr} {o:Obj},c.heap.get? b=some o->H b=none->(kz c.heap H).get? b=some o:=λe n=>Km e n;have af:∀{b:Addr} {o:Obj} {G:Array DictEntry} {I:Nat},c.heap.get? b=some o->o.data=.dict G I->H b=none:=λ{b o G I} e d=>by
   cases q:H b with
   |none=>rfl
   |some u=>
    have e':b=a:=hA b (by rw [q];simp);subst e';rw [O] at e;cases e;have d':Data.seq p.toArray _=Data.dict G I:=d;cases d'
  have j:∀{b:Addr} {m:ZU},c.heap.Ns b m->(kz c.heap H).Ns b m:=λ{b m} q0=>by obtain ⟨o,G,I,e,d,r⟩:=q0;exact ⟨o,G,I,f e<|af e d,d,r⟩
  have J:K.In (kz c.heap H):=λb o e=>f (KX b o e) (by
   cases q:H b with
   |none=>rfl
   |some u=>
    have e':b=a:=hA b (by rw [q];simp);subst e';rw [hK (by rw [q];simp)] at e;cases e)
  have hM:Mod K y (kz c.heap H):=⟨J,j B,⟨Q,j g,U⟩,let ⟨mc,h1,h2⟩:=C;⟨mc,j h1,h2⟩⟩
  have e0:ni P w K y (kz c.heap H) callerA [] c H:=⟨rfl,hM,λb o e=>Dh e,QB<|JU _ _,trivial,λb g=>absurd (show b∈([]:ZX) from g) Z8,aA,.of_eq hg⟩
  refine Pk ((F _ J<|j B).run callerA [] c H ⟨[.ref a],[]⟩ [.ref a] [.ref a] _ _ hr e0 (t c (.ref a)) (.cons rfl .nil)<|Y H hO hS) λr i h=>?_;cases r with
  |error e=>exact (ac H e i h).elim
  |ok fl=>
   cases fl with
   |next=>exact False.elim h
   |brk=>exact False.elim h
   |cont=>exact False.elim h
   |ret u=>
    obtain ⟨v,H',os,L,un,M,r',q⟩:=h;have q':v=.bl true:=q;subst q';obtain rfl:u=Value.bool true:=r';refine ⟨rfl,OldK.of_keep λb o e=>?_,os,L⟩;cases q:H b with
    |none=>exact un.keep b o e q (by intro z;exact absurd (show b∈([]:ZX) from z) Z8) Z8
    |some u=>
     rcases hO b with z|⟨ob,xs,z⟩
     .rw [q] at z;cases z
     .have z2:=un.iy b ob _ z;obtain ⟨e1,_⟩:=aA b _ z;obtain ⟨e2,_⟩:=M b _ z2;rw [e] at e1;cases e1;exact e2
 cases hk:K.lookup a with
 |some o=>
  have e:=KX a o hk;rw [O] at e;cases e;refine l (λ_=>none) (λ_=>.inl rfl) (.inr ⟨_,p.toArray,_,hk,rfl,rfl,rfl,by rw [Mw,E];exact hl,by simpa using rv⟩) (λb u z=>by have N:(none:Option HO)=some u:=z;cases N) (λb z=>absurd rfl z) λz=>absurd rfl z
 |none=>
  refine l (λb=>if b=a then some (.cW {cls:=.type "list",data:=.seq p.toArray} (.lst<|A.map V.int)) else none) (λb=>?_) (.inl (.inr ⟨{cls:=.type "list",data:=.seq p.toArray},Mp rfl⟩)) (λb u z=>?_) (λb z=>?_) λ_=>hk
  .by_cases g:b=a
   .exact .inr ⟨_,_,Mp g⟩
   .exact .inl<|Mj g
  .by_cases g:b=a
   .have N:=(Mp g).symm.trans z;cases N;subst g;exact ⟨O,by rw [Md];exact hl,p,_,rv,O⟩
   .have N:=(Mj g).symm.trans z;cases N
  .by_cases g:b=a
   .exact g
   .exact absurd (Mj g) z
end L2
namespace L2
open PySem PySem.Spec PyProof.Rows
def Jy{l:W.OpenLaw}{L:World->Heap->Prop}{d:DefRec}{K:Params->W.Frag}{CX:World->ir}{sp:World->Sp}
  (U:l.most=some n) (z:n<=sizeLine) (A:d.params.defaults=[]) (hr:cT k callerA)
  (hY:∀(w:World) (h:Heap),L w h->(K w.params).In h)
  (F:∀(w:World) (m:ZU) (t:Addr) (h:Heap),(K w.params).In h->h.Ns mainGlobals m->m d.name=some (.ref t)->
   ∃B:FuncData,(∀(s:Shared) (u:Value),BindsTo s B ⟨[u],[]⟩ [(x,u)])/\
    ∀base:Heap,(K w.params).In base->base.Ns mainGlobals m->bq l.prog w (K w.params) m base (CX w) k t B [x] (sp w))
  (C:∀(w:World) (H:Hp) (a:Addr) (y:List Int),y.length<=n->xb H->aN (K w.params) H a (y.map V.int)->sp w [.ref a] H (λv _=>v=.bl true) λ_ _ _=>False)
  (E:∀(w:World) (H:Hp) (s:Shared) (e:Value) (I:Shared),CX w [] H s (λ_ _ _=>False) e I->False):
  W.WalkO q i Q L l.row.toRowW d [] (λf M=>PySem.call f M):=by
 refine AR.Jb U A λw N p m mb t o pm cd ac a M y G Y ho hd af J r j c hg=>?_;have O:=hY w _ Y;obtain ⟨B,hb,hF⟩:=F w m t _ O G.T.g J;exact DU O G.T.g G.T.b G.T.builtins G.T.nolimit hg r j (MF c z) hr hF hb (λH hO hS=>C w H a y c hO hS) λH e I=>E w H p e I
end L2
namespace L2
open PySem PySem.Spec PyProof.Rows
def dS (s:Stmt):Arguments:=match s with
 |.FunctionDef _ a _ _ _ _ _ _ _ _=>a
 |_=>{posonlyargs:=[],args:=[],vararg:=none,kwonlyargs:=[],kw_defaults:=[],kwarg:=none,defaults:=[]}
def dE (s:Stmt):List Stmt:=match s with
 |.FunctionDef _ _ b _ _ _ _ _ _ _=>b
 |_=>[]
def bb (s:Stmt):Scope:=match s with
 |.FunctionDef _ _ _ _ _ _ sc _ _ _=>sc
 |_=>{kind:=.function,names:=[],isGenerator:=false,isCoroutine:=false}
abbrev bA:ir:=λ_ _ _ _ _ _=>False
abbrev E0:XK:=λ_ _ _=>False
def ui:mF bA X E0:=λ_ _ _ _ _ _ _ h=>h.elim
structure aF (K:PySem.W.Frag)(x qual:Str)(st:Stmt)(f:Addr)(fd:FuncData):Prop where
 ex:∃(oc:Value) (od:Option Addr) (kV doc pm:Value) (an:Option Addr) (cdv ct:Value) (osl:Array (Option Value)),
  fd=PySem.W.fnOf x qual (dS st) (dE st) (bb st) .none kV doc pm an cdv ct/\K.lookup f=some ⟨oc,od,.func fd,osl⟩/\PySem.W.codeIn K cdv qual=true
 kp:PySem.W.keepIn K (.ref f)=true
section
variable {P:Program}{w:World}{K:PySem.W.Frag}{mg:Str->Option Value}{base:Heap}
def aF.ok{st:Stmt}{g:Sp}(F:aF K x b st f m)(S:bW N e (bb st))(i:∀vs H Q E,g vs H Q E->vs.length=e.length)
  (d:∀(c:Value) (A:Around) (a:List Env) (s:Shared) (H:Hp) (vs:List V) (Q:VK) (E:XK),cT k (A.deeper (envOfC b (bb st) s.heap.objs.size f c))->g vs H Q E->
   ∃t,gJ (mn bA P w K mg base N b (bb st) f c A a s H E).pF (dE st) t/\t {nx:=λ_ n=>Q .av n,rt:=Q} (start N vs) H):bq P w K mg base bA (k+1) f m e g:=by
 obtain ⟨v,y,kV,o,z,B,c,C,p,rfl,r,j⟩:=F.ex;refine DL r j S i λA a s H vs Q E u l=>?_;obtain ⟨t,h,q⟩:=d c A a s H vs Q E u l;exact ⟨t,h.pF,q⟩
def aF.binds{st:Stmt}{d:ZY}(F:aF K x a st f k)
  (h:∀(kV b e:Value) (g:Option Addr) (c i:Value) (j:List Value),j.length=d.length->bindArgs (W.fnOf x a (dS st) (dE st) (bb st) .none kV b e g c i) ⟨j,[]⟩=pure (d.zip j)):Binds K k d []:=by
 obtain ⟨n,o,kV,b,e,g,c,i,l,rfl,p,m⟩:=F.ex;exact .all<|h kV b e g c i
def xA{st:Stmt}{kV:Value}(l:K.lookup f=some ⟨j,m,.func (W.fnOf x a (dS st) (dE st) (bb st) .none kV d h g b i),e⟩)
  (c:W.codeIn K b a=true) (k:W.keepIn K (.ref f)=true):aF K x a st f (W.fnOf x a (dS st) (dE st) (bb st) .none kV d h g b i):=⟨⟨j,m,kV,d,h,g,b,i,e,rfl,l,c⟩,k⟩
end
def fJ(a:cT k A):A.units+1<cLine:=Oz (Nat.add_le_add_left (by decide:1<=64) _) a.units
def cq(h:n<=1000):n<sizeLine:=Oz h Z1
section
variable {X:Cx}
def pv(i:Nat)(c:X.N[i]?=some x:=by rfl)(d:qC X.env.scope x:=by first|exact Or.inl rfl|exact Or.inr (Or.inl rfl)|exact Or.inr (Or.inr rfl))(e:(x==("__debug__":Str))=false:=by decide)
  (b:(x==("__classdict__":Str))=false:=by decide):PE X (.Name x a) (aU i):=Cc c d e b
end
def ab (H H':Hp):Prop:=∀b o,H b=some o->H' b=some o
def ab.refl (H:Hp):ab H H:=λ_ _ h=>h
def ab.trans(a:ab H d)(b:ab d e):ab H e:=λc o h=>b c o<|a c o h
section
variable {κ:Type} [DecidableEq κ]
end
end L2
namespace PySem
section
variable {env:Env}
def He (names:List (Str×NameKind)):∀(cs:List (Str×Addr)),(∀n,(n,NameKind.free)∈names->∃c,env.cells.lookup n=some c)->
  ∃cl,(forIn names cs (λ(x:Str×NameKind) (r:List (Str×Addr))=>if (x.2==NameKind.free)=true then (do let c<-cellOf env x.1;pure (ForInStep.yield ((x.1,c)::r))) else pure (ForInStep.yield r)):Sem (List (Str×Addr)))=pure cl/\
   (∀n c,cl.lookup n=some c->env.cells.lookup n=some c\/cs.lookup n=some c)/\(∀n,((n,NameKind.free)∈names\/∃c,cs.lookup n=some c)->∃c,cl.lookup n=some c):=by
 induction names with
 |nil=>intro cs _;exact ⟨cs,rfl,λn c h=>.inr h,λn h=>h.elim (λz=>nomatch z) id⟩
 |cons x r ih=>
  intro cs h;obtain ⟨n,k⟩:=x;have hr:∀n,(n,NameKind.free)∈r->∃c,env.cells.lookup n=some c:=λm hm=>h m (L8 _ hm);by_cases hk:k=.free
  .subst hk;obtain ⟨c,hc⟩:=h n Mc;obtain ⟨cl,e,h1,h2⟩:=ih ((n,c)::cs) hr;refine ⟨cl,?_,λm d hd=>?_,λm hm=>?_⟩
   .rw [PV]
    simp only [Px,O3];have q:cellOf env n=pure c:=by unfold cellOf;rw [hc]
    rw [q];exact e
   .rcases h1 m d hd with z|z
    .exact .inl z
    .rw [Nw] at z
     by_cases hmn:m=n
     .subst hmn;simp only [Px] at z;exact .inl (hc.trans z)
     .have:(m==n)=false:=by simpa using hmn
      rw [this] at z;exact .inr z
   .refine h2 m ?_
    rcases hm with z|⟨d,z⟩
    .rcases Mn.mp z with z|z
     .obtain ⟨rfl,_⟩:=Q4 z;exact .inr ⟨c,by simp [Nw]⟩
     .exact .inl z
    .right
     rw [Nw];cases (m==n)
     .exact ⟨d,z⟩
     .exact ⟨c,rfl⟩
  .have hb:(k==NameKind.free)=false:=by simpa using hk
   obtain ⟨cl,e,h1,h2⟩:=ih cs hr;refine ⟨cl,?_,h1,λm hm=>h2 m ?_⟩
   .rw [PV]
    simp only [hb,Qb,Qu];exact e
   .rcases hm with z|z
    .rcases Mn.mp z with z|z
     .exact absurd (Q4 z).2.symm hk
     .exact .inl z
    .exact .inr z
def AD {scope:Scope}(h:∀n,(n,NameKind.free)∈scope.names->∃c,env.cells.lookup n=some c):
  ∃a,closureFor scope env=pure a/\(∀n c,a.lookup n=some c->env.cells.lookup n=some c)/\(∀n,(n,NameKind.free)∈scope.names->∃c,a.lookup n=some c):=by
 obtain ⟨a,e,b,d⟩:=He scope.names [] h;refine ⟨a,?_,λn c f=>(b n c f).elim id λz=>(by simp at z),λn g=>d n (.inl g)⟩;simp only [closureFor];have q:=M7 (λt=>t>>=λr=>(pure r:Sem (List<|Str×Addr))) e;exact q
end
section
variable {prog:Program}{w:World}{A:Around}{R:Result->Shared->Prop}{s:Shared}
def Ij {elt target iter:Expr}{ifs:List Expr}{scope:Scope}{pos:Pos}{it acc:Value}{env:Env}(I:Nat->Shared->Prop)
  (turn:∀n s,I n s->wpAny (model prog w) A (pyNext it) (λr s₁=>match r with
   |none=>R (.ok .next) s₁
   |some v=>wpAny (model prog w) A (letOwnedTupleGo target it v) (λ_ s₁'=>wpAny (model prog w) A (assign target env v) (λ_ s₂=>
     wpAny (model prog w) A (forIn ifs true λc r=>if r=true then do let ok<-isTrue c env (eval c env);pure (ForInStep.yield ok) else pure (ForInStep.yield r)) (λok s₃=>
      if ok=true then wpAny (model prog w) A (eval elt env) (λx s₄=>
       wpAny (model prog w) A (call (.builtin "list.append") [acc,x]) (λ_ s₅=>∃m,m<n/\I m s₅) (λ_ _=>False) s₄) (λ_ _=>False) s₃
      else∃m,m<n/\I m s₃) (λ_ _=>False) s₂) (λ_ _=>False) s₁') (λ_ _=>False) s₁) (λ_ _=>False) s)
  (n:Nat) (h:I n s):
  codeAny (model prog w) A (.compLoop (.ListComp elt [⟨target,iter,ifs,0⟩] scope pos) 0 it acc env) R s:=by
 refine codeAny_loop rfl I (λn s hI=>?_) n h;show wpAny _ A ((compTurn (.ListComp elt [⟨target,iter,ifs,0⟩] scope pos) 0 it acc env).onRaise (λx=>do noteFrame x env;theTreesLotGoes x)) _ _ s;refine wpAny_noted ?_;rw [compTurn_list];refine L9 (Qn (L9 (NB (turn n s hI) (λr s₁ h₁=>?_) λ_ _ h'=>h'.elim)));cases r with
 |none=>exact Mt h₁
 |some v=>
  refine L9 (NB h₁ (λ_ s₁' h₁'=>?_) λ_ _ h'=>h'.elim);refine L9 (NB h₁' (λ_ s₂ h₂=>L9 (NB h₂ (λok s₃ h₃=>?_) λ_ _ h'=>h'.elim)) λ_ _ h'=>h'.elim);cases ok with
  |false=>exact Mt ⟨rfl,h₃⟩
  |true=>
   exact L9 (L9 (NB h₃ (λx s₄ h₄=>L9 (NB h₄ (λ_ s₅ h₅=>Mt (Mt ⟨rfl,h₅⟩)) λ_ _ h'=>h'.elim)) λ_ _ h'=>h'.elim))
end
end PySem
namespace L2
open PySem PySem.Spec PyProof.Rows
theorem mem_of_lookup:∀{l:List (Str×NameKind)} {x:Str} {k:NameKind},l.lookup x=some k->(x,k)∈l
 |[],_,_,h=>by simp at h
 |(n,j)::r,x,k,h=>by
  rw [Nw] at h;by_cases e:x=n
  .subst e;simp only [Px] at h;cases h;exact Mc
  .have:(x==n)=false:=by simpa using e
   rw [this] at h;exact L8 _<|mem_of_lookup h
theorem Bb {a:Env}:∀{b:List (Str×NameKind)} {x:Str},b.lookup x=some .free->
  (b.map λ(n,k)=>if (k==NameKind.free&&a.scope.kind==.function&&a.kindOf n==some .cell) then (n,NameKind.cell) else (n,k)).lookup x=some .cell\/
  (b.map λ(n,k)=>if (k==NameKind.free&&a.scope.kind==.function&&a.kindOf n==some .cell) then (n,NameKind.cell) else (n,k)).lookup x=some .free
 |[],_,h=>by simp at h
 |(n,k)::r,x,h=>by
  have e:=@Bb a r x;show List.lookup x ((if (k==NameKind.free&&a.scope.kind==.function&&a.kindOf n==some .cell)=true then (n,NameKind.cell) else (n,k))::_)=_\/List.lookup x ((if (k==NameKind.free&&a.scope.kind==.function&&a.kindOf n==some .cell)=true then (n,NameKind.cell) else (n,k))::_)=_;cases c:x==n with
  |true=>
   simp only [Nw,c] at h;cases h;by_cases d:(NameKind.free==NameKind.free&&a.scope.kind==.function&&a.kindOf n==some .cell)=true
   .rw [Mp d];simp only [Nw,c];exact .inl trivial
   .rw [Mj d];simp only [Nw,c];exact .inr trivial
  |false=>
   simp only [Nw,c] at h;by_cases d:(k==NameKind.free&&a.scope.kind==.function&&a.kindOf n==some .cell)=true
   .rw [Mp d];simp only [Nw,c];exact e h
   .rw [Mj d];simp only [Nw,c];exact e h
def zH{a:Scope}(c:∀y∈a.names,y.2≠.cell)(i:k=.cell\/k=.free)(h:(relabel a b).names.lookup x=some k):(x,NameKind.free)∈a.names:=by
 obtain ⟨⟨n,j⟩,f,e⟩:=Mx.mp<|mem_of_lookup h;by_cases d:(j==NameKind.free&&b.scope.kind==.function&&b.kindOf n==some .cell)=true
 .have g:(n,NameKind.cell)=(x,k):=by simpa only [d,O3] using e
  have l:j=.free:=by
   simp only [Na] at d;exact Pc.mp d.1.1
  subst l;cases g;exact f
 .have g:(n,j)=(x,k):=by
   have:=e;simp only [d] at this;exact this
  cases g;rcases i with rfl|rfl
  .exact absurd rfl<|c _ f
  .exact f
section
variable {X:Cx}
def bG (X:Cx)(N':List Str)(scope:Scope)(cl:List (Str×Addr))(C:Addr)(fp:List Addr)(s:Shared)(H:Hp):Cx:=
 {X with N:=N',s₀:=s,H₀:=H,env:=compEnvC scope cl C X.env,outer:=X.stack,stack:=X.stack,ex:=fp,fn:=λ_=>false,pn:=[],xe:=λ_ _=>False}
def m8 (X:Cx)(ifs:List Expr)(t:TT):Prop:=
 ∀(pins:List (Addr×Obj)) (s:Shared) (σ:St) (H:Hp) (Q:Bool->Hp->Prop),Inv X pins σ H s->t σ H Q->
  wpAny (model X.prog X.w) X.A (forIn ifs true λc r=>if r=true then do let ok<-isTrue c X.env (eval c X.env);pure (ForInStep.yield ok) else pure (ForInStep.yield r)) (TP X pins σ Q) X.xe s
def lh:TT:=λ_ H Q=>Q true H
def je:m8 X [] lh:=λ_ _ _ H _ I h=>wpAny_tests_nil ⟨H,I,h⟩
def io(h:PT X c t):m8 X [c] t:=λa s b H Q I d=>wpAny_tests_one<|h a s b H Q I d
def yH (J:It)(D:Addr)(τ₀:St)(g:TG)(tt:TT)(te:TE)(Q:VK)(H:Hp):Prop:=
 ∃W:Nat->Nat->St->Hp->Prop,(∃m,W 0 m τ₀ (upd H D (.lst [])))/\∀i m τ H,W i m τ H->
  (J.stop i H/\Q (.ref D) H)\/
  (J.go i H/\∃N:St->Hp->Prop,(∀τ' H',N τ' H'->∃m',m'<m/\W (i+1) m' τ' H')/\
   ∀x H',J.ox i H x H'->g x τ H' λτ2 H2=>tt τ2 H2 λb H3=>if b=true then te τ2 H3 λv H4=>∃ys,H4 D=some (.lst ys)/\ys.length<sizeLine/\N τ2 (upd H4 D (.lst (ys++[v]))) else N τ2 H3)
def iU (wi:TI)(caps:St->St)(g:TG)(tt:TT)(te:TE):TE:=λσ H Q=>wi σ H λJ H1=>∀D,H1 D=none->yH J D (caps σ) g tt te Q H1
variable {tg iter elt:Expr}{ifs:List Expr}{scope:Scope}{pos:Pos}{N':List Str}{caps:St->St}{wi:TI}{g:TG}{tt:TT}{te:TE}
def xM {pins:ZV}{σ:St}{H2:Hp}{s2:Shared}{J:It}{fp:ZX}{it:Addr}{tn:Nat->Heap->Prop}{cl:List (Str×Addr)}{Q:VK}{RR:Value->Addr->Result->Shared->Prop}
  (hc:X.calm=true) (hkind:scope.kind=.function) (hcell:∀y∈scope.names,y.2≠.cell)
  (hcap:∀σ:St,σ.length=X.N.length->(caps σ).length=N'.length/\∀(i:Nat) (x:Str) (v:V),N'[i]?=some x->(caps σ)[i]?=some (some v)->scope.names.lookup x=some .free/\∃j:Nat,X.N[j]?=some x/\σ[j]?=some (some v))
  (hfree:∀n,(n,NameKind.free)∈scope.names->X.env.kindOf n=some .cell\/X.env.kindOf n=some .free)
  (hcl1:∀n c,cl.lookup n=some c->X.env.cells.lookup n=some c) (hcl2:∀n,(n,NameKind.free)∈scope.names->∃c,cl.lookup n=some c)
  (hg:∀C s H,PG (bG X N' scope cl C fp s H) tg g) (hts:∀C s H,m8 (bG X N' scope cl C fp s H) ifs tt) (hel:∀C s H,PE (bG X N' scope cl C fp s H) elt te)
  (I2:Inv X pins σ H2 s2) (T:jg X.prog X.w X.K tg J fp it tn) (st2:tn 0 s2.heap) (f2:∀b∈fp,iZ X pins H2 b)
  (k2:∀D,H2 D=none->yH J D (caps σ) g tt te Q H2)
  (hRR:∀D C s' H' m,Inv X pins σ H' s'->s'.heap.Ns C m->s2.heap.objs.size<=C->H' C=none->Q (.ref D) H'->RR (.ref D) C (.ok .next) s'):
  wpAny (model X.prog X.w) X.A (newList []) (λacc s₃=>wpAny (model X.prog X.w) X.A (newFunctionEnv scope X.env.globals cl [] X.env.qual none .none (some X.env)) (λcenv s₄=>
   codeAny (model X.prog X.w) X.A (.compStart (.ListComp elt [⟨tg,iter,ifs,0⟩] scope pos) 0 (.ref it) acc {cenv with scope:=relabel scope X.env}) (RR acc cenv.locals) s₄) X.xe s₃) X.xe s2:=by
 refine NF (wpAny_newFunctionEnv hcell (by intro y hy;simp at hy) (λh₁ hns₁ hsb₁=>?_) hkind);dsimp only at hns₁ hsb₁⊢;generalize hH2:s2.heap.push {cls:=.type "list",dict:=none,data:=.seq ([]:List Value).toArray}=HH at hns₁ hsb₁⊢;have hC:HH.objs.size=s2.heap.objs.size+1:=by rw [<-hH2,Nq]
 have hDC:s2.heap.objs.size≠HH.objs.size:=by rw [hC];exact MM (NC _)
 have hCle:s2.heap.objs.size<=HH.objs.size:=by rw [hC];exact Q3 _
 have below:∀b,b<s2.heap.objs.size->b≠HH.objs.size/\b≠s2.heap.objs.size:=λb hb=>⟨by rw [hC];exact MM (NW hb),MM hb⟩
 have old:∀b o,s2.heap.get? b=some o->h₁.get? b=some o:=λb o e=>hsb₁.extBut b o (below b (MA e)).1 (Mf _ (hH2▸Mf _ e));have hacc:h₁.get? s2.heap.objs.size=some {cls:=.type "list",data:=.seq ([]:List Value).toArray 0}:=hsb₁.extBut _ _ hDC (Mf _ (hH2▸Mz _ rfl));have hDn:H2 s2.heap.objs.size=none:=I2.aA.fresh (Mh _);have hCn:H2 HH.objs.size=none:=I2.aA.fresh hCle;have fpC:iZ X pins H2 HH.objs.size:=I2.ig hCle hCn;have fplt:∀b∈fp,b<s2.heap.objs.size:=λb hb=>by
  obtain ⟨o,e,_⟩:=T.obj 0 _ st2 b hb;exact MA e
 have nstk:∀b∈fp,b∉iG X.stack:=λb hb z=>by
  obtain ⟨_,f1,f2',_⟩:=f2 b hb;rcases Mn.mp (I2.wk b z) with e|e
  .exact f1 e
  .exact f2' e
 obtain ⟨W,⟨m0,w0⟩,turn⟩:=k2 s2.heap.objs.size hDn;have capok:=hcap σ I2.len;have ok:(bG X N' scope cl HH.objs.size fp s2 H2).Ok:=
  {mod:=I2.ok.mod
   kind:=hkind
   glob:=I2.ok.glob
   blt:=I2.ok.blt
   above:=hCle
   inj:=λx y c a b=>I2.ok.inj x y c (hcl1 x c a) (hcl1 y c b)
   has:=λx h=>hcl2 x (by
    rcases h with h|h
    .exact zH hcell (.inl rfl) h
    .exact zH hcell (.inr rfl) h)
   oz:=λx c h=>(nomatch h)
   hd:=I2.ok.hd
   frames:=I2.ok.frames
   qh:=.inl rfl
   w9:=λb hb=>⟨(below b (fplt b hb)).1,λx c e=>(f2 b hb).2.2.2.2.1 x c (hcl1 x c e)⟩
   bs:=I2.bs
   j9:=MF I2.ok.j9 I2.sz
   oK:=λb o e hb=>by
    rcases (f2 b hb).2.2.2.1 with z|z
    .exact I2.ok.oK b o e z
    .exact absurd (MS (MA (I2.ok.bs b o e).1) z) (Nr _)
   p8:=nstk
   hJ:=I2.stack
   lu:=I2.B9}
 have I4:Inv (bG X N' scope cl HH.objs.size fp s2 H2) [] (caps σ) (upd H2 s2.heap.objs.size (.lst [])) {s2 with heap:=h₁,toks:=s2.toks+([]:List (Str×Value)).length}:=by
  refine ⟨ok,rfl,I2.bare,Un.laid old (Mh _) hDn,⟨_,hns₁,λi x v e1 e2 e3=>?_⟩,λx c e=>?_,?_,λx c e=>?_,(λp hp=>(nomatch hp)),?_,capok.1⟩
  .obtain ⟨lf,j,e4,e5⟩:=capok.2 i x v e1 e2;have kx:=hfree x (mem_of_lookup lf);have vis:qC X.env.scope x:=by rcases kx with k|k;exact .inr (.inl k);exact .inr (.inr k)
   obtain ⟨m,hn,hl⟩:=I2.loc;obtain ⟨u,r,l⟩:=hl j x v e4 e5 vis;refine ⟨u,r,.inr ⟨Bb lf,?_⟩⟩;obtain ⟨c,hcx⟩:=hcl2 x (mem_of_lookup lf);have hcx':=hcl1 x c hcx;refine ⟨c,hcx,?_⟩;rcases l with ⟨k,_⟩|⟨_,c',ec,⟨o,ho,hd⟩⟩
   .rcases kx with k'|k'<;>(rw [k] at k';cases k')
   .rw [hcx'] at ec;cases ec
    exact ⟨o,old _ o ho,hd⟩
  .obtain ⟨v,o,ho,hd⟩:=I2.cell x c (hcl1 x c e);exact ⟨v,o,old _ o ho,hd⟩
  .show upd H2 s2.heap.objs.size (.lst []) HH.objs.size=none;rw [aD (M6 hDC)];exact hCn
  .obtain ⟨v,o,ho,hd⟩:=I2.cell x c (hcl1 x c e);rw [aD (MM (MA ho))];exact I2.g9 x c (hcl1 x c e)
  .exact I2.aA.laid old (Mh _) ⟨MI _,[],0,.nil,hacc⟩
 have st4:tn 0 h₁:=T.keep _ _ _ st2 λb _ o e=>old b o e;have stat:∀{H':Hp},(∀b∈fp,H' b=none)->∀b∈fp,iZ (bG X N' scope cl HH.objs.size fp s2 H2) [] H' b:=λhn b hb=>
  ⟨hn b hb,(below b (fplt b hb)).1,nstk b hb,.inl hb,λx c e=>(f2 b hb).2.2.2.2.1 x c (hcl1 x c e),(λp hp=>(nomatch hp))⟩
 have loop:∀s₃:Shared,s₃={s2 with heap:=h₁,toks:=s2.toks+([]:List (Str×Value)).length}->
   codeAny (model X.prog X.w) X.A (.compLoop (.ListComp elt [⟨tg,iter,ifs,0⟩] scope pos) 0 (.ref it) (.ref s2.heap.objs.size) (compEnvC scope cl HH.objs.size X.env)) (RR (.ref s2.heap.objs.size) HH.objs.size) s₃:=by
  rintro s₃ rfl;refine Ij (λn s'=>∃i τ H',Inv (bG X N' scope cl HH.objs.size fp s2 H2) [] τ H' s'/\tn i s'.heap/\(∀b∈fp,H' b=none)/\W i n τ H') ?_ m0
   ⟨0,caps σ,_,I4,st4,λb hb=>by rw [aD (below b (fplt b hb)).2];exact (f2 b hb).1,w0⟩
  rintro n s5 ⟨i,τ,H5,I5,st5,fr5,w5⟩;rcases turn i n τ H5 w5 with ⟨stop,q⟩|⟨go,N,hN,step⟩
  .refine aP (T.done (bG X N' scope cl HH.objs.size fp s2 H2) rfl rfl rfl hc i [] s5 τ H5 (λ_ _=>False) I5 (stat fr5) st5 stop) λr s6 q0=>?_
   obtain ⟨hr,I6⟩:=q0;subst hr;obtain ⟨m,hn,_⟩:=I6.loc;refine hRR _ _ s6 H5 m (I2.Hc (ch:=fp) I6.os I6.base I6.aA I6.bare λb hb=>⟨(f2 b hb).2.2.2.1,(f2 b hb).2.1,(f2 b hb).2.2.2.2.1,(f2 b hb).2.2.2.2.2⟩) hn hCle I6.free q
  .refine aP (T.item (bG X N' scope cl HH.objs.size fp s2 H2) rfl rfl rfl hc i [] s5 τ H5 (λ_ _=>False) I5 (stat fr5) st5 go) λr s6 q1=>?_
   obtain ⟨u,hr,h6⟩:=q1;subst hr;refine aP h6 λ_ s7 q2=>?_;obtain ⟨x,H7,I7,r7,y7,st7,fr7⟩:=q2;have I7':=I7.pinned (stat fr7) (T.obj _ _ st7);have again:∀{τ':St} {H':Hp} {s':Shared},Inv (bG X N' scope cl HH.objs.size fp s2 H2) ([]++qF fp s7.heap) τ' H' s'->N τ' H'->
     ∃m,m<n/\∃i τ H',Inv (bG X N' scope cl HH.objs.size fp s2 H2) [] τ H' s'/\tn i s'.heap/\(∀b∈fp,H' b=none)/\W i m τ H':=λ{τ' H' s'} I' n'=>by
    obtain ⟨m',hm,w'⟩:=hN τ' H' n';refine ⟨m',hm,i+1,τ',H',I'.tU,T.keep _ _ _ st7 λb hb o e=>(I'.pin (b,o) (Ml _ (Ml _ (sY hb e)))).1,λb hb=>?_,w'⟩;obtain ⟨o,e,d⟩:=T.obj _ _ st7 b hb;exact (I'.pin (b,o) (Ml _ (Ml _ (sY hb e)))).2.1
   refine aP (hg HH.objs.size s2 H2 _ s7 τ H7 x u _ I7' r7 (step x H7 y7)) λ_ s8 q3=>?_;obtain ⟨τ8,H8,I8,q8⟩:=q3;refine aP (hts HH.objs.size s2 H2 _ s8 τ8 H8 _ I8 q8) λokk s9 q4=>?_;obtain ⟨H9,I9,q9⟩:=q4;cases okk with
   |false=>
    rw [Mj Mm] at q9⊢;exact again I9 q9
   |true=>
    rw [Mp rfl] at q9⊢;refine aP (hel HH.objs.size s2 H2 _ s9 τ8 H9 _ I9 q9) λy s10 q5=>?_;obtain ⟨v,H10,I10,r10,ys,hD,hz,n10⟩:=q5;refine aP (zG (X:=bG X N' scope cl HH.objs.size fp s2 H2) _ s10 τ8 H10 (.ref s2.heap.objs.size) [v] (.ref s2.heap.objs.size) [y] (λ_ H'=>N τ8 H') I10 rfl (.cons r10 .nil) ⟨_,ys,v,rfl,rfl,hD,hz,n10⟩) λ_ s11 q6=>?_;obtain ⟨_,H11,I11,_,n11⟩:=q6;exact again I11 n11
 exact codeAny_compStart_list (loop _ rfl) (T.self X.A 0 _ _ _ st4 (loop _ rfl))
def Ks (hc:X.calm=true)(a:scope.kind=.function)(p:∀y∈scope.names,y.2≠.cell)(d:∀y∈scope.names,y.2=.local->scope.names.lookup y.1=some .local)
  (c:∀n,(n,NameKind.free)∈scope.names->X.env.kindOf n=some .cell\/X.env.kindOf n=some .free)
  (u:∀r:St,r.length=X.N.length->(caps r).length=N'.length/\∀(i:Nat) (x:Str) (v:V),N'[i]?=some x->(caps r)[i]?=some (some v)->scope.names.lookup x=some .free/\∃j:Nat,X.N[j]?=some x/\r[j]?=some (some v))
  (hi:PI X tg iter wi) (hg:∀f C k s H,PG (bG X N' scope f C k s H) tg g) (E:∀f C k s H,m8 (bG X N' scope f C k s H) ifs tt) (G:∀f C k s H,PE (bG X N' scope f C k s H) elt te)
  (hs:∀x,foldedSetIterable iter X.env x=pure x:=by intro _;rfl):PE X (.ListComp elt [⟨tg,iter,ifs,0⟩] scope pos) (iU wi caps g tt te):=by
 intro l s r H Q I h;rw [eval_ListComp];obtain ⟨f,t,z,B⟩:=AD (env:=X.env) (scope:=scope) λn L=>I.ok.has n<|c n L
 refine wpAny_comprehension_free (use:=none) rfl hs t a d<|aP (hi l s r H _ I h) λv s1 h1=>aP h1 λac s2 h2=>?_
 obtain ⟨it,k,tn,J,H2,rfl,Y,T,M,f2,k2⟩:=h2;refine xM (RR:=λO C=>compPost (model X.prog X.w) X.A X.xe none (EP X l r Q) O C) hc a p u c z B (λC s H=>hg f C k s H) (λC s H=>E f C k s H) (λC s H=>G f C k s H) Y T M f2 k2 ?_;intro D C s' H' m I' L U hC q;obtain ⟨f0,f1,af,f3,f4,f5⟩:=Y.ig U hC;exact ⟨m,L,λh' sb=>⟨.ref D,H',I'.turned (t':=s'.toks) (λb o hb e=>(sb.2 b hb).trans e) f0 f1 f3 f4 f5,rfl,q⟩⟩
def GU{r:Pos}{i:Nat}(O:swapsWith (.ListComp elt [⟨tg,iter,ifs,0⟩] scope pos) (some (.Name y z)) r.line X.env=pure true)
  (hN:X.N.Nodup) (U:X.N[i]?=some y) (hy:Loc X.env.scope y)
  (hc:X.calm=true) (c:scope.kind=.function) (t:∀y∈scope.names,y.2≠.cell) (k:∀y∈scope.names,y.2=.local->scope.names.lookup y.1=some .local)
  (d:∀n,(n,NameKind.free)∈scope.names->X.env.kindOf n=some .cell\/X.env.kindOf n=some .free)
  (G:∀B:St,B.length=X.N.length->(caps B).length=N'.length/\∀(i:Nat) (x:Str) (v:V),N'[i]?=some x->(caps B)[i]?=some (some v)->scope.names.lookup x=some .free/\∃j:Nat,X.N[j]?=some x/\B[j]?=some (some v))
  (hi:PI X tg iter wi) (hg:∀l C p s H,PG (bG X N' scope l C p s H) tg g) (Y:∀l C p s H,m8 (bG X N' scope l C p s H) ifs tt) (ac:∀l C p s H,PE (bG X N' scope l C p s H) elt te)
  (hs:∀x,foldedSetIterable iter X.env x=pure x:=by intro _;rfl) (hf:X.fn y=true\/X.env.scope.names.lookup y=some .local:=by first|exact .inl rfl|exact .inr rfl|assumption):
  PS X (.Assign [.Name y z] (.ListComp elt [⟨tg,iter,ifs,0⟩] scope pos) r) (eF (iU wi caps g tt te) (cx i)):=by
 intro f s B H D I h;rw [exec_Assign_Name_used _ _ _ _ O];refine L9<|Qn<|L9 ?_
 obtain ⟨l,u,L,M⟩:=AD (env:=X.env) (scope:=scope) λn hn=>I.ok.has n<|d n hn;show wpAny _ X.A (do let _<-comprehension (.ListComp elt [⟨tg,iter,ifs,0⟩] scope pos) scope X.env _ (newList []) false (eval iter X.env) (some<|assign (.Name y z) X.env)) _ _ s;refine L9 (NB (wpAny_comprehension_free (use:=some<|assign (.Name y z) X.env) (Q:=λ_ s'=>SP X f D .next s') rfl hs u c k
  (aP (hi f s B H _ I h) λv s1 h1=>aP h1 λa1 s2 h2=>?_)) (λ_ s' hq=>Mt<|Mt hq) λ_ _ e=>e)
 obtain ⟨it,p,tn,J,H2,rfl,I2,T,af,f2,k2⟩:=h2;refine xM (RR:=λaj C=>compPost (model X.prog X.w) X.A X.xe (some<|assign (.Name y z) X.env) (λ_ s'=>SP X f D .next s') aj C) hc c t G d L M (λC s H=>hg l C p s H) (λC s H=>Y l C p s H) (λC s H=>ac l C p s H) I2 T af f2 k2 ?_;intro E C s' H' m I' hn am hC q;obtain ⟨f0,f1,a2,f3,f4,f5⟩:=I2.ig am hC;show wpAny _ X.A (assign (.Name y z) X.env (.ref E)) _ _ _;refine wpAny_assign_Name<|A9 I' hN U hy (v:=.ref E) rfl (λan ao ⟨a,sb,ha⟩=>?_) hf;have as:C≠a:=by
  rcases ha with rfl|ha
  .exact f1
  .exact M6<|f4 y a ha
 exact ⟨m,hn.sameBut sb as,λh' a0=>⟨_,H',ao.turned (t':=an.toks) (λb o hb e=>(a0.2 b hb).trans e) f0 f1 f3 f4 f5,q⟩⟩
end
end L2
namespace FL
open PySem L2
inductive D where
 |av|bl (b:Bool)|int (i:Int)|str (x:Str)|tup (l:List D)|lst (l:List D)
abbrev ZW:=List (List D)
abbrev ZZ:=List D
mutual
def D.beq:D->D->Bool
 |.av,.av=>true
 |.bl a,.bl b=>a==b
 |.int a,.int b=>a==b
 |.str a,.str b=>decide (a=b)
 |.tup a,.tup b=>D.oB a b
 |.lst a,.lst b=>D.oB a b
 |_,_=>false
def D.oB:List D->List D->Bool
 |[],[]=>true
 |a::r,b::t=>D.beq a b&&D.oB r t
 |_,_=>false
end
mutual
theorem D.beq_iff:∀a b:D,D.beq a b=true↔a=b
 |.av,b=>by cases b<;>simp [D.beq]
 |.bl a,b=>by cases b<;>simp [D.beq]
 |.int a,b=>by cases b<;>simp [D.beq]
 |.str a,b=>by cases b<;>simp [D.beq]
 |.tup a,b=>by cases b<;>simp [D.beq,D.vM a]
 |.lst a,b=>by cases b<;>simp [D.beq,D.vM a]
theorem D.vM:∀a b:List D,D.oB a b=true↔a=b
 |[],b=>by cases b<;>simp [D.oB]
 |a::r,b=>by cases b<;>simp [D.oB,D.beq_iff a,D.vM r]
end
instance:DecidableEq D:=fun a b=>decidable_of_iff _ (D.beq_iff a b)
mutual
inductive al (H:Hp):V->D->Prop
 |av:al H .av .av
 |bl (b:Bool):al H (.bl b) (.bl b)
 |int (i:Int):al H (.int i) (.int i)
 |str (x:Str):al H (.str x) (.str x)
 |tup {a:Addr} {vs:List V} {l:List D}:H a=some (.tup vs)->aE H vs l->al H (.ref a) (.tup l)
 |lst {a:Addr} {vs:List V} {l:List D}:H a=some (.lst vs)->aE H vs l->al H (.ref a) (.lst l)
inductive aE (H:Hp):List V->List D->Prop
 |nil:aE H [] []
 |cons {v:V} {d:D} {vs:List V} {ds:List D}:al H v d->aE H vs ds->aE H (v::vs) (d::ds)
end
mutual
theorem al.mono {H H':Hp}(e:ab H H'):∀{v:V} {d:D},al H v d->al H' v d
 |_,_,.av=>.av
 |_,_,.bl b=>.bl b
 |_,_,.int b=>.int b
 |_,_,.str b=>.str b
 |_,_,.tup h r=>.tup (e _ _ h) (aE.mono e r)
 |_,_,.lst h r=>.lst (e _ _ h) (aE.mono e r)
theorem aE.mono {H H':Hp}(e:ab H H'):∀{v:List V} {d:List D},aE H v d->aE H' v d
 |_,_,.nil=>.nil
 |_,_,.cons h r=>.cons (al.mono e h) (aE.mono e r)
end
theorem aE.length:∀{a:List V} {b:ZZ},aE H a b->a.length=b.length
 |_,_,.nil=>rfl
 |_,_,.cons _ r=>M7 (· +1) r.length
theorem aE.get:∀{a:List V} {b:ZZ} {i:Nat} {d:D},aE H a b->b[i]?=some d->∃v,a[i]?=some v/\al H v d
 |_,_,_,_,.nil,e=>by simp at e
 |_,_,0,_,.cons h _,e=>by simp at e;subst e;exact ⟨_,rfl,h⟩
 |_,_,i+1,d,.cons _ r,e=>by
  obtain ⟨v,c,f⟩:=aE.get (i:=i) (d:=d) r (by simpa using e);exact ⟨v,by simpa using c,f⟩
theorem aE.iS:∀{a:List V} {b:ZZ} {i:Nat} {v:V},aE H a b->a[i]?=some v->∃d,b[i]?=some d/\al H v d
 |_,_,_,_,.nil,e=>by simp at e
 |_,_,0,_,.cons h _,e=>by simp at e;subst e;exact ⟨_,rfl,h⟩
 |_,_,i+1,d,.cons _ r,e=>by
  obtain ⟨v,c,f⟩:=aE.iS (i:=i) (v:=d) r (by simpa using e);exact ⟨v,by simpa using c,f⟩
theorem aE.append:∀{a b:List V} {c d:ZZ},aE H a c->aE H b d->aE H (a++b) (c++d)
 |_,_,_,_,.nil,s=>s
 |_,_,_,_,.cons h r,s=>.cons h<|r.append s
def aE.snoc(r:aE H a b)(h:al H v d):aE H (a++[v]) (b++[d]):=r.append (.cons h .nil)
theorem aE.take:∀{a:List V} {b:ZZ} (n:Nat),aE H a b->aE H (a.take n) (b.take n)
 |_,_,0,_=>.nil
 |_,_,_+1,.nil=>.nil
 |_,_,n+1,.cons h r=>.cons h<|r.take n
theorem aE.drop:∀{a:List V} {b:ZZ} (n:Nat),aE H a b->aE H (a.drop n) (b.drop n)
 |_,_,0,r=>r
 |_,_,_+1,.nil=>.nil
 |_,_,n+1,.cons _ r=>r.drop n
theorem aE.ints:∀a:List Int,aE H (a.map V.int) (a.map D.int)
 |[]=>.nil
 |n::r=>.cons (.int n)<|aE.ints r
def al.eM(h:al H v (.int i)):v=.int i:=by cases h;rfl
def al.sD(h:al H v (.str x)):v=.str x:=by cases h;rfl
def al.jm(h:al H v (.bl b)):v=.bl b:=by cases h;rfl
def al.fb(h:al H v (.tup l)):∃a b,v=.ref a/\H a=some (.tup b)/\aE H b l:=by cases h with|tup h r=>exact ⟨_,_,rfl,h,r⟩
def al.dX(h:al H v (.lst l)):∃a b,v=.ref a/\H a=some (.lst b)/\aE H b l:=by cases h with|lst h r=>exact ⟨_,_,rfl,h,r⟩
mutual
theorem al.inj {H:Hp}:∀{v:V} {d e:D},al H v d->al H v e->d=e
 |_,_,_,.av,h=>by cases h;rfl
 |_,_,_,.bl _,h=>by cases h;rfl
 |_,_,_,.int _,h=>by cases h;rfl
 |_,_,_,.str _,h=>by cases h;rfl
 |_,_,_,.tup h r,q=>by
  cases q with
  |tup h' r'=>rw [h] at h';cases h';rw [aE.inj r r']
  |lst h' r'=>rw [h] at h';cases h'
 |_,_,_,.lst h r,q=>by
  cases q with
  |lst h' r'=>rw [h] at h';cases h';rw [aE.inj r r']
  |tup h' r'=>rw [h] at h';cases h'
theorem aE.inj {H:Hp}:∀{v:List V} {d e:List D},aE H v d->aE H v e->d=e
 |_,_,_,.nil,h=>by cases h;rfl
 |_,_,_,.cons h r,q=>by cases q with|cons h' r'=>rw [al.inj h h',aE.inj r r']
end
def but (H:Hp)(M:List Addr):Hp:=λb=>if b∈M then none else H b
def Fx (H:Hp):but H []=H:=by funext b;simp [but]
def bn{M:ZX}(h:b∉M):but H M b=H b:=by simp [but,h]
def aw(h:but H M b=some o):b∉M/\H b=some o:=by
 unfold but at h;split at h
 .cases h
 .exact ⟨‹_›,h⟩
def qO (H:Hp)(M:ZX):ab (but H M) H:=λb o h=>(aw h).2
theorem _root_.L2.ab.but(e:ab H a)(M:ZX):ab (but H M) (but a M):=λb o h=>by
 obtain ⟨c,d⟩:=aw h;rw [bn c];exact e b o d
def dN {H:Hp}{M:ZX}{a:Addr}{o:HO}(h:a∈M):but (upd H a o) M=but H M:=by
 funext b;unfold FL.but;by_cases hb:b∈M
 .rw [Mp hb,Mp hb]
 .rw [Mj hb,Mj hb,aD (λe:b=a=>hb (by rw [e];exact h))]
def BA {H:Hp}{M:ZX}{a:Addr}{o:HO}(h:a∉M):but (upd H a o) M=upd (but H M) a o:=by
 funext b;by_cases hb:b∈M
 .rw [aD (λe:b=a=>h (by rw [<-e];exact hb))]
  simp [FL.but,hb]
 .rw [bn hb]
  by_cases e:b=a
  .subst e;rw [aO,aO]
  .rw [aD e,aD e,bn hb]
def eA{M M':ZX}(h:∀a∈M,a∈M'):ab (but H M') (but H M):=λb o e=>by
 obtain ⟨c,d⟩:=aw e;rw [bn λz=>c<|h b z];exact d
def da{H:Hp}(h:H p=none)(o:HO):ab H (upd H p o):=λb u q=>by rw [aD<|dm q h];exact q
def au (M:List Addr)(H:Hp):Prop:=∀a∈M,H a≠none
def au.nil:au [] H:=λ_ h=>nomatch h
def au.same(l:au M H)(e:ab H b):au M b:=λa c z=>by
 cases q:H a with
 |none=>exact l a c q
 |some o=>rw [e a o q] at z;cases z
def au.cons {M:ZX}{H:Hp}{a:Addr}{o:HO}(l:au M H)(h:H a=some o):au (a::M) H:=λb c=>by
 rcases Mn.mp c with e|e
 .rw [e,h];exact λz=>nomatch z
 .exact l b e
def au.fresh(l:au M H)(h:H p=none):p∉M:=λz=>l p z h
theorem au.upd {M:ZX}{H:Hp}{a:Addr}{o:HO}(l:au M H):au M (L2.upd H a o):=λb hb z=>by
 by_cases e:b=a
 .subst e;rw [aO] at z;cases z
 .rw [aD e] at z;exact l b hb z
def oH(l:au M H)(h:H p=none)(r:aE (but H M) a b):al (but (upd H p (.tup a)) M) (.ref p) (.tup b):=by
 rw [BA<|l.fresh h];exact .tup aO<|r.mono<|da (by rw [bn<|l.fresh h];exact h) _
def oX(l:au M H)(h:H p=none)(r:aE (but H M) a b):al (but (upd H p (.lst a)) M) (.ref p) (.lst b):=by
 rw [BA<|l.fresh h];exact .lst aO<|r.mono<|da (by rw [bn<|l.fresh h];exact h) _
def me{H:Hp}{M:ZX}(e:a∉M)(h:H a=some (.lst c))(r:aE (but H (a::M)) c d):al (but H M) (.ref a) (.lst d):=
 .lst (by rw [bn e];exact h) (r.mono<|eA λb f=>L8 _ f)
def rT{H:Hp}(h:H a=none)(r:al (but H M) v d):al (but (upd H a o) (a::M)) v d:=by
 rw [dN<|Mc];refine r.mono λb u e=>?_;obtain ⟨f,c⟩:=aw e;rw [bn]
 .exact c
 .intro z;rcases Mn.mp z with rfl|z
  .rw [h] at c;cases c
  .exact f z
theorem tJ{H:Hp}(h:H a=none):∀{b:List V} {c:ZZ},aE (but H M) b c->aE (but (upd H a o) (a::M)) b c
 |_,_,.nil=>.nil
 |_,_,.cons q r=>.cons (rT h q)<|tJ h r
def ae (te:TE)(G:Hp)(σ:St)(d:D):Prop:=
 ∀M H,ab G (but H M)->au M H->∀Q:VK,(∀v H',ab H H'->al (but H' M) v d->Q v H')->te σ H Q
def dJ (ta:TA)(G:Hp)(σ:St)(ds:List D):Prop:=
 ∀M H,ab G (but H M)->au M H->∀Q:List V->Hp->Prop,(∀vs H',ab H H'->aE (but H' M) vs ds->Q vs H')->ta σ H Q
def bg (tt:TT)(G:Hp)(σ:St)(b:Bool):Prop:=
 ∀M H,ab G (but H M)->au M H->∀Q:Bool->Hp->Prop,(∀H',ab H H'->Q b H')->tt σ H Q
def ae.at{Q:VK}(h:ae te (but H M) b d)(l:au M H)(k:∀v a,ab H a->al (but a M) v d->Q v a):te b H Q:=h M H (ab.refl _) l Q k
def ae.eq(h:ae a G b d)(e:d=c):ae a G b c:=e▸h
def bg.eq(h:bg a G b d)(e:d=c):bg a G b c:=e▸h
section
variable {G:Hp}{σ:St}{ta tb tc:TE}{tt tu:TT}{t:TA}{d d1 d2:D}{ds:List D}{K:PySem.W.Frag}
def cL{i:Nat}(e:σ[i]?=some (some v))(r:al G v d):ae (aU i) G σ d:=λM H s l Q k=>⟨v,e,k v H (ab.refl _)<|r.mono s⟩
def uH(r:∀H,al H v d):ae (tC v) G σ d:=λM H s l Q k=>k _ H (ab.refl _)<|r _
def aq:ae (tC (.int i)) G σ (.int i):=uH λ_=>.int i
def aK:ae (tC (.str x)) G σ (.str x):=uH λ_=>.str x
def lS:ae (tC (.bl b)) G σ (.bl b):=uH λ_=>.bl b
def jY {r:R2}(e:∀M H x y,au M H->al (but H M) x d1->al (but H M) y d2->∀Q:VK,(∀v b,ab H b->al (but b M) v d->Q v b)->r x y H Q)(f:ae ta G σ d1)(g:ae tb G σ d2):ae (bJ r ta tb) G σ d:=
 λM H s l Q k=>f M H s l _ λx h a i=>g M h (s.trans<|a.but M) (l.same a) _ λy j c m=>
  e M j x y (l.same<|a.trans c) (i.mono<|c.but M) m Q λv n o p=>k v n (a.trans<|c.trans o) p
def qp{g:Int->Int->V}(a:∀b,al b (g i j) d)(c:ae ta G σ (.int i))(e:ae tb G σ (.int j)):ae (bJ (gu g) ta tb) G σ d:=
 jY (λM H x y l f h Q k=>⟨i,j,f.eM,h.eM,k _ H (ab.refl _)<|a _⟩) c e
def ul{C:Int->Int->Prop}{g:Int->Int->V}(a:C i j)(b:∀c,al c (g i j) d)(e:ae ta G σ (.int i))(f:ae tb G σ (.int j)):ae (bJ (rI C g) ta tb) G σ d:=
 jY (λM H x y l h m Q k=>⟨i,j,h.eM,m.eM,a,k _ H (ab.refl _)<|b _⟩) e f
def j7(a:ae ta G σ (.int i))(b:ae tb G σ (.int j)):ae (bJ (gu λi j=>.int (i+j)) ta tb) G σ (.int (i+j)):=qp (λ_=>.int _) a b
def J5(a:ae ta G σ (.int i))(b:ae tb G σ (.int j)):ae (bJ (gu λi j=>.int (i-j)) ta tb) G σ (.int (i-j)):=qp (λ_=>.int _) a b
def yr(a:m6 i j)(b:ae ta G σ (.int i))(c:ae tb G σ (.int j)):ae (bJ (rI m6 λi j=>.int (i*j)) ta tb) G σ (.int (i*j)):=ul a (λ_=>.int _) b c
def eZ(a:0<j)(b:ae ta G σ (.int i))(c:ae tb G σ (.int j)):ae (bJ (rI (λ_ j=>0<j) λi j=>.int (i%j)) ta tb) G σ (.int (i%j)):=ul (C:=λ_ j=>0<j) a (λ_=>.int _) b c
def gX(a:vW i j)(b:ae ta G σ (.int i))(c:ae tb G σ (.int j)):ae (bJ (rI vW λi j=>.int (i/j)) ta tb) G σ (.int (i/j)):=ul a (λ_=>.int _) b c
def HI(a:xt i j)(b:ae ta G σ (.int i))(c:ae tb G σ (.int j)):ae (bJ (rI xt λi j=>.int (i^j.toNat)) ta tb) G σ (.int (i^j.toNat)):=ul a (λ_=>.int _) b c
def kD(a:ae ta G σ (.int i))(b:ae tb G σ (.int j)):ae (bJ (gu λi j=>.bl (decide (i<j))) ta tb) G σ (.bl (decide (i<j))):=qp (λ_=>.bl _) a b
def uc(a:ae ta G σ (.int i))(b:ae tb G σ (.int j)):ae (bJ (gu λi j=>.bl (decide (j<i))) ta tb) G σ (.bl (decide (j<i))):=qp (λ_=>.bl _) a b
def uw(a:ae ta G σ (.int i))(b:ae tb G σ (.int j)):ae (bJ (gu λi j=>.bl (decide (j<=i))) ta tb) G σ (.bl (decide (j<=i))):=qp (λ_=>.bl _) a b
def mL(a:ae ta G σ (.int i)):ae (Cg (rU λi=>.int (-i)) ta) G σ (.int (-i)):=
 λM H s l Q k=>a M H s l _ λx b c e=>⟨i,e.eM,k _ b c (.int _)⟩
def D.sc:D->Bool
 |.int _=>true|.str _=>true|_=>false
def yZ{d:D}(f:al H x d)(a:al c y e)(g:d.sc=true)(b:e.sc=true):wK x y=true/\decide (x=y)=decide (d=e):=by
 cases f with
 |int i=>
  cases a with
  |int j=>exact ⟨rfl,by simp⟩
  |str j=>exact ⟨rfl,by simp⟩
  |_=>exact absurd b (by simp [D.sc])
 |str i=>
  cases a with
  |int j=>exact ⟨rfl,by simp⟩
  |str j=>exact ⟨rfl,by simp⟩
  |_=>exact absurd b (by simp [D.sc])
 |_=>exact absurd g (by simp [D.sc])
def ag:dJ bL G σ []:=λM H s l Q k=>k [] H (ab.refl _) .nil
def aa (c:ae ta G σ d)(e:dJ t G σ ds):dJ (bu ta t) G σ (d::ds):=
 λM H s l Q k=>c M H s l _ λx f a g=>e M f (s.trans<|a.but M) (l.same a) _ λj h b i=>k _ h (a.trans b) (.cons (g.mono<|b.but M) i)
def aQ (h:dJ t G σ ds)(hz:ds.length<=sizeLine:=by exact ND (cq Z8)):ae (tQ t) G σ (.tup ds):=
 λM H s l Q k=>h M H s l _ λe f a b=>⟨by rw [b.length];exact hz,λp c=>k _ _ (a.trans<|da c _)<|oH (l.same a) c b⟩
def eP (h:dJ t G σ ds)(hz:ds.length<=sizeLine:=by exact ND (cq Z8)):ae (kn t) G σ (.lst ds):=
 λM H s l Q k=>h M H s l _ λe f a b=>⟨by rw [b.length];exact hz,λp c=>k _ _ (a.trans<|da c _)<|oX (l.same a) c b⟩
def zk{ds:ZZ}{d:D}(r:aE H a ds)(h:de ds i=some d):∃v,de a i=some v/\al H v d:=by
 unfold de at h⊢;rw [r.length];cases e:mw ds.length i with
 |none=>rw [e] at h;cases h
 |some j=>rw [e] at h;exact r.get h
def oP {r:List V->Hp->VK->Prop}(e:∀M H b,au M H->aE (but H M) b ds->∀Q:VK,(∀v a,ab H a->al (but a M) v d->Q v a)->r b H Q)(h:dJ t G σ ds):ae (cM r t) G σ d:=
 λM H s l Q k=>h M H s l _ λf g c i=>e M g f (l.same c) i Q λv j m n=>k v j (c.trans m) n
def iF{d:D}(h:aE H a [d]):∃x,a=[x]/\al H x d:=by
 cases h with|cons q r=>cases r;exact ⟨_,rfl,q⟩
def qa{d:D}(h:aE H a [d,e]):∃x y,a=[x,y]/\al H x d/\al H y e:=by
 cases h with|cons q r=>cases r with|cons b r=>cases r;exact ⟨_,_,rfl,q,b⟩
def d9(h:dJ t G σ [.lst l]):ae (cM (λc H Q=>∃p b,c=[.ref p]/\(aN K H p b\/bz K H p b)/\Q (.int b.length) H) t) G σ (.int l.length):=
 oP (λM H c j e Q k=>by
  obtain ⟨x,rfl,q⟩:=iF e;obtain ⟨a,f,rfl,g,i⟩:=q.dX;refine ⟨a,f,rfl,.inl<|aN.of (aw g).2,?_⟩;rw [i.length];exact k _ H (ab.refl _) (.int _)) h
def fA(h:dJ t G σ [.tup l]):ae (cM (λc H Q=>∃p b,c=[.ref p]/\(aN K H p b\/bz K H p b)/\Q (.int b.length) H) t) G σ (.int l.length):=
 oP (λM H c j e Q k=>by
  obtain ⟨x,rfl,q⟩:=iF e;obtain ⟨a,f,rfl,g,i⟩:=q.fb;refine ⟨a,f,rfl,.inr<|bz.of (aw g).2,?_⟩;rw [i.length];exact k _ H (ab.refl _) (.int _)) h
def Dk(h:dJ t G σ [.lst l]):
  ae (cM (λc H Q=>∃p b,c=[.ref p]/\(aN K H p b\/bz K H p b)/\∀l,H l=none->Q (.ref l) (upd H l (.lst b))) t) G σ (.lst l):=
 oP (λM H c f g Q k=>by
  obtain ⟨x,rfl,q⟩:=iF g;obtain ⟨a,i,rfl,j,m⟩:=q.dX;exact ⟨a,i,rfl,.inl<|aN.of (aw j).2,λp e=>k _ _ (da e _)<|oX f e m⟩) h
def K9(h:dJ t G σ [.tup l]):
  ae (cM (λc H Q=>∃p b,c=[.ref p]/\(aN K H p b\/bz K H p b)/\∀l,H l=none->Q (.ref l) (upd H l (.lst b))) t) G σ (.lst l):=
 oP (λM H c f g Q k=>by
  obtain ⟨x,rfl,q⟩:=iF g;obtain ⟨a,i,rfl,j,m⟩:=q.fb;exact ⟨a,i,rfl,.inr<|bz.of (aw j).2,λp e=>k _ _ (da e _)<|oX f e m⟩) h
def qP(h:dJ t G σ [.lst l]):
  ae (cM (λc H Q=>∃p b,c=[.ref p]/\((aN K H p b/\∀l,H l=none->Q (.ref l) (upd H l (.tup b)))\/(bz K H p b/\Q (.ref p) H))) t) G σ (.tup l):=
 oP (λM H c f g Q k=>by
  obtain ⟨x,rfl,q⟩:=iF g;obtain ⟨a,i,rfl,j,m⟩:=q.dX;exact ⟨a,i,rfl,.inl ⟨aN.of (aw j).2,λp e=>k _ _ (da e _)<|oH f e m⟩⟩) h
def ck(h:ae ta G σ (.bl b)):bg (oO ta) G σ b:=λM H s l Q k=>h M H s l _ λv a c e=>⟨b,e.jm,k a c⟩
def cH(h:ae ta G σ (.bl b)):bg (tB ta) G σ b:=λM H s l Q k=>h M H s l _ λv a c e=>⟨b,e.jm,k a c⟩
def dB(h:bg tt G σ b):bg (CD tt) G σ (!b):=λM H s l Q k=>h M H s l _ λa c=>k a c
def jw:bg lh G σ true:=λM H s l Q k=>k H<|ab.refl _
def ly(h:bg tt G σ b)(f:b=true->bg tu G σ c):bg (sw tt tu) G σ (b&&c):=λM H s l Q k=>h M H s l _ λe a=>by
 cases b with
 |true=>rw [Mp rfl];exact f rfl M e (s.trans<|a.but M) (l.same a) _ λg i=>k g<|a.trans i
 |false=>rw [Mj Mm];exact k e a
def fK(h:bg tt G σ b)(f:b=false->bg tu G σ c):bg (Bv tt tu) G σ (b||c):=λM H s l Q k=>h M H s l _ λe a=>by
 cases b with
 |true=>rw [Mp rfl];exact k e a
 |false=>rw [Mj Mm];exact f rfl M e (s.trans<|a.but M) (l.same a) _ λg i=>k g<|a.trans i
def fN(h:ae ta G σ (.bl b))(f:b=true->ae tb G σ (.bl c)):ae (uk ta tb) G σ (.bl (b&&c)):=λM H s l Q k=>h M H s l _ λv e a g=>⟨b,g.jm,by
 cases b with
 |true=>rw [Mp rfl];exact f rfl M e (s.trans<|a.but M) (l.same a) _ λv i j m=>k v i (a.trans j) m
 |false=>rw [Mj Mm];exact k _ e a (.bl _)⟩
def EW(h:ae ta G σ (.bl b))(f:b=false->ae tb G σ (.bl c)):ae (BN ta tb) G σ (.bl (b||c)):=λM H s l Q k=>h M H s l _ λv e a g=>⟨b,g.jm,by
 cases b with
 |true=>rw [Mp rfl];exact k _ e a (.bl _)
 |false=>rw [Mj Mm];exact f rfl M e (s.trans<|a.but M) (l.same a) _ λv i j m=>k v i (a.trans j) m⟩
def zb(h:ae ta G σ (.bl b)):ae (BJ ta) G σ (.bl (!b)):=λM H s l Q k=>h M H s l _ λv a c e=>⟨b,e.jm,k _ a c (.bl _)⟩
end
section
variable {M:List Addr}{H:Hp}{σ:St}{ta:TE}{tt:TT}{d:D}{E:Ends}
def BB{c e:TS}(l:au M H)(h:bg tt (but H M) σ b)(f:b=true->∀a,ab H a->c E σ a)(g:b=false->∀a,ab H a->e E σ a):np tt c e E σ H:=h M H (ab.refl _) l _ λa s=>by
 cases b with
 |true=>rw [Mp rfl];exact f rfl a s
 |false=>rw [Mj Mm];exact g rfl a s
end
end FL
namespace PySem
open Sem (wp)
def Fm:typeLookup (.type "list") "keys"=pure none:=by rw [typeLookup_type,builtinLookup_eq_fast];kernel_rfl
set_option maxHeartbeats 2000000 in
def Kk{A:Around}{s:Shared}{name:Str}{Q:Option Value->Shared->Prop}
  (t:s.heap.get? a=some o) (u:o.cls=.type "list") (f:o.data=.seq r k) (v:o.dict=none) (i:typeLookup (.type "list") name=pure none) (j:(["__module__","__name__","__qualname__","__doc__","__annotations__"]:ZY).contains name=false) (z:A.handled=none)
  (h:∀p x,(∀b o,s.heap.get? b=some o->p.get? b=some o)->Q none {s with heap:=p,toks:=x}) (q:name.length+100<=sizeLine:=by size_fits):
  wpAny (model l w) A (getAttr? (.ref a) name) Q E s:=by
 obtain ⟨c,B,C,G⟩:=o;simp only at u f v;subst u f v;obtain ⟨H,g,d,x,os⟩:=s;have y:∀m,(⟨H,g,d,m,os⟩:Shared).TypeIs (.ref a) "list":=λ_=>⟨_,t,rfl⟩
 have I:=sub_AttributeError;have J:=OY.lookup;have L:=OY.bind (.ref a);have M:=am_list_getattr_none;unfold getAttr? getAttrBy? getAttrBy
 repeat (any_goals (first|assumption|exact y _|((with_reducible show wpAny _ _ (call (Value.builtin "list.__getattribute__") _ _) _ _ _);refine QW OY (y _) am_entry_list_getattribute (F.args_list_getattribute_2 _ _) (meets_getattribute_miss_list a r k G name _ i j q) ⟨t,z,λp m e n=>?_⟩)|wp_step))
 obtain ⟨N,O,T⟩:=n.there;show wpAny _ _ (getattributeRaised _ _ _ _ _ _ _) _ _ _;unfold getattributeRaised
 repeat (any_goals (first|assumption|wp_step))
 exact h _ _ n.of.keeps
namespace F
def y8:entryFor table "dict.update.loop"=some Builtin.«dict.update.loop»:=entryFor_of_tree (by kernel_rfl)
def tF:plainId "dict.update.loop"=true:=by decide+kernel
end F
section
variable {prog:Program}{w:World}{K:Type} [DecidableEq K] {knd:KeyKind prog w K}{A:Around}{R:Result->Shared->Prop}{s:Shared}
def wm (knd:KeyKind prog w K)(h:Heap)(u:Value)(p:K×Value):Prop:=∃b kv,u=.ref b/\h.IsTuple b #[kv,p.2]/\knd.is p.1 kv=true
def Hs{A:Around}{s:Shared}{Q:List Value->Shared->Prop}(d:s.heap.IsTuple b a)(e:Q a.toList s):wpAny (model prog w) A (Builtin.Dict.pairItems (.ref b)) Q E s:=by
 obtain ⟨o,c,f,n,g⟩:=d;unfold Builtin.Dict.pairItems;refine L9<|P4 (show s.TypeIs (.ref b) "tuple" from ⟨o,c,f⟩) ?_;rw [Mp Z1];refine L9 ?_;unfold seqItems?;refine L9<|wpAny_load c ?_;rw [g];exact Mt<|Mt e
theorem Ci{items:Array Value}(hA:A.handled=none):∀(cm:List (K×Value)) (i:Nat) (s:Shared) (z:List (K×Value)),items.size=i+cm.length->
  (∀j p,cm[j]?=some p->∃u,items[i+j]?=some u/\wm knd s.heap u p)->s.heap.IsListIter k l i->s.heap.IsList l items->s.heap.DictOf knd d z->z.length+cm.length<=sizeLine->
  (∀C tk,C.DictOf knd d (merged z cm)->(∀b o,b≠d->b≠k->s.heap.get? b=some o->C.get? b=some o)->R (.ok (.ret B)) {s with heap:=C,toks:=tk})->
  codeAny (model prog w) A (.builtin "dict.update.loop" ⟨[.ref d,.ref k,rawInt i,B],[]⟩) R s
 |[],i,s,z,E,hp,h,J,G,hz,hR=>by
  refine O6 F.y8 ?_;rw [OK F.tF _];show wpAny _ A.in1 (pyNext (.ref k)>>=_) _ _ s;have v:d≠k:=by
   rintro rfl;obtain ⟨o,f,U,g⟩:=h;obtain ⟨L,H,I,c,m,a,_⟩:=G;rw [f] at c;cases c;rw [g] at a;cases a
  refine L9<|wpAny_pyNext_list_end hA h J (by simp at E⊢;omega) λC ext=>?_
  show wpAny _ A.in1 (Builtin.Dict.addKeywords d []>>=λ_=>ret B) _ _ _;refine L9<|Mt<|Mt<|hR C s.toks ?_ λb o _ hb e=>ext b o hb e
  obtain ⟨o,H,I,f,r⟩:=G;exact ⟨o,H,I,ext _ _ v f,r⟩
 |p::cm,i,s,z,E,hp,h,J,G,hz,hR=>by
  refine O6 F.y8 ?_;rw [OK F.tF _];show wpAny _ A.in1 (pyNext (.ref k)>>=_) _ _ s;obtain ⟨u,hu,b,kv,rfl,M,hk⟩:=hp 0 p rfl;have v:d≠k:=by
   rintro rfl;obtain ⟨o,f,U,g⟩:=h;obtain ⟨L,H,I,c,m,a,_⟩:=G;rw [f] at c;cases c;rw [g] at a;cases a
  have ac:l≠k:=by
   rintro rfl;obtain ⟨o,f,U,g⟩:=h;obtain ⟨L,c,m,n,a⟩:=J;rw [f] at c;cases c;rw [g] at a;cases a
  have af:l≠d:=by
   rintro rfl;obtain ⟨o,H,I,f,U,g,_⟩:=G;obtain ⟨L,c,m,n,a⟩:=J;rw [f] at c;cases c;rw [g] at a;cases a
  have N:∀{b:Addr} {xs:Array Value},s.heap.IsTuple b xs->b≠d/\b≠k:=λ{b xs} ht=>by
   obtain ⟨o,f,U,n,g⟩:=ht;refine ⟨?_,?_⟩
   .rintro rfl
    obtain ⟨L,H,I,c,m,a,_⟩:=G;rw [f] at c;cases c;rw [g] at a;cases a
   .rintro rfl
    obtain ⟨L,c,m,a⟩:=h;rw [f] at c;cases c;rw [g] at a;cases a
  refine L9<|wpAny_pyNext_list_item h J (x:=.ref b) (by simpa using hu) λY O t=>?_
  have aj:Y.IsTuple b #[kv,p.2]:=by
   obtain ⟨o,f,r⟩:=M;exact ⟨o,(t.2 b (N ⟨o,f,r⟩).2).trans f,r⟩
  have vt:Y.DictOf knd d z:=by
   obtain ⟨o,H,I,f,r⟩:=G;exact ⟨o,H,I,(t.2 d v).trans f,r⟩
  refine L9<|NQ<|L9<|OL<|Hs (s:={s with heap:=Y}) aj ?_
  show wpAny _ A.in1 (holding [kv,p.2]<|dictSet d kv p.2) _ _ _;refine NQ<|wpAny_dictSet_pairs (s:={s with heap:=Y}) (hsz:=by simp at hz;omega) hk vt λh2 dz y=>?_
  have Q:h2.IsListIter k l (i+1):=by
   obtain ⟨o,f,r⟩:=O;exact ⟨o,(y.2 k<|M6 v).trans f,r⟩
  have am:h2.IsList l items:=by
   obtain ⟨o,f,r⟩:=J;exact ⟨o,(y.2 l af).trans<|(t.2 l ac).trans f,r⟩
  have an:(rawInt i:Value)=rawInt i:=rfl;refine Mt ⟨OZ F.tF _,?_⟩;have e1:((i:Int)+1)=((i+1:Nat):Int):=by omega
  rw [e1];refine Ci hA cm (i+1) _ (stored z p.1 p.2) (by simp at E;omega) (λj q hq=>?_) Q am dz ?_ λC tk ao kp=>?_
  .obtain ⟨u',as,b',a0,rfl,T,a1⟩:=hp (j+1) q (by simpa using hq);refine ⟨.ref b',by rw [<-as];congr 1;omega,b',a0,rfl,?_,a1⟩;obtain ⟨n1,n2⟩:=N T;obtain ⟨o,f,r⟩:=T;exact ⟨o,(y.2 b' n1).trans<|(t.2 b' n2).trans f,r⟩
  .have:=stored_length_le z p.1 p.2;simp at hz;omega
  .exact hR C tk ao λb o n1 n2 e=>kp b o n1 n2<|(y.2 b n1).trans<|(t.2 b n2).trans e
end
end PySem
namespace PySem
section
variable {prog:Program}{w:World}{K:Type} [DecidableEq K] {knd:KeyKind prog w K}{A:Around}{E:Value->Shared->Prop}{s:Shared}
def Dp{cm:List (K×Value)}{Q:ZT}(L:A.handled=none)
  (v:s.heap.get? l=some o) (x:o.cls=.type "list") (B:o.dict=none) (d:o.data=.seq a n) (N:a.size=cm.length)
  (O:∀(j:Nat) p,cm[j]?=some p->∃u,a[j]?=some u/\wm knd s.heap u p) (T:cm.length<=sizeLine)
  (h:∀i C,i.DictOf knd s.heap.objs.size (merged [] cm)->(∀b o,s.heap.get? b=some o->i.get? b=some o)->Q (.ref s.heap.objs.size) {s with heap:=i,toks:=C}):
  wpAny (model prog w) A (call (.type "dict") [.ref l]) Q E s:=by
 refine callType_codes (Q₁:=λk g=>k=.ref s.heap.objs.size/\g={s with heap:=s.heap.push {cls:=.type "dict",data:=.dict #[]}}) F.kt_called_dict (F.kt_typeCall_dict_1 _) F.entry_dict_init (kt_code_dict_new _ ⟨rfl,rfl⟩) ?_;rintro k g ⟨rfl,rfl⟩;have f:(s.heap.push {cls:=.type "dict",data:=.dict #[]}).DictOf knd s.heap.objs.size []:=Heap.DictOf.new s.heap;have m:∀b o,s.heap.get? b=some o->(s.heap.push {cls:=.type "dict",data:=.dict #[]}).get? b=some o:=λb o e=>Mf _ e;generalize U:s.heap.objs.size=D at*
 generalize hH:s.heap.push {cls:=.type "dict",data:=.dict #[]}=M at*
 refine ⟨f.typeIs,F.args_dict_init_2 _ _,?_⟩;unfold Builtin.«dict.__init__»;refine L9 ?_;unfold Builtin.Dict.selfAndRest;refine L9<|wpAny_notOrdered_dict f.typeIs ?_
 show wpAny _ _ (pure (D,[Value.ref l])) _ _ _;refine Mt ?_;show wpAny _ _ (Builtin.Dict.updateFrom "dict.__init__" D (.ref l) [] .none) _ _ _;unfold Builtin.Dict.updateFrom;refine L9<|P4 (show ({s with heap:=M}:Shared).TypeIs (.ref l) "list" from ⟨o,m _ _ v,x⟩) ?_
 rw [Mp Z1];refine L9<|Kk (s:={s with heap:=M}) (m _ _ v) x d B Fm Z1 L λy q z=>?_
 refine L9<|Pd ?_
 refine L9<|NE (s:={s with heap:=y,toks:=q}) (l:=l) (items:=a) ⟨o,z _ _<|m _ _ v,x,n,d⟩ ?_
 have G:∀b c,s.heap.get? b=some c->(y.push {cls:=.type "list_iterator",data:=.fields #[.ref l,.int 0 0]}).get? b=some c:=λb c e=>Mf _<|z b c<|m b c e
 have dz:(y.push {cls:=.type "list_iterator",data:=.fields #[.ref l,.int 0 0]}).DictOf knd D []:=by
  obtain ⟨Y,es,ep,H,r⟩:=f;exact ⟨Y,es,ep,Mf _<|z _ _ H,r⟩
 refine Mt ⟨OZ F.tF _,?_⟩;refine Ci (A:=A.in1) (knd:=knd) (l:=l) (items:=a) (R:=wants (λr t=>r=.none/\Q (.ref D) t) E) L cm 0 {s with heap:=y.push {cls:=.type "list_iterator",data:=.fields #[.ref l,.int 0 0]},toks:=q} [] Z4 (λj p hj=>?_) ⟨_,Mz _ rfl,rfl,rfl⟩ ⟨o,G _ _ v,x,n,d⟩ dz (by simpa using T) λi C I kp=>?_
 .obtain ⟨u,hu,b,kv,rfl,⟨c,J,r⟩,hk⟩:=O j p hj;exact ⟨.ref b,by simpa using hu,b,kv,rfl,⟨c,G _ _ J,r⟩,hk⟩
 .refine ⟨rfl,h i C I λb c e=>kp b c ?_ ?_ (G b c e)⟩
  .exact MM (by rw [<-U];exact MA e)
  .exact MM<|MA<|z b c<|m b c e
end
end PySem
namespace FL
open PySem L2
mutual
def cw:D->D->Bool
 |.int _,.int _=>true
 |.int _,.str _=>true
 |.str _,.int _=>true
 |.str _,.str _=>true
 |.tup a,.tup b=>gg a b
 |.lst a,.lst b=>gg a b
 |_,_=>false
def gg:List D->List D->Bool
 |a::r,b::t=>cw a b&&gg r t
 |_,_=>true
end
mutual
def D.cN:D->Nat
 |.tup l=>D.fy l+1
 |.lst l=>D.fy l+1
 |_=>0
def D.fy:List D->Nat
 |[]=>0
 |a::r=>max (D.cN a) (D.fy r)
end
theorem qw:∀{l:ZZ} {j:Nat} {d:D},l[j]?=some d->d.cN<=D.fy l
 |[],_,_,h=>by simp at h
 |a::r,0,d,h=>by simp at h;subst h;exact Nat.le_max_left _ _
 |a::r,j+1,d,h=>by
  have:=qw (l:=r) (j:=j) (d:=d) (by simpa using h);exact MF this<|Nat.le_max_right _ _
theorem qt:∀{l m:ZZ} {j:Nat} {d e:D},gg l m=true->l[j]?=some d->m[j]?=some e->cw d e=true
 |[],_,_,_,_,_,h,_=>by simp at h
 |_::_,[],_,_,_,_,_,h=>by simp at h
 |a::r,b::t,0,d,e,h,c,f=>by
  simp at c f;subst c;subst f;rw [gg,Na] at h;exact h.1
 |a::r,b::t,j+1,d,e,h,c,f=>by
  rw [gg,Na] at h;exact qt (l:=r) (m:=t) (j:=j) h.2 (by simpa using c) (by simpa using f)
def rY {l m:ZZ}:((List.range (min l.length m.length)).all (λj=>decide (l[j]?=m[j]?))&&l.length==m.length)=decide (l=m):=by
 rw [MZ,Na,OM,Pc,Pe];constructor
 .rintro ⟨a,c⟩
  refine Oe λj=>?_;by_cases b:j<min l.length m.length
  .exact MC<|a j<|QU.mpr b
  .rw [M3 Z4,M3 Z4]
 .rintro rfl
  exact ⟨λj _=>by simp,rfl⟩
def js{P:Program}{w:World}{K:W.Frag}{j:Nat}(r:be a b)(h:b[j]?=some u):∃x,a[j]?=some x/\RelV x u:=by
 have f:=r.length;obtain ⟨g,_⟩:=Ma.mp h;have c:a[j]?=some (a[j]'Z4):=Mb Z4;obtain ⟨i,d,e⟩:=r.get c;rw [h] at d;cases d;exact ⟨_,c,e⟩
open SeqAt in
def u9{s:Shared}(ok:cZ P w H s.heap)(hG:ab G H):∀(n:Nat) {d e:D} {x y:V} {u z:Value} {A:Around},d.cN<=n->al G x d->al G y e->RelV x u->RelV y z->cw d e=true->A.units+n<cLine->
  EqAt A s u z (decide (d=e)):=by
 intro n;induction n with
 |zero=>
  intro d e x y u z A T rx v B p g hu;cases rx with
  |int i=>
   obtain ⟨t,rfl⟩:=B;cases v with
   |int j=>
    obtain ⟨h,rfl⟩:=p;have q:decide (D.int i=D.int j)=(i==j):=by rw [MZ];simp
    rw [q];exact EqAt.int_int i t j h
   |str j=>
    obtain ⟨h,rfl⟩:=p;have q:decide (D.int i=D.str j)=false:=by simp
    rw [q];exact EqAt.int_str i t j h
   |_=>exact absurd g (by simp [cw])
  |str i=>
   obtain ⟨t,rfl⟩:=B;cases v with
   |int j=>
    obtain ⟨h,rfl⟩:=p;have q:decide (D.str i=D.int j)=false:=by simp
    rw [q];exact EqAt.str_int i t j h
   |str j=>
    obtain ⟨h,rfl⟩:=p;have q:decide (D.str i=D.str j)=(i==j):=by rw [MZ];simp
    rw [q];exact EqAt.str_str i t j h
   |_=>exact absurd g (by simp [cw])
  |av=>exact absurd g (by simp [cw])
  |bl _=>exact absurd g (by simp [cw])
  |tup _ _=>simp [D.cN] at T
  |lst _ _=>simp [D.cN] at T
 |succ n ih=>
  intro d e x y u z A T rx v B p g hu;cases rx with
  |int i=>
   obtain ⟨t,rfl⟩:=B;cases v with
   |int j=>
    obtain ⟨h,rfl⟩:=p;have q:decide (D.int i=D.int j)=(i==j):=by rw [MZ];simp
    rw [q];exact EqAt.int_int i t j h
   |str j=>
    obtain ⟨h,rfl⟩:=p;have q:decide (D.int i=D.str j)=false:=by simp
    rw [q];exact EqAt.int_str i t j h
   |_=>exact absurd g (by simp [cw])
  |str i=>
   obtain ⟨t,rfl⟩:=B;cases v with
   |int j=>
    obtain ⟨h,rfl⟩:=p;have q:decide (D.str i=D.int j)=false:=by simp
    rw [q];exact EqAt.str_int i t j h
   |str j=>
    obtain ⟨h,rfl⟩:=p;have q:decide (D.str i=D.str j)=(i==j):=by rw [MZ];simp
    rw [q];exact EqAt.str_str i t j h
   |_=>exact absurd g (by simp [cw])
  |av=>exact absurd g (by simp [cw])
  |bl _=>exact absurd g (by simp [cw])
  |@tup a vs l U C=>
   cases B;cases v with
   |@tup b ws m E I=>
    cases p;rw [cw] at g;by_cases o:a=b
    .subst o;rw [U] at E;cases E;rw [aE.inj C I,My rfl];exact EqAt.same _
    .obtain ⟨_,f,Y,p1⟩:=(show ca P w H s.heap a (.tup vs) from ok a _<|hG _ _ U)
     obtain ⟨_,c,r2,p2⟩:=(show ca P w H s.heap b (.tup ws) from ok b _<|hG _ _ E)
     have n1:f.toArray.size=l.length:=by rw [Mw,<-Y.length,C.length]
     have n2:c.toArray.size=m.length:=by rw [Mw,<-r2.length,I.length]
     have q:decide (D.tup l=D.tup m)=((List.range<|min f.toArray.size c.toArray.size).all (λj=>decide<|l[j]?=m[j]?)&&f.toArray.size==c.toArray.size):=by
      rw [n1,n2,rY,MZ];simp
     rw [q];refine EqAt.of_refs o<|RcAt.tuples p1 p2 Z4 λj h1 h2=>?_
     obtain ⟨x',hx,J⟩:=js (P:=P) (w:=w) (K:=[]) Y (j:=j) (u:=f.toArray[j]) Z8;obtain ⟨y',hy,L⟩:=js (P:=P) (w:=w) (K:=[]) r2 (j:=j) (u:=c.toArray[j]) Z8;obtain ⟨d',k,M⟩:=C.iS hx;obtain ⟨e',r,N⟩:=I.iS hy;have q2:decide (l[j]?=m[j]?)=decide (d'=e'):=by rw [k,r,MZ];simp
     rw [q2];have O:d'.cN<=n:=by
      have:=qw k;simp only [D.cN] at T;omega
     exact ih O M N J L (qt g k r) (by show A.units+1+n<cLine;omega)
   |_=>exact absurd g (by simp [cw])
  |@lst a vs l U C=>
   cases B;cases v with
   |@lst b ws m E I=>
    cases p;rw [cw] at g;by_cases o:a=b
    .subst o;rw [U] at E;cases E;rw [aE.inj C I,My rfl];exact EqAt.same _
    .obtain ⟨_,f,k1,Y,p1⟩:=(show ca P w H s.heap a (.lst vs) from ok a _<|hG _ _ U)
     obtain ⟨_,c,k2,r2,p2⟩:=(show ca P w H s.heap b (.lst ws) from ok b _<|hG _ _ E)
     have n1:f.toArray.size=l.length:=by rw [Mw,<-Y.length,C.length]
     have n2:c.toArray.size=m.length:=by rw [Mw,<-r2.length,I.length]
     by_cases Q:l.length=m.length
     .have q:decide (D.lst l=D.lst m)=((List.range f.toArray.size).all λj=>decide<|l[j]?=m[j]?):=by
       have:=rY (l:=l) (m:=m);rw [n1];have e1:min l.length m.length=l.length:=by omega
       rw [e1] at this;have e2:(l.length==m.length)=true:=by simpa using Q
       rw [e2,PB] at this;rw [this,MZ];simp
      rw [q];refine EqAt.of_refs o<|RcAt.lists ⟨_,p1,rfl,_,rfl⟩ ⟨_,p2,rfl,_,rfl⟩ Z4 Z4 λj h1 h2=>?_
      obtain ⟨x',hx,J⟩:=js (P:=P) (w:=w) (K:=[]) Y (j:=j) (u:=f.toArray[j]) Z8;obtain ⟨y',hy,L⟩:=js (P:=P) (w:=w) (K:=[]) r2 (j:=j) (u:=c.toArray[j]) Z8;obtain ⟨d',k,M⟩:=C.iS hx;obtain ⟨e',r,N⟩:=I.iS hy;have q2:decide (l[j]?=m[j]?)=decide (d'=e'):=by rw [k,r,MZ];simp
      rw [q2];have O:d'.cN<=n:=by
       have:=qw k;simp only [D.cN] at T;omega
      exact ih O M N J L (qt g k r) (by show A.units+1+n<cLine;omega)
     .have q:decide (D.lst l=D.lst m)=false:=by
       rw [Qx];intro z;cases z;exact Q rfl
      rw [q];exact EqAt.of_refs o<|RcAt.lists_lengths ⟨_,p1,rfl,_,rfl⟩ ⟨_,p2,rfl,_,rfl⟩ (by rw [n1,n2];simpa using Q) Z4
   |_=>exact absurd g (by simp [cw])
section
variable {X:Cx}
open SeqAt
def CU (x y:V)(H:Hp)(d e:D):Prop:=∃M,al (but H M) x d/\al (but H M) y e/\cw d e=true/\d.cN<=40
def rC:R2:=λx y H Q=>∃d e,CU x y H d e/\Q (.bl (decide (d=e))) H
def m5:R2:=λx y H Q=>∃d e,CU x y H d e/\Q (.bl (!decide (d=e))) H
def L4{A:Around}(I:Inv X f p H s)(r:al (but H M) (.ref a) d)(y:cw d d=true)(z:d.cN<=40)(B:A.units+50<cLine):
  (∃b n,s.heap.IsTuple a b/\RcAt A s (.ref a) (.ref a) true/\RcNeAt A s (.ref a) (.ref a) false/\n=b.size)\/(∃b n,s.heap.IsList a b/\RcAt A s (.ref a) (.ref a) true/\RcNeAt A s (.ref a) (.ref a) false/\n=b.size):=by
 have q:A.in1.units+45<cLine:=by show A.units+1+45<cLine;omega
 cases r with
 |@tup _ k l m t=>
  left;obtain ⟨_,b,u,e⟩:=(show ca X.prog X.w H s.heap a (.tup k) from I.aA a _ (aw m).2)
  have g:∀j (v:j<b.toArray.size) (x:j<b.toArray.size),EqAt A.in1 s b.toArray[j] b.toArray[j] ((λ_=>true) j):=λj _ _=>EqAt.same _;have h:=RcAt.tuples e e Z4 g;have i:=RcNeAt.tuples e e Z4 g;have o:((List.range<|min b.toArray.size b.toArray.size).all (λ_=>true)&&b.toArray.size==b.toArray.size)=true:=by simp
  rw [o] at h i;exact ⟨_,_,e,h,i,rfl⟩
 |@lst _ k l m t=>
  right;obtain ⟨_,b,C,u,e⟩:=(show ca X.prog X.w H s.heap a (.lst k) from I.aA a _ (aw m).2)
  have g:∀j (v:j<b.toArray.size) (x:j<b.toArray.size),EqAt A.in1 s b.toArray[j] b.toArray[j] ((λ_=>true) j):=λj _ _=>EqAt.same _;have c:s.heap.IsList a b.toArray:=⟨_,e,rfl,_,rfl⟩
  have h:=RcAt.lists c c rfl Z4 g;have i:=RcNeAt.lists c c rfl Z4 g;have o:((List.range b.toArray.size).all λ_=>true)=true:=by simp
  rw [o] at h i;exact ⟨_,_,c,h,i,rfl⟩
def Af{A:Around}(I:Inv X C σ H s)(p:al (but H M) (.ref a) d)(o:al (but H M) (.ref b) e)(B:cw d e=true)(hd:d.cN<=40)(hu:A.units+50<cLine):
  RcAt A s (.ref a) (.ref b) (decide (d=e))/\RcNeAt A s (.ref a) (.ref b) (!decide (d=e)):=by
 have ac:A.in1.units+45<cLine:=by show A.units+1+45<cLine;omega
 cases p with
 |@tup _ U l Y p=>
  cases o with
  |@tup _ ws m hb o=>
   rw [cw] at B;obtain ⟨_,f,E,O⟩:=(show ca X.prog X.w H s.heap a (.tup U) from I.aA a _ (aw Y).2)
   obtain ⟨_,c,G,Q⟩:=(show ca X.prog X.w H s.heap b (.tup ws) from I.aA b _ (aw hb).2)
   have J:f.toArray.size=l.length:=by rw [Mw,<-E.length,p.length]
   have T:c.toArray.size=m.length:=by rw [Mw,<-G.length,o.length]
   have q:decide (D.tup l=D.tup m)=((List.range<|min f.toArray.size c.toArray.size).all (λj=>decide<|l[j]?=m[j]?)&&f.toArray.size==c.toArray.size):=by
    rw [J,T,rY,MZ];simp
   have L:∀j (h1:j<f.toArray.size) (h2:j<c.toArray.size),EqAt A.in1 s f.toArray[j] c.toArray[j] ((λj=>decide<|l[j]?=m[j]?) j):=λj h1 h2=>by
    obtain ⟨x',hx,r⟩:=js (P:=X.prog) (w:=X.w) (K:=X.K) E (j:=j) (u:=f.toArray[j]) Z8;obtain ⟨y',hy,t⟩:=js (P:=X.prog) (w:=X.w) (K:=X.K) G (j:=j) (u:=c.toArray[j]) Z8;obtain ⟨N,g,v⟩:=p.iS hx;obtain ⟨e',h,x⟩:=o.iS hy;have q2:decide (l[j]?=m[j]?)=decide (N=e'):=by rw [g,h,MZ];simp
    show EqAt A.in1 s _ _<|decide<|l[j]?=m[j]?
    rw [q2];have y:N.cN<=40:=by
     have:=qw g;simp only [D.cN] at hd;omega
    exact u9 I.aA (qO H M) 40 y v x r t (qt B g h) Z4
   rw [q];exact ⟨RcAt.tuples O Q Z4 L,RcNeAt.tuples O Q Z4 L⟩
  |_=>exact absurd B (by simp [cw])
 |@lst _ U l Y p=>
  cases o with
  |@lst _ ws m hb o=>
   rw [cw] at B;obtain ⟨_,f,k1,E,O⟩:=(show ca X.prog X.w H s.heap a (.lst U) from I.aA a _ (aw Y).2)
   obtain ⟨_,c,k2,G,Q⟩:=(show ca X.prog X.w H s.heap b (.lst ws) from I.aA b _ (aw hb).2)
   have i:s.heap.IsList a f.toArray:=⟨_,O,rfl,_,rfl⟩
   have k:s.heap.IsList b c.toArray:=⟨_,Q,rfl,_,rfl⟩
   have J:f.toArray.size=l.length:=by rw [Mw,<-E.length,p.length]
   have T:c.toArray.size=m.length:=by rw [Mw,<-G.length,o.length]
   by_cases n:l.length=m.length
   .have q:decide (D.lst l=D.lst m)=((List.range f.toArray.size).all λj=>decide<|l[j]?=m[j]?):=by
     have:=rY (l:=l) (m:=m);rw [J];have e1:min l.length m.length=l.length:=by omega
     rw [e1] at this;have e2:(l.length==m.length)=true:=by simpa using n
     rw [e2,PB] at this;rw [this,MZ];simp
    have L:∀j (h1:j<f.toArray.size) (h2:j<c.toArray.size),EqAt A.in1 s f.toArray[j] c.toArray[j] ((λj=>decide<|l[j]?=m[j]?) j):=λj h1 h2=>by
     obtain ⟨x',hx,r⟩:=js (P:=X.prog) (w:=X.w) (K:=X.K) E (j:=j) (u:=f.toArray[j]) Z8;obtain ⟨y',hy,t⟩:=js (P:=X.prog) (w:=X.w) (K:=X.K) G (j:=j) (u:=c.toArray[j]) Z8;obtain ⟨N,g,v⟩:=p.iS hx;obtain ⟨e',h,x⟩:=o.iS hy;have q2:decide (l[j]?=m[j]?)=decide (N=e'):=by rw [g,h,MZ];simp
     show EqAt A.in1 s _ _<|decide<|l[j]?=m[j]?
     rw [q2];have y:N.cN<=40:=by
      have:=qw g;simp only [D.cN] at hd;omega
     exact u9 I.aA (qO H M) 40 y v x r t (qt B g h) Z4
    rw [q];exact ⟨RcAt.lists i k Z4 Z4 L,RcNeAt.lists i k Z4 Z4 L⟩
   .have q:decide (D.lst l=D.lst m)=false:=by
     rw [Qx];intro z;cases z;exact n rfl
    rw [q];exact ⟨RcAt.lists_lengths i k (by rw [J,T];simpa using n) Z4,RcNeAt.lists_lengths i k (by rw [J,T];simpa using n) Z4⟩
  |_=>exact absurd B (by simp [cw])
def zi(g:al G x d)(f:al G y e)(c:cw d e=true):(d.sc=true/\e.sc=true)\/∃a b,x=.ref a/\y=.ref b:=by
 cases g with
 |int i=>cases f<;>first|exact .inl ⟨rfl,rfl⟩|exact absurd c (by simp [cw])
 |str i=>cases f<;>first|exact .inl ⟨rfl,rfl⟩|exact absurd c (by simp [cw])
 |tup _ _=>cases f<;>first|exact .inr ⟨_,_,rfl,rfl⟩|exact absurd c (by simp [cw])
 |lst _ _=>cases f<;>first|exact .inr ⟨_,_,rfl,rfl⟩|exact absurd c (by simp [cw])
 |_=>exact absurd c (by simp [cw])
def IJ (l:X.A.units+50<cLine):cO X (compareOp .Eq) rC:=by
 intro c s m H x y v u Q I i j h;obtain ⟨d,e,⟨M,f,g,k,n⟩,q⟩:=h;rcases zi f g k with ⟨o,p⟩|⟨a,b,rfl,rfl⟩
 .obtain ⟨r,t⟩:=yZ f g o p;rw [<-t] at q;exact Bm c s m H x y v u Q I i j ⟨r,q⟩
 .cases i;cases j;exact (Af I f g k n l).1 _ _ _ _ ⟨.bl _,H,I,rfl,q⟩
def Fs (l:X.A.units+50<cLine):cO X (compareOp .NotEq) m5:=by
 intro c s m H x y v u Q I i j h;obtain ⟨d,e,⟨M,f,g,k,n⟩,q⟩:=h;rcases zi f g k with ⟨o,p⟩|⟨a,b,rfl,rfl⟩
 .obtain ⟨r,t⟩:=yZ f g o p;rw [<-t] at q;exact BX c s m H x y v u Q I i j ⟨r,q⟩
 .cases i;cases j;exact (Af I f g k n l).2 _ _ _ _ ⟨.bl _,H,I,rfl,q⟩
def qM (neg:Bool):R2:=λx y H Q=>∃M d es,al (but H M) x d/\(al (but H M) y (.lst es)\/al (but H M) y (.tup es))/\(∀e∈es,cw e d=true/\e.cN<=40)/\Q (.bl (if neg then !decide (d∈es) else decide (d∈es))) H
def sn{A:Around}(I:Inv X k T H s)(U:al (but H M) x d)(Y:RelV x u)(o:aE (but H M) Q n)(p:be Q a)(c:∀e∈n,cw e d=true/\e.cN<=40)(hu:A.units+50<cLine):
  ∃f:Value->Bool,(∀y,y∈a.toArray->EqAt A.in1 s y u (f y))/\a.toArray.any f=decide (d∈n):=by
 classical
 refine ⟨λy=>decide (∃v e,RelV v y/\al (but H M) v e/\e=d),λy r=>?_,?_⟩
 .have C:y∈a:=by simpa using r
  obtain ⟨j,t,E⟩:=List.getElem_of_mem C
  obtain ⟨v,l,b⟩:=js (P:=X.prog) (w:=X.w) (K:=X.K) p (j:=j) (u:=y) (by rw [Mb t,E])
  obtain ⟨e,G,g⟩:=o.iS l
  have B:e∈n:=Mi G
  have q:decide (∃v e,RelV v y/\al (but H M) v e/\e=d)=decide (e=d):=by
   rw [MZ,Pe,Pe]
   constructor
   .rintro ⟨v',e',J,L,N⟩
    rw [b.inj J] at g
    rw [al.inj g L];exact N
   .intro z;exact ⟨v,e,b,g,z⟩
  show EqAt A.in1 s y u<|decide (∃v e,RelV v y/\al (but H M) v e/\e=d)
  rw [q]
  exact u9 I.aA (qO H M) 40 (c e B).2 g U b Y (c e B).1 (by show A.units+1+40<cLine;omega)
 .rw [MZ,Array.any_eq_true,Pe]
  constructor
  .rintro ⟨j,t,h⟩
   obtain ⟨v',e',J,L,N⟩:=MC h
   obtain ⟨v,l,b⟩:=js (P:=X.prog) (w:=X.w) (K:=X.K) p (j:=j) (u:=a.toArray[j]) Z8
   obtain ⟨e,G,g⟩:=o.iS l
   rw [b.inj J] at g
   rw [<-N,<-al.inj g L]
   exact Mi G
  .intro B
   obtain ⟨j,t,O⟩:=List.getElem_of_mem B
   have hl:=o.length
   have ac:=p.length
   obtain ⟨v,l,b⟩:=o.get (i:=j) (d:=d) (by rw [Mb t,O])
   obtain ⟨y,r,ry⟩:=p.get l
   have m:j<a.toArray.size:=by simp;omega
   refine ⟨j,m,My ⟨v,d,?_,b,rfl⟩⟩
   have:a.toArray[j]=y:=by
    rw [Mb (by simpa using m)] at r
    simpa using r
   rw [this];exact ry
def Ck (o:X.A.units+50<cLine):cO X (compareOp .In) (qM false):=by
 intro r s C H x y v u Q I t z h;obtain ⟨M,d,E,B,c,b,q⟩:=h;rcases c with c|c
 .obtain ⟨a,e,rfl,g,i⟩:=c.dX;cases z;obtain ⟨_,j,n,k,p⟩:=(show ca X.prog X.w H s.heap a (.lst e) from I.aA a _ (aw g).2)
  obtain ⟨f,l,m⟩:=sn I B t i k b o;refine in_listAt f ⟨_,p,rfl,_,rfl⟩ l ?_;rw [m];exact ⟨.bl _,H,I,rfl,q⟩
 .obtain ⟨a,e,rfl,g,i⟩:=c.fb;cases z;obtain ⟨_,j,k,p⟩:=(show ca X.prog X.w H s.heap a (.tup e) from I.aA a _ (aw g).2)
  obtain ⟨f,l,m⟩:=sn I B t i k b o;refine in_tupleAt f p l ?_;rw [m];exact ⟨.bl _,H,I,rfl,q⟩
def Bn (o:X.A.units+50<cLine):cO X (compareOp .NotIn) (qM true):=by
 intro r s C H x y v u Q I t z h;obtain ⟨M,d,E,B,c,b,q⟩:=h;rcases c with c|c
 .obtain ⟨a,e,rfl,g,i⟩:=c.dX;cases z;obtain ⟨_,j,n,k,p⟩:=(show ca X.prog X.w H s.heap a (.lst e) from I.aA a _ (aw g).2)
  obtain ⟨f,l,m⟩:=sn I B t i k b o;refine notIn_listAt f ⟨_,p,rfl,_,rfl⟩ l ?_;rw [m];exact ⟨.bl _,H,I,rfl,q⟩
 .obtain ⟨a,e,rfl,g,i⟩:=c.fb;cases z;obtain ⟨_,j,k,p⟩:=(show ca X.prog X.w H s.heap a (.tup e) from I.aA a _ (aw g).2)
  obtain ⟨f,l,m⟩:=sn I B t i k b o;refine notIn_tupleAt f p l ?_;rw [m];exact ⟨.bl _,H,I,rfl,q⟩
def Pairs (K:PySem.W.Frag)(H:Hp):List V->List (aM×V)->Prop:=Paired λv kv=>∃b,v=.ref b/\bz K H b [kV kv.1,kv.2]
theorem pairs_at(I:Inv X a l H s):∀{i:List V} {c:List (aM×V)} {d:List Value},Pairs X.K H i c->be i d->
  ∃cm:List (aM×Value),KV c cm/\∀(j:Nat) (p:aM×Value),cm[j]?=some p->∃u,d.toArray[j]?=some u/\wm (dw X.prog X.w) s.heap u p
 |_,_,_,.nil,.nil=>⟨[],.nil,λj p h=>by simp at h⟩
 |_,_,_,.cons (b:=m) ⟨b,n,o⟩ t,.cons (b:=u) r q=>by
  subst n;obtain rfl:u=Value.ref b:=r;obtain ⟨cm,v,x⟩:=pairs_at I t q;obtain ⟨k,y,p,_⟩:=I.tuple o;obtain ⟨z,A,rfl,B,C⟩:=be.two y;refine ⟨(m.1,A)::cm,.cons ⟨rfl,C⟩ v,λj E e=>?_⟩;cases j with
  |zero=>
   simp at e;subst e;exact ⟨.ref b,by simp,b,z,rfl,p,kB B⟩
  |succ j=>
   obtain ⟨G,f,g⟩:=x j E (by simpa using e);exact ⟨G,by simpa using f,g⟩
def HM (x:X.calm=true):iw X (.type "dict") (λj H Q=>∃a d b,j=[.ref a]/\aN X.K H a d/\Pairs X.K H d b/\∀p,H p=none->Q (.ref p) (upd H p (.dK (b9 [] b)))):=by
 intro k s N H j O Q I r h;obtain ⟨a,d,b,rfl,y,l,q⟩:=h;obtain ⟨u,rfl,z⟩:=Qk r;cases z;obtain ⟨A,m,⟨o,n,B,e,f,c⟩,T⟩:=I.list y;obtain ⟨cm,t,C⟩:=pairs_at I l m;have v:b.length=cm.length:=N3 t;have E:d.length=b.length:=N3 l;have G:=m.length;refine Dp (knd:=dw X.prog X.w) (I.ok.hd x) B e f c (by simp;omega) C Z4 λU J g L=>?_;have M:=KV.merge (kvs:=[]) (vs:=[]) t .nil;have i:=wc b [];refine ⟨.ref s.heap.objs.size,_,I.laid (a:=s.heap.objs.size) (o:=.dK<|b9 [] b) (t':=J) L (Mh _)<|rD (by simp at i;omega) (Nl.mpr<|M6<|MM I.sU) M g,rfl,q _<|I.aA.fresh<|Mh _⟩
end
end FL
namespace FL
open PySem L2
def Walk (wi:TI)(G:Hp)(σ:St)(ds:List D):Prop:=∀M H,ab G (but H M)->au M H->∀R:It->Hp->Prop,
 (∀J H1,ab H H1->(∀(j:Nat) d M' H',ds[j]?=some d->ab (but H1 M) (but H' M')->au M' H'->J.go j H'/\∀x H'',J.ox j H' x H''->ab H' H''/\al (but H'' M') x d)->(∀M' H',ab (but H1 M) (but H' M')->J.stop ds.length H')->R J H1)->wi σ H R
section
variable {G:Hp}{σ:St}{ta tb tl te:TE}{tt:TT}{t:TA}{d:D}{ds:List D}{K:PySem.W.Frag}{wi:TI}
def BG (h:ae tl G σ (.lst ds)):Walk (jh K tl) G σ ds:=λM H s l R k=>h M H s l _ λx o p q=>by
 obtain ⟨a,b,rfl,g,i⟩:=q.dX;refine ⟨a,rfl,⟨b,aN.of (aw g).2⟩,k _ o p (λj d r u w c C=>?_) λr u c=>?_⟩
 .have f:=(aw<|c _ _ g).2;obtain ⟨v,m,y⟩:=i.get w;refine ⟨⟨b,v,aN.of f,m⟩,λx z A=>?_⟩;obtain ⟨e,B⟩:=A;subst e;have n:=B b<|aN.of f
  rw [m] at n;cases n;exact ⟨ab.refl _,y.mono c⟩
 .have f:=(aw<|c _ _ g).2;exact ⟨b,aN.of f,by rw [i.length];exact Mh _⟩
def Ix (h:ae tl G σ (.tup ds)):Walk (nh K tl) G σ ds:=λM H s l R k=>h M H s l _ λx o p q=>by
 obtain ⟨a,b,rfl,g,i⟩:=q.fb;refine ⟨a,rfl,⟨b,bz.of (aw g).2⟩,k _ o p (λj d r u w c C=>?_) λr u c=>?_⟩
 .have f:=(aw<|c _ _ g).2;obtain ⟨v,m,y⟩:=i.get w;refine ⟨⟨b,v,bz.of f,m⟩,λx z A=>?_⟩;obtain ⟨e,B⟩:=A;subst e;have n:=B b<|bz.of f
  rw [m] at n;cases n;exact ⟨ab.refl _,y.mono c⟩
 .have f:=(aw<|c _ _ g).2;exact ⟨b,bz.of f,by rw [i.length];exact Mh _⟩
def iQ (lo:Int)(n j:Nat)(d:D)(h:((List.range n).map λ(k:Nat)=>D.int (lo+k))[j]?=some d):j<n/\d=.int (lo+j):=by
 rw [Mo] at h;cases e:(List.range n)[j]? with
 |none=>rw [e] at h;cases h
 |some q=>
  rw [e] at h;obtain ⟨a,b⟩:=Ma.mp e;simp at a b;subst b;exact ⟨a,(Mu h).symm⟩
def CC {n:Nat}(u:n<2^62)(h:dJ t G σ [.int n]):Walk (wY t) G σ ((List.range n).map λ(k:Nat)=>D.int (0+k)):=λM H s l R k=>h M H s l _ λv a b c=>by
 obtain ⟨x,rfl,f⟩:=iF c;refine ⟨(n:Int),by rw [f.eM],by omega,by omega,?_⟩;refine k _ a b (λj d g i m o w=>?_) λg i o=>?_
 .obtain ⟨y,rfl⟩:=iQ 0 n j d m;refine ⟨by show j<((n:Int)).toNat;omega,λx p q=>?_⟩;obtain ⟨e,r⟩:=q;subst e;subst r;exact ⟨ab.refl _,.int _⟩
 .show ((n:Int)).toNat<=_;simp
def i6{H:Hp}{D:Addr}(h:H D=none)(s:ab H c):ab (but H M) (but c (D::M)):=λb o e=>by
 obtain ⟨f,a⟩:=aw e;rw [bn]
 .exact s b o a
 .intro z;rcases Mn.mp z with rfl|z
  .rw [h] at a;cases a
  .exact f z
def gP{caps:St->St}{p:D->Bool}{f:D->D}(hw:Walk wi G σ ds)
  (ht:∀z v d,ab G z->d∈ds->al z v d->bg tt z ((caps σ).set i (some v)) (p d))
  (he:∀z v d,ab G z->d∈ds->p d=true->al z v d->ae te z ((caps σ).set i (some v)) (f d)) (hz:ds.length<sizeLine):
  ae (iU wi caps (cx i) tt te) G σ (.lst ((ds.filter p).map f)):=λM H s l Q k=>hw M H s l _ λJ N O U A D T=>by
 have lf:D∉M:=(l.same O).fresh T;have Y:ab G (but N M):=s.trans<|O.but M
 refine ⟨λj m τ q=>m=ds.length-j/\j<=ds.length/\(∀v,τ.set i (some v)=(caps σ).set i (some v))/\ab N q/\∃n,q D=some (.lst n)/\aE (but q (D::M)) n (((ds.take j).filter p).map f),
  ⟨ds.length,by simp,MI _,λ_=>rfl,da T _,[],aO,by simpa using aE.nil⟩,?_⟩
 rintro j m τ q ⟨rfl,hj,ac,C,n,r,E⟩;have hs:ab (but N M) (but q (D::M)):=i6 T C;have hl:au (D::M) q:=((l.same O).same C).cons r;by_cases B:j<ds.length
 .have hd:ds[j]?=some ds[j]:=Mb B;obtain ⟨go,gy⟩:=U j _ (D::M) q hd hs hl;refine .inr ⟨go,λI g=>(∀v,I.set i (some v)=(caps σ).set i (some v))/\ab N g/\∃n,g D=some (.lst n)/\aE (but g (D::M)) n (((ds.take<|j+1).filter p).map f),
   λI g q0=>by obtain ⟨a,b,c⟩:=q0;exact ⟨ds.length-(j+1),by omega,rfl,B,a,b,c⟩,λx g hy=>?_⟩
  obtain ⟨w,rx⟩:=gy x g hy;have hm:ds[j]∈ds:=NJ B;have sG:ab G (but g (D::M)):=Y.trans<|hs.trans<|w.but _;have L:=hl.same w;show tt (τ.set i<|some x) g _;rw [ac x];have tk:(ds.take<|j+1).filter p=(ds.take j).filter p++(if p ds[j]=true then [ds[j]] else []):=by
   rw [MX,hd,Nu];congr 1;by_cases y:p ds[j]=true
   .simp [y]
   .simp [y]
  refine ht _ x _ sG hm rx (D::M) g (ab.refl _) L _ λH4 u=>?_;have h:∀v,((caps σ).set i<|some x).set i (some v)=(caps σ).set i (some v):=λv=>by rw [QX]
  by_cases y:p ds[j]=true
  .rw [Mp y]
   refine he _ x _ (sG.trans<|u.but _) hm y (rx.mono<|u.but _) (D::M) H4 (ab.refl _) (L.same u) _ λv H5 s5 r5=>?_;have af:H5 D=some (.lst n):=s5 _ _<|u _ _<|w _ _ r
   have aj:=E.length;have am:(((ds.take j).filter p).map f).length<=j:=by
    rw [Md];have:=MO p<|ds.take j
    rw [MT] at this;omega
   refine ⟨n,af,by omega,h,?_,n++[v],aO,?_⟩
   .intro b o e;rw [aD<|dm e T];exact s5 _ _<|u _ _<|w _ _<|C _ _ e
   .rw [dN Mc,tk,Mp y,MK]
    exact (E.mono<|((w.trans u).trans s5).but _).snoc r5
  .rw [Mj y]
   refine ⟨h,C.trans<|w.trans u,n,u _ _<|w _ _ r,?_⟩;rw [tk,Mj y,MP];exact E.mono<|(w.trans u).but _
 .have e:j=ds.length:=by omega
  subst e;refine .inl ⟨A (D::M) q hs,k _ q (O.trans C)<|me lf r ?_⟩;rw [MQ<|Mh _] at E;exact E
def LA {xs:List V}(k:Nat):gS xs (some (k:Int)) none=xs.drop k:=by
 unfold gS;rw [HT.qy,HT.y9];by_cases h:k<=xs.length
 .rw [O7 h,MQ Z8]
 .rw [Py Z4,OA (Mh _),OA Z4,QV]
def Fq {xs:List V}(k:Nat):gS xs none (some (k:Int))=xs.take k:=by
 unfold gS;rw [HT.qy,HT.y9,List.drop_zero,QY];by_cases h:k<=xs.length
 .rw [O7 h]
 .rw [Py Z4,MQ (Mh _),MQ Z4]
def rH {k:Nat}{l:ZZ}(hk:0<k)(hl:0<l.length)(ha:ae ta G σ (.tup l)):ae (wB (BU K) ta (su (tC (.int (k:Int)))) BV) G σ (.tup (l.drop k)):=
 λM H s lv Q q=>ha M H s lv _ λx H1 s1 rx=>⟨(k:Int),rfl,by
  obtain ⟨a,vs,rfl,h1,h2⟩:=rx.fb;refine ⟨a,vs,rfl,bz.of (aw h1).2,?_,λp hp=>?_⟩
  .rw [HT.qy]
   have:=h2.length;omega
  .rw [LA]
   exact q _ _ (s1.trans (da hp _)) (oH (lv.same s1) hp (h2.drop k))⟩
def yj {b:ZZ}(a:∀e∈b,cw e d=true/\e.cN<=40)(c:ae ta G σ d)(f:ae tb G σ (.tup b)):ae (bJ (qM false) ta tb) G σ (.bl (decide (d∈b))):=
 jY (λM H x y l g h Q k=>⟨M,d,b,g,.inr h,a,k _ H (ab.refl _) (.bl _)⟩) c f
def AE {es:ZZ}(a:∀e∈es,cw e d=true/\e.cN<=40)(b:ae ta G σ d)(c:ae tb G σ (.lst es)):ae (bJ (qM true) ta tb) G σ (.bl (!decide (d∈es))):=
 jY (λM H x y l f g Q k=>⟨M,d,es,f,.inl g,a,k _ H (ab.refl _) (.bl _)⟩) b c
end
def gZ{g:TG}{E:Ends}(z:Walk t (but H M) r ds)(l:au M H)
  (k:∀i,ab H i->∃Pv:Nat->St->Hp->Prop,Pv 0 r i/\(∀j a b,Pv j a b->ab (but i M) (but b M)/\au M b)/\
   (∀(j:Nat) d x a b c,ds[j]?=some d->Pv j a b->ab b c->al (but c M) x d->g x a c λn v=>u {E with nx:=Pv (j+1),ct:=Pv (j+1),bk:=E.nx} n v)/\∀a b,Pv ds.length a b->E.nx a b):
  lw t g u E r H:=z M H (ab.refl _) l _ λJ i A s f=>by
 obtain ⟨Pv,B,C,h,o⟩:=k i A;refine ⟨λj m a b=>m=ds.length-j/\j<=ds.length/\Pv j a b,⟨ds.length,by simp,MI _,B⟩,?_⟩;rintro j m a b ⟨rfl,U,p⟩;obtain ⟨w,G⟩:=C j a b p;by_cases q:j<ds.length
 .have y:ds[j]?=some ds[j]:=Mb q;obtain ⟨I,L⟩:=s j _ M b y w G;refine .inr ⟨I,Pv<|j+1,λn v N=>⟨ds.length-(j+1),by omega,rfl,q,N⟩,λx c O=>?_⟩;obtain ⟨Q,T⟩:=L x c O;exact h j _ x a b c y p Q T
 .have e:j=ds.length:=by omega
  subst e;exact .inl ⟨f M b w,o a b p⟩
def a9 (idx:List Nat)(k:Nat):St->St:=λσ=>idx.map (λj=>(σ[j]?).join)++List.replicate k none
def oV (N N':List Str)(names:List (Str×NameKind)):List Nat->Nat->Bool
 |[],_=>true
 |j::r,i=>(match N'[i]?,N[j]? with|some x,some y=>decide (x=y)&&(names.lookup x==some .free)|_,_=>false)&&oV N N' names r (i+1)
theorem AU:∀{c:List Nat} {d:Nat},oV N f a c d=true->∀(i j:Nat),c[i]?=some j->∃x,f[d+i]?=some x/\N[j]?=some x/\a.lookup x=some .free
 |[],_,_,i,j,h=>by simp at h
 |q::r,d,g,i,j,h=>by
  rw [oV,Na] at g;cases i with
  |zero=>
   simp at h;subst h;have b:=g.1;cases e:f[d]? with
   |none=>rw [e] at b;cases b
   |some x=>
    cases l:N[q]? with
    |none=>rw [e,l] at b;cases b
    |some y=>
     rw [e,l] at b;simp only [Na,Of,Pc] at b;obtain ⟨rfl,k⟩:=b;exact ⟨x,by simpa using e,rfl,k⟩
  |succ i=>
   obtain ⟨x,b,k,m⟩:=AU g.2 i j (by simpa using h);exact ⟨x,by rw [<-b];congr 1;omega,k,m⟩
def Ba{f:ZY}{a:List Nat}(m:f.length=a.length+k)(n:oV N f b a 0=true):∀d:St,d.length=N.length->
  (a9 a k d).length=f.length/\∀(i:Nat) (x:Str) (v:V),f[i]?=some x->(a9 a k d)[i]?=some (some v)->b.lookup x=some .free/\∃j:Nat,N[j]?=some x/\d[j]?=some (some v):=by
 intro d o;refine ⟨by simp [a9,m],λi x v p c=>?_⟩;unfold a9 at c;by_cases g:i<a.length
 .rw [ME (by simpa using g),Mo,Mb g] at c
  obtain ⟨y,h,l,q⟩:=AU n i a[i]<|Mb g;rw [Og,p] at h;cases h;refine ⟨q,a[i],l,?_⟩;simp only [O4,Option.some.injEq] at c;cases e:d[a[i]]? with
  |none=>rw [e] at c;cases c
  |some w=>rw [e] at c;simp at c;rw [c]
 .rw [MJ (by simpa using g)] at c
  obtain ⟨h,l⟩:=Ma.mp c;simp at l
def t8 (esc:Scope)(scope:Scope):Bool:=
 (scope.names.all λy=>decide (y.2≠.cell))&&(scope.names.all λy=> !(y.2==.local)||(scope.names.lookup y.1==some .local))&&(scope.names.all λy=> !(y.2==.free)||(esc.names.lookup y.1==some .cell)||(esc.names.lookup y.1==some .free))
def AB(h:t8 b a=true):(∀y∈a.names,y.2≠.cell)/\(∀y∈a.names,y.2=.local->a.names.lookup y.1=some .local)/\
  ∀n,(n,NameKind.free)∈a.names->b.names.lookup n=some .cell\/b.names.lookup n=some .free:=by
 rw [t8,Na,Na,OM,OM,OM] at h;obtain ⟨⟨d,f⟩,g⟩:=h;refine ⟨λy c=>MC<|d y c,λy c e=>?_,λn i=>?_⟩
 .have:=f y c;rw [e] at this;simpa using this
 .have:=g _ i;simpa using this
section
variable {X:Cx}{tg iter elt:Expr}{ifs:List Expr}{scope:Scope}{pos:Pos}{wi:TI}{g:TG}{tt:TT}{te:TE}
def fm (c:ZY)(a:List Nat)(k:Nat)(m:PI X tg iter wi)(n:∀d C e s H,PG (bG X c scope d C e s H) tg g)(f:∀d C e s H,m8 (bG X c scope d C e s H) ifs tt)(i:∀d C e s H,PE (bG X c scope d C e s H) elt te)
  (o:X.calm=true:=by rfl) (b:scope.kind=.function:=by rfl) (j:t8 X.env.scope scope=true:=by rfl) (p:c.length=a.length+k:=by rfl) (l:oV X.N c scope.names a 0=true:=by rfl)
  (q:∀x,foldedSetIterable iter X.env x=pure x:=by intro _;rfl):PE X (.ListComp elt [⟨tg,iter,ifs,0⟩] scope pos) (iU wi (a9 a k) g tt te):=
 let h:=AB j
 Ks o b h.1 h.2.1 h.2.2 (Ba p l) m n f i q
def qr{a:Pos}{i:Nat}(d:ZY)(b:List Nat)(k:Nat)(r:X.N.Nodup)(j:X.N[i]?=some y)(t:Loc X.env.scope y)(u:PI X tg iter wi)(v:∀e C f s H,PG (bG X d scope e C f s H) tg g)(l:∀e C f s H,m8 (bG X d scope e C f s H) ifs tt)(m:∀e C f s H,PE (bG X d scope e C f s H) elt te)
  (n:swapsWith (.ListComp elt [⟨tg,iter,ifs,0⟩] scope pos) (some (.Name y q)) a.line X.env=pure true:=by rfl)
  (w:X.calm=true:=by rfl) (c:scope.kind=.function:=by rfl) (o:t8 X.env.scope scope=true:=by rfl) (z:d.length=b.length+k:=by rfl) (p:oV X.N d scope.names b 0=true:=by rfl)
  (A:∀x,foldedSetIterable iter X.env x=pure x:=by intro _;rfl) (B:X.fn y=true\/X.env.scope.names.lookup y=some .local:=by first|exact .inl rfl|exact .inr rfl|assumption):
  PS X (.Assign [.Name y q] (.ListComp elt [⟨tg,iter,ifs,0⟩] scope pos) a) (eF (iU wi (a9 b k) g tt te) (cx i)):=
 let h:=AB o
 GU n r j t w c h.1 h.2.1 h.2.2 (Ba z p) u v l m A B
end
end FL
namespace FL
open PySem L2
def D.Ac:D->String
 |.av=>"NoneType"|.bl _=>"bool"|.int _=>"int"|.str _=>"str"|.tup _=>"tuple"|.lst _=>"list"
def Ip{K:W.Frag}(r:al (but H M) x d):gH K H x (.type d.Ac):=by
 cases r with
 |av=>exact .av
 |bl b=>exact .bl b
 |int b=>exact .int b
 |str b=>exact .str b
 |tup h _=>exact .tup (aw h).2
 |lst h _=>exact .lst (aw h).2
def ji (K:PySem.W.Frag):List V->Hp->VK->Prop:=λxs H Q=>∃x n t b,xs=[x,.ty n]/\gH K H x t/\PySem.W.kitOne K t (.type n)=some b/\Q (.bl b) H
def IX:iw X (.builtin "isinstance") (ji X.K):=by
 intro c s g H i j Q I r h;obtain ⟨x,n,t,b,rfl,d,e,q⟩:=h;obtain ⟨u,w,rfl,f,a⟩:=vals2 r;cases a;exact J4 I f d e λk=>⟨.bl b,H,I.tok _,rfl,q⟩
def Fz (K:W.Frag)(a b:String):W.kitOne K (.type a) (.type b)=W.kitOne [] (.type a) (.type b):=rfl
section
variable {G:Hp}{σ:St}{ta:TE}{d:D}{K:PySem.W.Frag}
def mf(h:ae ta G σ d)(a:W.kitOne [] (.type d.Ac) (.type n)=some b):ae (cM (ji K) (bu ta (bu (tC (.ty n)) bL))) G σ (.bl b):=
 λM H s l Q k=>h M H s l _ λx c e f=>⟨x,n,_,b,rfl,Ip f,by rw [Fz];exact a,k _ c e (.bl b)⟩
def yM:D->Bool
 |.int _=>true|.bl _=>true|_=>false
def yl:D->Bool
 |.bl _=>true|_=>false
def sF:D->Bool
 |.str _=>true|_=>false
def DO:D->Bool
 |.tup _=>true|_=>false
def Ge:D->Bool
 |.lst _=>true|_=>false
def oE (h:ae ta G σ d):ae (cM (ji K) (bu ta (bu (tC (.ty "int")) bL))) G σ (.bl (yM d)):=by
 cases d with
 |bl _=>exact mf h rfl
 |int _=>exact mf h rfl
 |_=>exact mf h rfl
def F9 (h:ae ta G σ d):ae (cM (ji K) (bu ta (bu (tC (.ty "bool")) bL))) G σ (.bl (yl d)):=by
 cases d<;>exact mf h rfl
def kA (h:ae ta G σ d):ae (cM (ji K) (bu ta (bu (tC (.ty "str")) bL))) G σ (.bl (sF d)):=by
 cases d<;>exact mf h rfl
def ml (h:ae ta G σ d):ae (cM (ji K) (bu ta (bu (tC (.ty "tuple")) bL))) G σ (.bl (DO d)):=by
 cases d<;>exact mf h rfl
def HS (h:ae ta G σ d):ae (cM (ji K) (bu ta (bu (tC (.ty "list")) bL))) G σ (.bl (Ge d)):=by
 cases d<;>exact mf h rfl
end
end FL
namespace FL
open PySem L2
structure aT (P:Program)(w:World)(K:PySem.W.Frag)(mg:Str->Option Value)(base:Heap)(n:Nat)(x:Str)(ps:List Str)(sp:Sp):Prop where
 ex:∃f fd,bq P w K mg base bA n f fd ps sp/\Binds K fd ps []/\PySem.W.keepIn K (.ref f)=true/\mg x=some (.ref f)
def bB{X:Cx}(h:aT X.prog X.w X.K X.mg X.base n x l j)(o:cT m X.A)(q:PA X (e::a) t)(d:n<=m:=by decide)
  (r:Gl X x:=by rfl) (g:(x==("__debug__":Str))=false:=by decide) (s:starEach (e::a) X.env=(false,eval e X.env)::starEach a X.env:=by rfl) (i:(backTo c (starEach a X.env)).any (·.1)=false:=by rfl):
  PE X (.Call (.Name x p) (e::a) [] c) (iY j [] E0 t):=by
 obtain ⟨f,v,F,b,k,u⟩:=h.ex;exact G8 (F.mono d) o r u k b .nil ui q g s i
structure Bl (mg:Str->Option Value):Prop where
 len:mg "len"=none
 isinstance:mg "isinstance"=none
 range:mg "range"=none
 int:mg "int"=none
 str:mg "str"=none
 bool:mg "bool"=none
 list:mg "list"=none
 tuple:mg "tuple"=none
 dict:mg "dict"=none
 zip:mg "zip"=none
 enumerate:mg "enumerate"=none
 all:mg "all"=none
 reversed:mg "reversed"=none
section
variable {X:Cx}{e:Expr}{es:List Expr}{t:TA}{te:TE}{tg iter:Expr}{p pos:Pos}
def Jm(h:PI X tg iter c)(f:PI X tg iter d):PI X tg iter (λb H R=>c b H R\/d b H R):=by
 intro a s b H R I q;rcases q with q|q
 .exact h a s b H R I q
 .exact f a s b H R I q
def cr (h:PE X iter te):PI X tg iter (λa H R=>jh X.K te a H R\/nh X.K te a H R):=Jm (En h)<|GC h
def cA (B:Bl X.mg)(h:PE X e te)(c:Gl X "len":=by rfl)(b:starEach [e] X.env=(false,eval e X.env)::starEach [] X.env:=by rfl):PE X (.Call (.Name "len" p) [e] [] pos) (cM (λd H Q=>∃p a,d=[.ref p]/\(aN X.K H p a\/bz X.K H p a)/\Q (.int a.length) H) (bu te bL)):=
 pE DE c B.len PySem.boot_len (ai h ap b) (he:=b)
def fX(B:Bl X.mg)(h:PE X e te)(f:X.mg x=none)(g:bootBuiltins x=some (.type n))(i:Gl X "isinstance":=by rfl)(c:Gl X x:=by rfl)(j:x≠"__name__":=by decide)(k:(x==("__debug__":Str))=false:=by decide)
  (d:starEach [e,.Name x a] X.env=(false,eval e X.env)::starEach [.Name x a] X.env:=by rfl) (b:starEach [.Name x a] X.env=(false,eval (.Name x a) X.env)::starEach [] X.env:=by rfl):
  PE X (.Call (.Name "isinstance" p) [e,.Name x a] [] pos) (cM (ji X.K) (bu te (bu (tC (.ty n)) bL))):=
 pE IX i B.isinstance PyProof.Rows.boot_isinstance (ai h (ai (GA (v:=.ty n) c f g rfl j k) ap b) d) (he:=d) (hpl:=by rw [b];rfl)
def sT (B:Bl X.mg)(h:PE X e te)(c:Gl X "tuple":=by rfl)(b:starEach [e] X.env=(false,eval e X.env)::starEach [] X.env:=by rfl):PE X (.Call (.Name "tuple" p) [e] [] pos)
  (cM (λd H Q=>∃p a,d=[.ref p]/\((aN X.K H p a/\∀l,H l=none->Q (.ref l) (upd H l (.tup a)))\/(bz X.K H p a/\Q (.ref p) H))) (bu te bL)):=
 qk DW c B.tuple Ng (ai h ap b) (he:=b)
def w6 (B:Bl X.mg)(h:PE X e te)(c:Gl X "list":=by rfl)(b:starEach [e] X.env=(false,eval e X.env)::starEach [] X.env:=by rfl):PE X (.Call (.Name "list" p) [e] [] pos)
  (cM (λd H Q=>∃p a,d=[.ref p]/\(aN X.K H p a\/bz X.K H p a)/\∀l,H l=none->Q (.ref l) (upd H l (.lst a))) (bu te bL)):=
 qk EO c B.list Pn (ai h ap b) (he:=b)
def uK (B:Bl X.mg)(h:PE X e te)(f:X.calm=true:=by rfl)(g:Gl X "dict":=by rfl)(c:starEach [e] X.env=(false,eval e X.env)::starEach [] X.env:=by rfl):PE X (.Call (.Name "dict" p) [e] [] pos)
  (cM (λi H Q=>∃a d b,i=[.ref a]/\aN X.K H a d/\Pairs X.K H d b/\∀p,H p=none->Q (.ref p) (upd H p (.dK (b9 [] b)))) (bu te bL)):=
 qk (HM f) g B.dict QE (ai h ap c) (he:=c)
def aS(f:PE X a c)(g:PE X b d)(h:sX b:=by intro _ _;rfl):PE X (.Subscript a b pos) (bJ (d6 X.K) c d):=FF Dl f g h
def fP (a:X.A.units+50<cLine):cO X (compareOp .Eq) (λx y H Q=>rC x y H Q\/sy x y H Q):=(IJ a).or Bm
def fD (a:X.A.units+50<cLine):cO X (compareOp .NotEq) (λx y H Q=>m5 x y H Q\/mq x y H Q):=(Fs a).or BX
def iK{b d:Pos}(l:PE X o j)(h:PE X e te)(k:starEach [e] X.env=(false,eval e X.env)::starEach [] X.env:=by rfl)(f:attributeBase o "append" X.env (eval o X.env)=eval o X.env:=by rfl)
  (i:((backTo a (starEach [e] X.env)).all (λx=> !x.1)&&(backToKw a (keywordEach [] X.env)).all (λx=>x.1.isSome)&&decide ([e].length+([]:List Keyword).length+(if ([]:List Keyword).isEmpty then 0 else 1)<30))=true:=by rfl)
  (g:(b.endLine==a.line)=true:=by rfl) (c:(backTo a (starEach [] X.env)).any (·.1)=false:=by rfl) (m:swapsWith (.Call (.Attribute o "append" b) [e] [] a) none d.line X.env=pure false:=by rfl):
  PS X (.Expr (.Call (.Attribute o "append" b) [e] [] a) d) (ki (nq X.K "list" nJ j (bu te bL))):=
 iT (qV NX PySem.F.slot_list_append PySem.F.type_list_append zG l (ai h ap k) f i g k c) m
end
section
variable {X:Cx}{N':List Str}{scope:Scope}{cl:List (Str×Addr)}{C:Addr}{fp:List Addr}{s:Shared}{H:Hp}{e a b:Expr}{te ta tb:TE}{p pos:Pos}
def jU (c:PE (bG X N' scope cl C fp s H) a ta)(d:PE (bG X N' scope cl C fp s H) b tb)(f:sX b:=by intro _ _;rfl):PE (bG X N' scope cl C fp s H) (.Subscript a b pos) (bJ (d6 X.K) ta tb):=aS c d f
def vz(f:X.calm=true)(h:pc (bG X N' scope cl C fp s H) c t)(g:(assignEach c (bG X N' scope cl C fp s H).env).length=n:=by rfl)(d:(assignEach c (bG X N' scope cl C fp s H).env).findIdx? (·.1)=none:=by rfl):
  PG (bG X N' scope cl C fp s H) (.Tuple c k pos) (lU X.K n t):=kP (X:=bG X N' scope cl C fp s H) f h g d
end
section
variable {G:Hp}{σ:St}{ta tb te:TE}{d:D}{ds:List D}{K:PySem.W.Frag}
def cy(h:de ds i=some d)(e:ae ta G σ (.lst ds))(f:ae tb G σ (.int i)):ae (bJ (d6 K) ta tb) G σ d:=
 λM H s l Q k=>e M H s l _ λx g b j=>f M g (s.trans<|b.but M) (l.same b) _ λy m c n=>by
  obtain ⟨a,o,rfl,p,q⟩:=(j.mono<|c.but M).dX;obtain ⟨v,r,t⟩:=zk q h;exact .inl ⟨a,o,i,v,rfl,n.eM,aN.of (aw p).2,r,k v m (b.trans c) t⟩
def bK(h:de ds i=some d)(e:ae ta G σ (.tup ds))(f:ae tb G σ (.int i)):ae (bJ (d6 K) ta tb) G σ d:=
 λM H s l Q k=>e M H s l _ λx g b j=>f M g (s.trans<|b.but M) (l.same b) _ λy m c n=>by
  obtain ⟨a,o,rfl,p,q⟩:=(j.mono<|c.but M).fb;obtain ⟨v,r,t⟩:=zk q h;exact .inr (.inl ⟨a,o,i,v,rfl,n.eM,bz.of (aw p).2,r,k v m (b.trans c) t⟩)
def jl(a:cw d1 d2=true)(b:d1.cN<=40)(c:ae ta G σ d1)(e:ae tb G σ d2):ae (bJ (λx y H Q=>rC x y H Q\/sy x y H Q) ta tb) G σ (.bl (decide (d1=d2))):=
 jY (λM H x y l f g Q k=>.inl ⟨d1,d2,⟨M,f,g,a,b⟩,k _ H (ab.refl _) (.bl _)⟩) c e
def mW(c:cw a b=true)(e:a.cN<=40)(f:ae ta G σ a)(g:ae tb G σ b):ae (bJ (λx y H Q=>m5 x y H Q\/mq x y H Q) ta tb) G σ (.bl (!decide (a=b))):=
 jY (λM H x y l h i Q k=>.inl ⟨a,b,⟨M,h,i,c,e⟩,k _ H (ab.refl _) (.bl _)⟩) f g
def lD(a:ae ta G σ (.int i))(b:ae tb G σ (.int j)):ae (bJ (λx y H Q=>rC x y H Q\/sy x y H Q) ta tb) G σ (.bl (decide (i=j))):=
 (jl rfl (MI _) a b).eq Z8
def iA(a:ae ta G σ (.int i))(b:ae tb G σ (.int j)):ae (bJ (λx y H Q=>m5 x y H Q\/mq x y H Q) ta tb) G σ (.bl (!decide (i=j))):=
 (mW rfl (MI _) a b).eq Z8
def dH (h:ae te G σ (.lst ds)):Walk (λσ H R=>jh K te σ H R\/nh K te σ H R) G σ ds:=λM H s l R k=>.inl<|BG h M H s l R k
def h9 (h:ae te G σ (.tup ds)):Walk (λσ H R=>jh K te σ H R\/nh K te σ H R) G σ ds:=λM H s l R k=>.inr<|Ix h M H s l R k
def HY{E:Ends}{i:Nat}(l:au M H)(e:σ[i]?=some (some (.ref a)))(f:H a=some (.lst b))(g:b.length<sizeLine)(h:ae te (but H M) σ d)
  (k:∀v c,ab H c->al (but c M) v d->E.nx σ (upd c a (.lst (b++[v])))):ki (nq K "list" nJ (aU i) (bu te bL)) E σ H:=
 ⟨.ref a,e,(show gW K "list" (.ref a) H from .inl ⟨rfl,b,aN.of f⟩),h.at l λv c s r=>⟨a,b,v,rfl,rfl,s _ _ f,g,k v c s r⟩⟩
end
def lK(b:0<=i)(h:l[i.toNat]?=some x):de l i=some x:=by
 have:i=((i.toNat:Nat):Int):=by omega
 rw [this];exact tR h
end FL
namespace FL
open PySem L2
abbrev Dn:=List (Option D)
structure ax (G:Hp)(σ:St)(δ:Dn):Prop where
 len:σ.length=δ.length
 get:∀(i:Nat) (d:D),δ[i]?=some (some d)->∃v,σ[i]?=some (some v)/\al G v d
theorem ax.mono(h:ax G f g)(e:ab G c):ax c f g:=⟨h.len,λi d q=>let ⟨v,a,b⟩:=h.get i d q;⟨v,a,b.mono e⟩⟩
def ax.same(h:ax (but H M) b c)(e:ab H a):ax (but a M) b c:=h.mono<|e.but M
theorem ax.set(h:ax G b a)(i:Nat)(r:al G v d):ax G (b.set i (some v)) (a.set i (some d)):=by
 refine ⟨by simp [h.len],λj e q=>?_⟩;have g:=h.len;by_cases c:i=j
 .subst c;by_cases f:i<a.length
  .rw [Mr f] at q
   cases q;exact ⟨v,Mr Z4,r⟩
  .rw [M3 (by simpa using MV f)] at q;cases q
 .rw [Me c] at q⊢
  exact h.get j e q
def ax.off(h:ax G b a)(i:Nat)(o:Option V):ax G (b.set i o) (a.set i none):=by
 refine ⟨by simp [h.len],λj e q=>?_⟩;by_cases c:i=j
 .subst c;by_cases d:i<a.length
  .rw [Mr d] at q;cases q
  .rw [M3 (by simpa using MV d)] at q;cases q
 .rw [Me c] at q⊢
  exact h.get j e q
def ax.weak{a:Dn}(h:ax G c b)(e:a.length=b.length)(w:∀(i:Nat) (d:D),a[i]?=some (some d)->b[i]?=some (some d)):ax G c a:=
 ⟨h.len.trans e.symm,λi d q=>h.get i d<|w i d q⟩
section
variable {G:Hp}{σ:St}{δ:Dn}{d:D}{b:Bool}{M:List Addr}{H:Hp}{ta:TE}{tt:TT}{E:Ends}
def aI {i:Nat}(h:ax G σ δ)(e:δ[i]?=some (some d)):ae (aU i) G σ d:=let ⟨v,a,r⟩:=h.get i d e;cL a r
def xP(l:au M H)(e:ax (but H M) σ δ)(h:ae ta (but H M) σ d)(k:∀c a,ab H a->au M a->ax (but a M) c (δ.set i (some d))->E.nx c a):eF ta (cx i) E σ H:=
 h.at l λv a s r=>k _ a s (l.same s)<|(e.same s).set i r
def eR (l:au M H)(h:ae ta (but H M) σ d)(k:∀v a,ab H a->al (but a M) v d->E.rt v a):pz ta E σ H:=h.at l k
def ik {c f:TS}(l:au M H)(g:ax (but H M) σ δ)(h:bg tt (but H M) σ b)(i:b=true->∀a,ab H a->au M a->ax (but a M) σ δ->c E σ a)(j:b=false->∀a,ab H a->au M a->ax (but a M) σ δ->f E σ a):np tt c f E σ H:=
 BB l h (λe a s=>i e a s (l.same s)<|g.same s) (λe a s=>j e a s (l.same s)<|g.same s)
end
def ax.drop(h:ax G b a)(i:Nat):ax G b (a.set i none):=
 h.weak Z8 λj d q=>by
  by_cases c:i=j
  .subst c;by_cases e:i<a.length
   .rw [Mr e] at q;cases q
   .rw [M3 (by simpa using MV e)] at q;cases q
  .rw [Me c] at q;exact q
theorem nx{E:Ends}(h:E.nx a H):sV E a H:=h
def hX {G:Hp}{vs:List V}{ds:ZZ}(h:aE G vs ds)(N:ZY):ax G (L2.start N vs) (ds.map some++List.replicate (N.length-ds.length) none):=by
 refine ⟨by simp [L2.start,h.length],λi d q=>?_⟩;have hl:=h.length;unfold L2.start;by_cases hi:i<ds.length
 .rw [ME (by simpa using hi),Mo] at q
  cases e:ds[i]? with
  |none=>rw [e] at q;cases q
  |some d'=>
   rw [e] at q;cases q;obtain ⟨v,h1,h2⟩:=h.get e;exact ⟨v,by rw [ME (by simpa using (by omega:i<vs.length)),Mo,h1];rfl,h2⟩
 .rw [MJ (by simpa using MV hi)] at q
  obtain ⟨h1,h2⟩:=Ma.mp q;simp at h2
def dQ(a:cT k A):A.units+50<cLine:=by have:=a.units;omega
def eO {a b:D}(d:a.sc=true)(c:b.sc=true):cw a b=true/\a.cN<=40:=by
 cases a with
 |int i=>cases b<;>first|exact ⟨rfl,MI _⟩|exact absurd c (by simp [D.sc])
 |str i=>cases b<;>first|exact ⟨rfl,MI _⟩|exact absurd c (by simp [D.sc])
 |_=>exact absurd d (by simp [D.sc])
def sf (K:PySem.W.Frag):Sp:=λvs H Q _=>∃(a:Addr) (ns:List Int),vs=[.ref a]/\aN K H a (ns.map V.int)/\ns.length<=63/\∀H',Q (.bl true) H'
def Kb {a:List Int}(h:a.length<=63):gS (a.map V.int) none (some 500)=a.map V.int:=by
 have:=Fq (xs:=a.map V.int) 500;rw [MQ (by simp;omega)] at this;exact this
def LP {H:Hp}{p:Addr}{ns:List Int}(N:ZY)(a:Addr)(n:Nat)(hN:N.length=n+1):ax (but (upd H p (.lst (ns.map V.int))) []) ((L2.start N [.ref a]).set 0 (some (.ref p))) (some (.lst (ns.map D.int))::List.replicate n none):=by
 have h0:ax (but (upd H p (.lst (ns.map V.int))) []) (L2.start N [.ref a]) (none::List.replicate n none):=by
  refine ⟨by simp [L2.start,hN],λi d q=>?_⟩;obtain ⟨h1,h2⟩:=Ma.mp q;have:(none::List.replicate n none:Dn)=List.replicate (n+1) none:=rfl;rw [List.getElem_of_eq this] at h2;simp at h2
 have r:al (but (upd H p (.lst (ns.map V.int))) []) (.ref p) (.lst (ns.map D.int)):=.lst (by rw [Fx];exact aO) (aE.ints ns);exact h0.set 0 r
def ma (l:List D)(k:Int):D:=if k<l.length then l.getD k.toNat .av else .int 0
def Gj (a:List Int)(k:Nat):ma (a.map D.int) k=.int (a.getD k 0):=by
 unfold ma;by_cases h:k<a.length
 .rw [Mp (by simpa using h)]
  simp [List.getD,h]
 .rw [Mj (by simpa using h)]
  have:a.getD k 0=0:=by simp [List.getD,M3<|MV h]
  rw [this]
end FL
namespace PySem
structure mB (prog:Program)(w:World)(i l:Addr)(St:Nat->Heap->Prop)(item:Nat->Option Value):Prop where
 here:∀k h,St k h->∃o vs,h.get? i=some o/\o.data=.fields vs
 keep:∀k h h',St k h->(∀o,h.get? i=some o->h'.get? i=some o)->(∀o,h.get? l=some o->h'.get? l=some o)->St k h'
 one:∀(A:Around) (E:Value->Shared->Prop) (k:Nat) (s:Shared) (x:Value) (Q:Value->Shared->Prop),St k s.heap->item k=some x->(∀h',St (k+1) h'->Heap.SameBut i s.heap h'->Q x {s with heap:=h'})->wpAny (model prog w) A (Builtin.SmallTypes.nextOf (.ref i)) Q E s
 over:∀(A:Around) (E:Value->Shared->Prop) (k:Nat) (s:Shared) (Q:Value->Shared->Prop),A.handled=none->St k s.heap->item k=none->(∀h' e,Heap.ExtBut i s.heap h'->(∃o,h'.get? e=some o/\o.cls=.type "StopIteration")->E (.ref e) {s with heap:=h'})->wpAny (model prog w) A (Builtin.SmallTypes.nextOf (.ref i)) Q E s
section
variable {prog:Program}{w:World}{A:Around}{E:Value->Shared->Prop}{s:Shared}
def Gk{Q:ZT}(b:s.heap.IsTupleIter c l i)(j:s.heap.IsTuple l a)(k:a[i]?=some x)
  (m:∀f,f.IsTupleIter c l (i+1)->Heap.SameBut c s.heap f->Q x {s with heap:=f}):wpAny (model prog w) A (Builtin.SmallTypes.nextOf (.ref c)) Q E s:=by
 obtain ⟨o,e,n,d⟩:=id b;obtain ⟨p,g,_,q,h⟩:=j;unfold Builtin.SmallTypes.nextOf;refine L9<|Np (name:=Str.ofString "__next__") b.typeIs N7<|Oq N7 b.typeIs P5 ?_ (PX _);show wpAny _ _ (field (.ref c) 0>>=_) _ _ s;refine L9<|Nh e d (x:=.ref l) rfl ?_;show wpAny _ _ (if (Value.ref l==Value.none)=true then _ else _) _ _ s;rw [Mj (show¬((Value.ref l==Value.none)=true) from Mm)];show wpAny _ _ (field (.ref c) 1>>=_) _ _ s;refine L9<|Nh e d (x:=.int i 0) rfl ?_;show wpAny _ _ (seqItems? (.ref l)>>=_) _ _ s;refine L9<|Nj g h ?_;simp only [Od,k];refine L9<|wpAny_setField e d Z8<|Mt ⟨x,rfl,Mt<|m _ ⟨_,OG _ e<|Obj.isFreed_of_fields<|Obj.data_mapFields d _,(Obj.cls_mapFields ..).trans n,?_⟩<|Oo ..⟩;rw [Obj.data_mapFields d];simp [rawInt]
def Ep(n:A.handled=none)(c:s.heap.IsTupleIter d l i)(p:s.heap.IsTuple l b)(q:b[i]?=none)
  (r:∀f e,Heap.ExtBut d s.heap f->(∃o,f.get? e=some o/\o.cls=.type "StopIteration")->E (.ref e) {s with heap:=f}):wpAny (model prog w) A (Builtin.SmallTypes.nextOf (.ref d)) Q E s:=by
 obtain ⟨o,g,t,h⟩:=id c;obtain ⟨u,j,_,v,k⟩:=p;unfold Builtin.SmallTypes.nextOf;refine L9<|Np (name:=Str.ofString "__next__") c.typeIs N7<|Oq N7 c.typeIs P5 ?_ (PX _);show wpAny _ _ (field (.ref d) 0>>=_) _ _ s;refine L9<|Nh g h (x:=.ref l) rfl ?_;show wpAny _ _ (if (Value.ref l==Value.none)=true then _ else _) _ _ s;rw [Mj (show¬((Value.ref l==Value.none)=true) from Mm)];show wpAny _ _ (field (.ref d) 1>>=_) _ _ s;refine L9<|Nh g h (x:=.int i 0) rfl ?_;show wpAny _ _ (seqItems? (.ref l)>>=_) _ _ s;refine L9<|Nj j k ?_;simp only [Od,q];refine L9<|Pd<|L9<|wpAny_setField g h Z8 ?_;show wpAny _ _ (newExc (.type "StopIteration") []>>=_) _ _ _;refine L9 ?_;simp only [newExc,newTuple];refine L9<|NF ?_ (by size_fits);refine L9 (m:=firstArgMember _ _)<|QQ (a:=Value.none) (by first|rfl|(simp only [firstArgMember];rfl)) ?_;refine NF ?_ (by size_fits);simp only [raiseNew];refine L9<|wpAny_handled ?_
 first|rw [show A.in1.handled=none from n]|rw [n]
 exact L9<|Mt<|wpAny_throw<|r _ _ (((Oo ..).extBut.push _).push _) ⟨_,Mz _ rfl,rfl⟩
def wH {i l:Addr}{xs:Array Value}:mB prog w i l (λk h=>h.IsTupleIter i l k/\h.IsTuple l xs/\l≠i) (λk=>xs[k]?) where
 here:=λk h q0=>by obtain ⟨⟨o,e,_,d⟩,_⟩:=q0;exact ⟨o,_,e,d⟩
 keep:=λk h h' q1 k1 k2=>by obtain ⟨⟨o,e,r⟩,⟨o2,e2,r2⟩,n⟩:=q1;exact ⟨⟨o,k1 _ e,r⟩,⟨o2,k2 _ e2,r2⟩,n⟩
 one:=λA E k s x Q q2 hx hq=>by obtain ⟨h1,h2,n⟩:=q2;exact Gk h1 h2 hx λh' a b=>hq h' ⟨a,h2.extBut b.extBut n,n⟩ b
 over:=λA E k s Q hh q3 hx hq=>by obtain ⟨h1,h2,n⟩:=q3;exact Ep hh h1 h2 hx λh' e a b=>hq h' e a b
variable {z TI TO i1 i2 l1 l2:Addr}{S1 S2:Nat->Heap->Prop}{it1 it2:Nat->Option Value}
structure lE (prog:Program)(w:World)(S1 S2:Nat->Heap->Prop)(z TI TO i1 i2 l1 l2:Addr)(f0:Value)(k:Nat)(h:Heap):Prop where
 zip:IsZip h z TI TO f0
 ins:IsPair h TI (.ref i1) (.ref i2)
 out:∃a b,IsPair h TO a b
 one:S1 k h
 two:S2 k h
def DG{Q:ZT}(M:mB prog w i1 l1 S1 it1)(N:mB prog w i2 l2 S2 it2)(D:ZipApart z TI TO i1 i2 l1 l2)(Z:lE prog w S1 S2 z TI TO i1 i2 l1 l2 .none k s.heap)(hx:it1 k=some x)(hy:it2 k=some y)
  (hQ:∀O,lE prog w S1 S2 z TI TO i1 i2 l1 l2 (rawInt s.heap.objs.size) (k+1) O->IsPair O s.heap.objs.size x y->(∀c o,c≠z->c≠TO->c≠i1->c≠i2->s.heap.get? c=some o->O.get? c=some o)->Q (.ref s.heap.objs.size) {s with heap:=O}):
  wpAny (model prog w) A (Builtin.«zip.__next__» ⟨[.ref z],[]⟩) (λY s'=>∃v,Y=.done (.ret v)/\Q v s') E s:=by
 obtain ⟨C,G,⟨a,b,ac⟩,h1,h2⟩:=Z;show wpAny _ _ (field (.ref z) 2>>=_) _ _ _;refine L9<|Nh C rfl (x:=.bool false) rfl ?_;show wpAny _ _ (field (.ref z) 3>>=_) _ _ _;refine L9<|Nh C rfl (x:=.ref TI) rfl<|L9<|Nj G rfl ?_;show wpAny _ _ (Builtin.SmallTypes.ownedTupleIsFree (.ref z)>>=_) _ _ _;unfold Builtin.SmallTypes.ownedTupleIsFree;refine L9<|L9<|Nh C rfl (x:=.none) rfl<|Mt ?_;simp only [O3];refine L9<|Pd<|L9<|Nh C rfl (x:=.ref TO) rfl<|L9<|OB C Z8 λha l m=>?_
 replace l:IsZip ha z TI TO .ellipsis:=l
 refine L9 ?_;simp only [Qm,List.zipIdx_nil,PV,List.forIn_nil];refine L9<|L9<|wpAny_onRaise ?_
 show wpAny _ _ (Builtin.SmallTypes.nextOf (.ref i1)>>=_) _ _ _;have af:S1 k ha:=M.keep _ _ _ h1 (λo e=>m.extBut _ _ D.i1z e) λo e=>m.extBut _ _ D.l1z e;refine L9<|M.one _ _ k {s with heap:=ha} x _ af hx λhb aj u=>Mt ?_
 have i:IsPair hb TO a b:=u.extBut _ _ D.TOi1<|m.extBut _ _ D.TOz ac
 refine L9<|Nj i rfl<|L9<|wpAny_updateSeq_pair i λhc g n=>?_
 replace g:IsPair hc TO x b:=g
 refine L9<|OJ<|Mt<|L9<|L9<|wpAny_onRaise ?_
 show wpAny _ _ (Builtin.SmallTypes.nextOf (.ref i2)>>=_) _ _ _;have am:S2 k hc:=N.keep _ _ _ h2 (λo e=>n.extBut _ _ D.TOi2.symm<|u.extBut _ _ D.i12.symm<|m.extBut _ _ D.i2z e) λo e=>n.extBut _ _ D.l2TO<|u.extBut _ _ D.l2i1<|m.extBut _ _ D.l2z e
 refine L9<|N.one _ _ k {s with heap:=hc} y _ am hy λhd an B=>Mt ?_
 have j:IsPair hd TO x b:=B.extBut _ _ D.TOi2 g;refine L9<|Nj j rfl<|L9<|wpAny_updateSeq_pair j λd f p=>?_
 replace f:IsPair d TO x y:=f
 refine L9<|OJ<|Mt<|Mt<|L9<|Nj f rfl<|L9<|wpAny_newTuple ?_
 have H:d.objs.size=s.heap.objs.size:=by rw [p.1,B.1,n.1,u.1,m.1]
 have I:IsZip d z TI TO .ellipsis:=p.extBut _ _ D.TOz.symm<|B.extBut _ _ D.i2z.symm<|n.extBut _ _ D.TOz.symm<|u.extBut _ _ D.i1z.symm l
 have J:∀c o,c≠z->c≠TO->c≠i1->c≠i2->s.heap.get? c=some o->d.get? c=some o:=λc o q T c3 c4 e=>p.extBut _ _ T<|B.extBut _ _ c4<|n.extBut _ _ T<|u.extBut _ _ c3<|m.extBut _ _ q e
 have ao:S1 (k+1) d:=M.keep _ _ _ aj (λo e=>p.extBut _ _ D.TOi1.symm<|B.extBut _ _ D.i12<|n.extBut _ _ D.TOi1.symm e) λo e=>p.extBut _ _ D.l1TO<|B.extBut _ _ D.l1i2<|n.extBut _ _ D.l1TO e
 have as:S2 (k+1) d:=N.keep _ _ _ an (λo e=>p.extBut _ _ D.TOi2.symm e) λo e=>p.extBut _ _ D.l2TO e;show wpAny _ _ (Builtin.SmallTypes.ownedTupleHandOut (.ref z) (.ref d.objs.size)>>=_) _ _ _;unfold Builtin.SmallTypes.ownedTupleHandOut;have a0:IsZip (d.push {cls:=.type "tuple",data:=.seq #[x,y]}) z TI TO .ellipsis:=Mf _ I;refine L9<|L9<|OB a0 Z8 λhg r sg=>?_
 replace r:IsZip hg z TI TO (rawInt d.objs.size):=r
 refine OB r Z8 λU h si=>?_
 replace h:IsZip U z TI TO (rawInt d.objs.size):=h
 have t:∀c o,c≠z->d.get? c=some o->U.get? c=some o:=λc o q e=>si.extBut _ _ q<|sg.extBut _ _ q<|Mf _ e
 have L:d.objs.size≠z:=Ow<|MA I
 have hT:IsPair U d.objs.size x y:=si.extBut _ _ L<|sg.extBut _ _ L<|Mz _ rfl
 rw [H] at h hT;refine Mt ⟨_,rfl,?_⟩;show Q (.ref d.objs.size) _;rw [H];exact hQ U ⟨h,t _ _ D.TIz<|J _ _ D.TIz D.TITO D.TIi1 D.TIi2 G,⟨_,_,t _ _ D.TOz f⟩,M.keep _ _ _ ao (λo e=>t _ o D.i1z e) λo e=>t _ o D.l1z e,N.keep _ _ _ as (λo e=>t _ o D.i2z e) λo e=>t _ o D.l2z e⟩ hT λc o q T c3 c4 e=>t c o q<|J c o q T c3 c4 e
def Dw(B:A.handled=none)(t:mB prog w i1 l1 S1 it1)(D:ZipApart z TI TO i1 i2 l1 l2)(Z:lE prog w S1 S2 z TI TO i1 i2 l1 l2 .none k s.heap)(C:it1 k=none)
  (G:∀j e,(∀c o,c≠z->c≠i1->s.heap.get? c=some o->j.get? c=some o)->(∃o,j.get? e=some o/\o.cls=.type "StopIteration")->E (.ref e) {s with heap:=j}):
  wpAny (model prog w) A (Builtin.«zip.__next__» ⟨[.ref z],[]⟩) Q E s:=by
 obtain ⟨g,l,⟨a,b,H⟩,I,T⟩:=Z;show wpAny _ _ (field (.ref z) 2>>=_) _ _ _;refine L9<|Nh g rfl (x:=.bool false) rfl ?_;show wpAny _ _ (field (.ref z) 3>>=_) _ _ _;refine L9<|Nh g rfl (x:=.ref TI) rfl<|L9<|Nj l rfl ?_;show wpAny _ _ (Builtin.SmallTypes.ownedTupleIsFree (.ref z)>>=_) _ _ _;unfold Builtin.SmallTypes.ownedTupleIsFree;refine L9<|L9<|Nh g rfl (x:=.none) rfl<|Mt ?_;simp only [O3];refine L9<|Pd<|L9<|Nh g rfl (x:=.ref TO) rfl<|L9<|OB g Z8 λm d n=>?_
 replace d:IsZip m z TI TO .ellipsis:=d
 refine L9 ?_;simp only [Qm,List.zipIdx_nil,PV,List.forIn_nil];refine L9<|L9<|wpAny_onRaise ?_
 show wpAny _ _ (Builtin.SmallTypes.nextOf (.ref i1)>>=_) _ _ _;have p:S1 k m:=t.keep _ _ _ I (λo e=>n.extBut _ _ D.i1z e) λo e=>n.extBut _ _ D.l1z e;refine L9<|t.over _ _ k {s with heap:=m} _ B p C λJ e u L=>?_
 obtain ⟨M,f,h⟩:=L;have i:IsZip J z TI TO .ellipsis:=u _ _ D.i1z.symm d;have r:e≠z:=λq=>by subst q;rw [i] at f;cases f;simp at h
 exact OB i Z8 λN _ v=>G N e (λc o y O q=>v.extBut _ _ y<|u _ _ O<|n.extBut _ _ y q) ⟨M,v.extBut _ _ r f,h⟩
def Ex{Q:Option Value->Shared->Prop}(f:mB prog w i1 l1 S1 it1)(g:mB prog w i2 l2 S2 it2)(D:ZipApart z TI TO i1 i2 l1 l2)(Z:lE prog w S1 S2 z TI TO i1 i2 l1 l2 .none k s.heap)(h:it1 k=some x)(i:it2 k=some y)
  (j:∀d,lE prog w S1 S2 z TI TO i1 i2 l1 l2 (rawInt s.heap.objs.size) (k+1) d->IsPair d s.heap.objs.size x y->(∀c o,c≠z->c≠TO->c≠i1->c≠i2->s.heap.get? c=some o->d.get? c=some o)->Q (some (.ref s.heap.objs.size)) {s with heap:=d}):
  wpAny (model prog w) A (pyNext (.ref z)) Q E s:=by
 have e:s.TypeIs (.ref z) "zip":=⟨_,Z.zip,rfl⟩
 unfold pyNext;exact L9<|wpAny_attempt<|Np (name:=Str.ofString "__next__") e PY<|Oq PY e F.entry_zip_next (DG f g D Z h i λd a b c=>Mt<|j d a b c)<|F.args_zip_next_1 _
def EH{Q:Option Value->Shared->Prop}(f:A.handled=none)(g:mB prog w i1 l1 S1 it1)(D:ZipApart z TI TO i1 i2 l1 l2)(Z:lE prog w S1 S2 z TI TO i1 i2 l1 l2 .none k s.heap)(h:it1 k=none)
  (i:∀a,(∀c o,c≠z->c≠i1->s.heap.get? c=some o->a.get? c=some o)->Q none {s with heap:=a}):wpAny (model prog w) A (pyNext (.ref z)) Q E s:=by
 have d:s.TypeIs (.ref z) "zip":=⟨_,Z.zip,rfl⟩
 unfold pyNext;refine L9<|wpAny_attempt<|Np (name:=Str.ofString "__next__") d PY<|Oq PY d F.entry_zip_next (Dw f g D Z h λa e j ⟨o,l,m⟩=>?_)<|F.args_zip_next_1 _
 exact L9<|wpAny_isInstance (T:="StopIteration") (b:=true) ⟨o,l,m⟩ isSubtype_stop<|Mt<|i _ j
end
abbrev uf (h:Heap)(a:Addr):Heap:=h.push {cls:=.type "tuple_iterator",data:=.fields #[.ref a,.int 0 0]}
abbrev tX (h:Heap)(a b:Addr):Heap:=(uf h a).push {cls:=.type "tuple_iterator",data:=.fields #[.ref b,.int 0 0]}
abbrev rQ (h:Heap)(a b:Addr):Heap:=(tX h a b).push {cls:=.type "tuple",data:=.seq #[.ref h.objs.size,.ref (uf h a).objs.size]}
abbrev sE (h:Heap)(a b:Addr):Heap:=(rQ h a b).push {cls:=.type "tuple",data:=.seq #[.none,.none]}
abbrev ol (h:Heap)(a b:Addr):Heap:=(sE h a b).push {cls:=.type "zip",data:=.fields #[.none,.bool false,.bool false,.ref (tX h a b).objs.size,.ref (rQ h a b).objs.size]}
def IA (a b:Addr)(c e:Array Value):Meets (Builtin.«zip.__new__» ⟨[.type "zip",.ref a,.ref b],[]⟩) (λ_ R s=>s.heap.IsTuple a c/\s.heap.IsTuple b e/\R (.ok (.ret (.ref (sE s.heap a b).objs.size))) {s with heap:=ol s.heap a b}):=
 .of_wp λf w A R s h=>by
  obtain ⟨i,g,d,j,os⟩:=s;obtain ⟨l,m,h⟩:=h;have k:=sub_zip;have n:Heap.IsTuple (Shared.heap ⟨i,g,d,j,os⟩) a c:=l;have o:Heap.IsTuple (Shared.heap ⟨i.push {cls:=.type "tuple_iterator",data:=.fields #[.ref a,.int 0 0]},g,d,j,os⟩) b e:=Heap.IsTuple.push m _;wp_walk using Pa n,Pa o;exact ⟨_,rfl,h⟩
def Lc{s:Shared}{Q:ZT}(u:s.heap.IsTuple a l)(v:s.heap.IsTuple b m)
  (h:∀d n,n=s.heap.objs.size->IsZip d (n+4) (n+2) (n+3) .none->IsPair d (n+2) (.ref n) (.ref (n+1))->IsPair d (n+3) .none .none->d.IsTupleIter n a 0->d.IsTupleIter (n+1) b 0->(∀c o,s.heap.get? c=some o->d.get? c=some o)->Q (.ref (n+4)) {s with heap:=d}):
  wpAny (model e w) A (call (.type "zip") [.ref a,.ref b]) Q E s:=by
 refine callType_new F.called_zip Z1 (F.typeCall_zip_2 _ _) (F.newCall_zip_2 _ _) (λf=>F.args_object_init_3 f _ _) F.entry_zip_new (IA a b l m) ⟨u,v,?_⟩;have g:(uf s.heap a).objs.size=s.heap.objs.size+1:=Nq ..;have i:(tX s.heap a b).objs.size=s.heap.objs.size+2:=by rw [Nq,g]
 have j:(rQ s.heap a b).objs.size=s.heap.objs.size+3:=by rw [Nq,i]
 have zD:(sE s.heap a b).objs.size=s.heap.objs.size+4:=by rw [Nq,j]
 have k:(ol s.heap a b).get? (sE s.heap a b).objs.size=some _:=Mz _ rfl;have p:(ol s.heap a b).get? (rQ s.heap a b).objs.size=some _:=Mf _<|Mz _ rfl
 have r:(ol s.heap a b).get? (tX s.heap a b).objs.size=some _:=Mf _<|Mf _<|Mz _ rfl
 have t:(ol s.heap a b).get? (uf s.heap a).objs.size=some _:=Mf _<|Mf _<|Mf _<|Mz _ rfl
 have x:(ol s.heap a b).get? s.heap.objs.size=some _:=Mf _<|Mf _<|Mf _<|Mf _<|Mz _ rfl
 show _/\_;rw [i,j,zD] at k;rw [g,i] at r;rw [j] at p;rw [g] at t;rw [zD];exact ⟨⟨_,k,rfl⟩,h _ _ rfl k r p ⟨_,x,rfl,rfl⟩ ⟨_,t,rfl,rfl⟩ λc o q=>Mf _<|Mf _<|Mf _<|Mf _<|Mf _ q⟩
end PySem
namespace L2
open PySem PySem.Spec PyProof.Rows
section
variable {X:Cx}{pins:List (Addr×Obj)}{σ:St}{H:Hp}{s:Shared}
def Inv.xm{j:ZX}{p:Heap}(I:Inv X pins σ H s)(t:∀b∈j,iZ X pins H b)(y:s.heap.objs.size<=T)(k:∀b u,b∉j->s.heap.get? b=some u->p.get? b=some u)
  (x:ca X.prog X.w (upd H T o) p T o):Inv X pins σ (upd H T o) {s with heap:=p,toks:=t'}:=by
 have h:H T=none:=I.aA.fresh y;have l:=I.ig y h;have a:∀b u,H b=some u->b≠T:=λb u e=>dm e h;have i:∀b u,H b=some u->b∉j:=λb u e g=>by have:=(t b g).1;rw [e] at this;cases this
 refine I.step (g':=s.gens) (d':=s.drawn) (ch:=T::j) (λb g=>?_) (λb u _ _ d e _=>k b u (λz=>d<|L8 _ z) e) (λb u _ _ d e _=>⟨u.slots,k b u (λz=>d<|L8 _ z) e⟩) (λb u d e n=>?_)
  (λb u d e=>⟨u,k b u (λz=>d<|L8 _ z) e⟩) (λb A e=>by rw [aD<|a b _ e];exact e) (λb q A e=>by rw [aD<|a b _ e];exact e) (λb L e=>⟨#[],by rw [aD<|a b _ e,e];simp⟩) (λm C=>?_) (λb u e=>?_) I.bare
 .rcases Mn.mp g with rfl|g
  .exact ⟨l.2.2.2.1,l.2.1,l.2.2.2.2.1,l.2.2.2.2.2⟩
  .have f:=t b g;exact ⟨f.2.2.2.1,f.2.1,f.2.2.2.2.1,f.2.2.2.2.2⟩
 .rw [aD λz=>d (by rw [z];exact Mc)];exact n
 .obtain ⟨B,E,G,J,r⟩:=C;exact ⟨B,E,G,k _ B (λz=>(t _ z).2.1 rfl) J,r⟩
 .by_cases g:b=T
  .subst g;rw [aO] at e;cases e;exact x
  .rw [aD g] at e
   refine (I.aA b u e).j6 (λc v d q=>k c v ?_ q) (λc q=>by rw [aD<|a c _ q];exact q) λc A q=>by rw [aD<|a c _ q];exact q
   rcases d with rfl|d
   .exact i _ _ e
   .exact i _ _ d
def Inv.wq{g:ZX}{j:Heap}(I:Inv X pins σ H s)(h:∀b∈g,iZ X pins H b)(k:∀b u,b∉g->s.heap.get? b=some u->j.get? b=some u):Inv X pins σ H {s with heap:=j,toks:=t'}:=by
 have d:∀b u,H b=some u->b∉g:=λb u e i=>by have:=(h b i).1;rw [e] at this;cases this
 refine I.step (g':=s.gens) (d':=s.drawn) (ch:=g) (λb i=>?_) (λb u _ _ a e _=>k b u a e) (λb u _ _ a e _=>⟨u.slots,k b u a e⟩) (λb u a e n=>n)
  (λb u a e=>⟨u,k b u a e⟩) (λb l e=>e) (λb q l e=>e) (λb y e=>⟨#[],by rw [e];simp⟩) (λm p=>?_) (λb u e=>?_) I.bare
 .have f:=h b i;exact ⟨f.2.2.2.1,f.2.1,f.2.2.2.2.1,f.2.2.2.2.2⟩
 .obtain ⟨o,t,w,x,r⟩:=p;exact ⟨o,t,w,k _ o (λz=>(h _ z).2.1 rfl) x,r⟩
 .refine (I.aA b u e).j6 (λc v a q=>k c v ?_ q) (λc q=>q) λc l q=>q
  rcases a with rfl|a
  .exact d _ _ e
  .exact d _ _ a
end
def Aj (K:PySem.W.Frag)(a b:Addr):It:=
 ⟨λi H=>∃xs ys x y,bz K H a xs/\bz K H b ys/\xs[i]?=some x/\ys[i]?=some y,
  λi H v H'=>∃T x y,H T=none/\v=.ref T/\H'=upd H T (.tup [x,y])/\∀xs ys,bz K H a xs->bz K H b ys->xs[i]?=some x/\ys[i]?=some y,
  λi H=>∃xs ys,bz K H a xs/\bz K H b ys/\xs.length<=i⟩
def Lz (z TI TO i1 i2 a b:Addr)(f0:Value)(i:Nat)(h:Heap):Prop:=IsZip h z TI TO f0/\IsPair h TI (.ref i1) (.ref i2)/\(∃u v,IsPair h TO u v)/\h.IsTupleIter i1 a i/\h.IsTupleIter i2 b i
def FM {P:Program}{w:World}{K:W.Frag}{es:List Expr}{kk:Nat}{tp:Pos}{z TI TO i1 i2 a b:Addr}(D:ZipApart z TI TO i1 i2 a b)(D1:TI≠a)(D2:TI≠b):
  jg P w K (.Tuple es kk tp) (Aj K a b) [z,TI,TO,i1,i2] z (λi h=>Lz z TI TO i1 i2 a b .none i h) where
 mem:=by simp
 obj:=λi h q0 q hq=>by
  obtain ⟨hz,hTI,⟨u,v,hTO⟩,⟨o1,e1,_,d1⟩,⟨o2,e2,_,d2⟩⟩:=q0;simp only [Mn,MR,M9] at hq;rcases hq with rfl|rfl|rfl|rfl|rfl
  .exact ⟨_,hz,λv z=>nomatch z⟩
  .exact ⟨_,hTI,λv z=>nomatch z⟩
  .exact ⟨_,hTO,λv z=>nomatch z⟩
  .exact ⟨_,e1,λv z=>by rw [d1] at z;cases z⟩
  .exact ⟨_,e2,λv z=>by rw [d2] at z;cases z⟩
 keep:=λi h h' q3 k=>by obtain ⟨hz,hTI,⟨u,v,hTO⟩,⟨o1,e1,r1⟩,⟨o2,e2,r2⟩⟩:=q3;exact ⟨k _ Z8 _ hz,k _ Z8 _ hTI,⟨u,v,k _ Z8 _ hTO⟩,⟨o1,k _ Z8 _ e1,r1⟩,⟨o2,k _ Z8 _ e2,r2⟩⟩
 item:=by
  intro X hP hw hK hc i pins s σ H E I hf st hg;subst hP hw hK;obtain ⟨xs,ys,x,y,hq1,hq2,hx,hy⟩:=hg;obtain ⟨its,rv,p1,hz1⟩:=I.tuple hq1;obtain ⟨its2,rv2,p2,hz2⟩:=I.tuple hq2;obtain ⟨u,hu,ru⟩:=rv.get hx;obtain ⟨v,hv,rv'⟩:=rv2.get hy;obtain ⟨hz,hTI,hTO,h1,h2⟩:=st;have Z:lE X.prog X.w (λk h=>h.IsTupleIter i1 a k/\h.IsTuple a its.toArray/\a≠i1) (λk h=>h.IsTupleIter i2 b k/\h.IsTuple b its2.toArray/\b≠i2) z TI TO i1 i2 a b .none i s.heap:=⟨hz,hTI,hTO,⟨h1,p1,D.l1i1⟩,⟨h2,p2,D.l2i2⟩⟩
  refine Ex wH wH D Z (x:=u) (y:=v) (by simpa using hu) (by simpa using hv) λh' Z' hT kp=>?_;refine ⟨_,rfl,?_⟩;refine wpAny_letOwnedTupleGo_zip (s:={s with heap:=h'}) Z'.zip λh2' hz2' sb=>?_;have hTz:s.heap.objs.size≠z:=Ow<|MA hz
  have hT2:IsPair h2' s.heap.objs.size u v:=(sb.2 _ hTz).trans hT;have kp2:∀c o,c∉[z,TI,TO,i1,i2]->s.heap.get? c=some o->h2'.get? c=some o:=λc o hc e=>(sb.2 c λq=>hc (by simp [q])).trans<|kp c o (λq=>hc (by simp [q])) (λq=>hc (by simp [q])) (λq=>hc (by simp [q])) (λq=>hc (by simp [q])) e
  have hTn:H s.heap.objs.size=none:=I.aA.fresh<|Mh _
  refine ⟨.ref s.heap.objs.size,upd H s.heap.objs.size (.tup [x,y]),I.xm (t':=s.toks) hf (Mh _) kp2 ⟨by show 2<=sizeLine;decide,[u,v],.cons ru (.cons rv' .nil),⟨_,hT2,rfl,_,rfl⟩⟩,rfl,⟨_,x,y,hTn,rfl,rfl,λxs' ys' q1 q2=>?_⟩,?_,λb' hb=>?_⟩
  .rw [I.vL q1 hq1,I.vL q2 hq2];exact ⟨hx,hy⟩
  .obtain ⟨u',v',hTO'⟩:=Z'.out;have ii1:=Z'.one.1;have ii2:=Z'.two.1;exact ⟨hz2',(sb.2 _ D.TIz).trans Z'.ins,⟨u',v',(sb.2 _ D.TOz).trans hTO'⟩,ii1.extBut sb.extBut D.i1z,ii2.extBut sb.extBut D.i2z⟩
  .obtain ⟨ob,e,_⟩:∃ob,s.heap.get? b'=some ob/\True:=by
    simp only [Mn,MR,M9] at hb;obtain ⟨u',v',hTO'⟩:=hTO;obtain ⟨o1,e1,_⟩:=h1;obtain ⟨o2,e2,_⟩:=h2;rcases hb with rfl|rfl|rfl|rfl|rfl
    .exact ⟨_,hz,trivial⟩
    .exact ⟨_,hTI,trivial⟩
    .exact ⟨_,hTO',trivial⟩
    .exact ⟨_,e1,trivial⟩
    .exact ⟨_,e2,trivial⟩
   rw [aD<|MM<|MA e];exact (hf b' hb).1
 done:=by
  intro X hP hw hK hc i pins s σ H E I hf st hg;subst hP hw hK;obtain ⟨xs,ys,hq1,hq2,hx⟩:=hg;obtain ⟨its,rv,p1,hz1⟩:=I.tuple hq1;obtain ⟨its2,rv2,p2,hz2⟩:=I.tuple hq2;obtain ⟨hz,hTI,hTO,h1,h2⟩:=st;have Z:lE X.prog X.w (λk h=>h.IsTupleIter i1 a k/\h.IsTuple a its.toArray/\a≠i1) (λk h=>h.IsTupleIter i2 b k/\h.IsTuple b its2.toArray/\b≠i2) z TI TO i1 i2 a b .none i s.heap:=⟨hz,hTI,hTO,⟨h1,p1,D.l1i1⟩,⟨h2,p2,D.l2i2⟩⟩
  have hl:=rv.length;exact EH (I.ok.hd hc) wH D Z (by simp;omega) λh' kp=>⟨rfl,I.wq (t':=s.toks) hf λc o hcc e=>kp c o (λq=>hcc (by simp [q])) (λq=>hcc (by simp [q])) e⟩
 self:=λA i s Q E st h=>wpAny_pyIter_zip st.1 h
section
variable {X:Cx}
def Cw (K:PySem.W.Frag)(t:TA):TI:=λσ H R=>t σ H λvs H1=>∃a b,vs=[.ref a,.ref b]/\(∃xs,bz K H1 a xs)/\(∃ys,bz K H1 b ys)/\R (Aj K a b) H1
def Fd(M:X.mg "zip"=none)(j:PA X [a,b] t)(N:Gl X "zip":=by rfl)(O:starEach [a,b] X.env=[(false,eval a X.env),(false,eval b X.env)]:=by rfl)(f:starEach [b] X.env=[(false,eval b X.env)]:=by rfl):
  PI X (.Tuple G J L) (.Call (.Name "zip" p) [a,b] [] e) (Cw X.K t):=by
 intro d s v H R I h;refine Call_<|jA I N M PyProof.Rows.boot_zip<|No (aP (j e d s v H _ I h) λus k ⟨vs,w,g,Q,T⟩=>?_) (by rw [O,f]) (by rw [f];rfl)
 obtain ⟨a,b,rfl,⟨xs,l⟩,⟨ys,m⟩,q⟩:=T;obtain ⟨u1,u2,rfl,o,r⟩:=be.two Q;cases o;cases r;obtain ⟨U,rv,x,Y⟩:=g.tuple l;obtain ⟨y,ac,z,af⟩:=g.tuple m;refine Lc x z λA n u B g2 g3 g4 g5 kp=>?_;have j:a<n:=by rw [u];exact x.lt
 have C:b<n:=by rw [u];exact z.lt
 have I2:Inv X d v w {k with heap:=A}:=g.kept (t':=k.toks) kp;have D:ZipApart (n+4) (n+2) (n+3) n (n+1) a b:=zipApart_new j C;refine wpAny_pyIter_zip (s:={k with heap:=A}) B ?_;refine ⟨n+4,[n+4,n+2,n+3,n,n+1],_,_,w,rfl,I2,FM D (Ow<|MS j<|Nb _ _)<|Ow<|MS C<|Nb _ _,⟨B,g2,⟨_,_,g3⟩,g4,g5⟩,λc E=>?_,q⟩;have i:k.heap.objs.size<=c:=by
  simp only [Mn,MR,M9] at E;rw [<-u];rcases E with rfl|rfl|rfl|rfl|rfl
  .exact Nb _ _
  .exact Nb _ _
  .exact Nb _ _
  .exact Mh _
  .exact Nb _ _
 exact g.ig i<|g.aA.fresh i
end
end L2
namespace FL
open PySem L2
def kR (xs ys:List D):List D:=List.zipWith (λx y=>.tup [x,y]) xs ys
def JQ{g i:ZZ}{K:W.Frag}(U:g.length=i.length)(h:dJ t G E [.tup g,.tup i]):Walk (Cw K t) G E (kR g i):=λM H s l R k=>h M H s l _ λvs Y s1 rs=>by
 obtain ⟨v1,v2,rfl,r1,r2⟩:=qa rs;obtain ⟨a,m,rfl,r,I⟩:=r1.fb;obtain ⟨b,n,rfl,z,h4⟩:=r2.fb;refine ⟨a,b,rfl,⟨m,bz.of (aw r).2⟩,⟨n,bz.of (aw z).2⟩,k _ Y s1 (λj d M' H' c f A=>?_) λM' H' f=>?_⟩
 .have o:=(aw<|f _ _ r).2;have p:=(aw<|f _ _ z).2;unfold kR at c;rw [Pu] at c;cases q:g[j]? with
  |none=>rw [q] at c;cases c
  |some x=>
   cases B:i[j]? with
   |none=>rw [q,B] at c;cases c
   |some y=>
    rw [q,B] at c;cases c;obtain ⟨u,J,ru⟩:=I.get q;obtain ⟨w,L,C⟩:=h4.get B;refine ⟨⟨m,n,u,w,bz.of o,bz.of p,J,L⟩,λv ac q0=>?_⟩;obtain ⟨T,x',y',N,e,eH,hy⟩:=q0;obtain ⟨O,Q⟩:=hy m n (bz.of o)<|bz.of p
    rw [J] at O;rw [L] at Q;cases O;cases Q;subst e eH;refine ⟨da N _,?_⟩;exact oH A N (.cons (ru.mono f) (.cons (C.mono f) .nil))
 .have o:=(aw<|f _ _ r).2;have p:=(aw<|f _ _ z).2;refine ⟨m,n,bz.of o,bz.of p,?_⟩;rw [I.length];simp [kR,U]
end FL
namespace L2
open PySem PySem.Spec PyProof.Rows
def zQ (K:PySem.W.Frag)(a:Addr):It:=
 ⟨λi H=>∃xs x,aN K H a xs/\xs[i]?=some x,
  λi H v H'=>∃T x,H T=none/\v=.ref T/\H'=upd H T (.tup [.int i,x])/\∀xs,aN K H a xs->xs[i]?=some x,
  λi H=>∃xs,aN K H a xs/\xs.length<=i⟩
def Lx {P:Program}{w:World}{K:W.Frag}{es:List Expr}{kk:Nat}{tp:Pos}{e it a:Addr}(hne:e≠it):
  jg P w K (.Tuple es kk tp) (zQ K a) [e,it] e (λi h=>(∃old,IsEnum h e it ((i:Nat):Int) old)/\h.IsListIter it a i) where
 mem:=by simp
 obj:=λi h q0 q hq=>by
  obtain ⟨⟨old,he⟩,⟨o1,e1,_,d1⟩⟩:=q0;simp only [Mn,MR,M9] at hq;rcases hq with rfl|rfl
  .exact ⟨_,he,λv z=>nomatch z⟩
  .exact ⟨_,e1,λv z=>by rw [d1] at z;cases z⟩
 keep:=λi h h' q1 k=>by obtain ⟨⟨old,he⟩,⟨o1,e1,r1⟩⟩:=q1;exact ⟨⟨old,k _ Z8 _ he⟩,⟨o1,k _ Z8 _ e1,r1⟩⟩
 item:=by
  intro X hP hw hK hc i pins s σ H E I hf st hg;subst hP hw hK;obtain ⟨xs,x,hq,hx⟩:=hg;obtain ⟨its,rv,p,hz⟩:=I.list hq;obtain ⟨u,hu,ru⟩:=rv.get hx;obtain ⟨⟨old,he⟩,hit⟩:=st;refine wpAny_pyNext_enum_item he hit p.isList (x:=u) (by simpa using hu) hne λh' heo hit' hT hzz kp=>?_;refine ⟨_,rfl,?_⟩;refine Qc (s:={s with heap:=h',toks:=s.toks+1}) heo λh2' he2 sb=>?_;have hTe:s.heap.objs.size≠e:=Ow<|MA he
  have hT2:h2'.get? s.heap.objs.size=some {cls:=.type "tuple",data:=.seq #[.int i s.toks,u]}:=(sb.2 _ hTe).trans hT;have kp2:∀c o,c∉[e,it]->s.heap.get? c=some o->h2'.get? c=some o:=λc o hc e'=>(sb.2 c λq=>hc (by simp [q])).trans<|kp c o (λq=>hc (by simp [q])) (λq=>hc (by simp [q])) e'
  have hTn:H s.heap.objs.size=none:=I.aA.fresh<|Mh _
  refine ⟨.ref s.heap.objs.size,upd H s.heap.objs.size (.tup [.int i,x]),I.xm (t':=s.toks+1) hf (Mh _) kp2 ⟨by show 2<=sizeLine;decide,[.int i s.toks,u],.cons ⟨_,rfl⟩ (.cons ru .nil),⟨_,hT2,rfl,_,rfl⟩⟩,rfl,⟨_,x,hTn,rfl,rfl,λys hy=>by rw [I.ub hy hq];exact hx⟩,⟨⟨u,he2⟩,hit'.extBut sb.extBut<|M6 hne⟩,λb' hb=>?_⟩;obtain ⟨ob,e',_⟩:∃ob,s.heap.get? b'=some ob/\True:=by
   simp only [Mn,MR,M9] at hb;obtain ⟨o1,e1,_⟩:=hit;rcases hb with rfl|rfl
   .exact ⟨_,he,trivial⟩
   .exact ⟨_,e1,trivial⟩
  rw [aD<|MM<|MA e'];exact (hf b' hb).1
 done:=by
  intro X hP hw hK hc i pins s σ H E I hf st hg;subst hP hw hK;obtain ⟨xs,hq,hx⟩:=hg;obtain ⟨its,rv,p,hz⟩:=I.list hq;obtain ⟨⟨old,he⟩,hit⟩:=st;have hl:=rv.length;exact wpAny_pyNext_enum_end (I.ok.hd hc) he hit p.isList (by simp;omega) λh' eb=>⟨rfl,I.wq (t':=s.toks) hf λc o hcc e=>eb c o (λq=>hcc (by simp [q])) e⟩
 self:=λA i s Q E st h=>let ⟨⟨_,he⟩,_⟩:=st;Po he h
def xL (K:PySem.W.Frag)(a:Addr)(n:Nat):It:=
 ⟨λi H=>i<n/\∃xs x,aN K H a xs/\xs.length=n/\xs[n-1-i]?=some x,λi H x H'=>H'=H/\∀xs,aN K H a xs->xs[n-1-i]?=some x,λi H=>n<=i⟩
def Hi {P:Program}{w:World}{K:W.Frag}{tg:Expr}(a it:Addr)(n:Nat):jg P w K tg (xL K a n) [it] it (λi h=>i<=n/\h.IsRevIter it a ((n:Int)-1-(i:Int))) where
 mem:=by simp
 obj:=λi h st b hb=>by
  have e:b=it:=by simpa using hb
  subst e;obtain ⟨_,o,e,c,d⟩:=st;exact ⟨o,e,λv z=>by rw [d] at z;cases z⟩
 keep:=λi h h' st k=>⟨st.1,st.2.at λo e=>k it Z8 o e⟩
 item:=by
  intro X hP hw hK hc i pins s σ H E I hf st hg;subst hP hw hK;obtain ⟨hin,xs,x,hq,hn,hx⟩:=hg;obtain ⟨its,rv,p,hz⟩:=I.list hq;obtain ⟨u,hu,ru⟩:=rv.get hx;obtain ⟨f0,f1,f2,f3,f4,f5⟩:=hf it Z8;have e1:(n:Int)-1-(i:Int)=((n-1-i:Nat):Int):=by omega
  have hit:=st.2;rw [e1] at hit;refine wpAny_pyNext_rev_item hit p.isList (x:=u) (by simpa using hu) λh' st' sb=>?_;have I1:Inv X pins σ H {s with heap:=h'}:=I.turned (t':=s.toks) (λb o hb e=>(sb.2 b hb).trans e) f0 f1 f3 f4 f5;have e2:((n-1-i:Nat):Int)-1=(n:Int)-1-((i+1:Nat):Int):=by omega
  rw [e2] at st';obtain ⟨o,e,c,d⟩:=id st';exact ⟨u,rfl,qu (s:={s with heap:=h'}) e c d Z1 ⟨x,H,I1,ru,⟨rfl,λys hy=>by rw [I.ub hy hq];exact hx⟩,⟨hin,st'⟩,λb hb=>(hf b hb).1⟩⟩
 done:=by
  intro X hP hw hK hc i pins s σ H E I hf st hg;subst hP hw hK;obtain ⟨f0,f1,f2,f3,f4,f5⟩:=hf it Z8;have hg:n<=i:=hg;have e:(n:Int)-1-(i:Int)=-1:=by have:=st.1;omega
  have hit:=st.2;rw [e] at hit;exact wpAny_pyNext_rev_end (I.ok.hd hc) hit λh' eb=>⟨rfl,I.turned (t':=s.toks) (λb o hb e=>eb b o hb e) f0 f1 f3 f4 f5⟩
 self:=λ_ _ _ _ _ st h=>wpAny_pyIter_revIter st.2 h
section
variable {X:Cx}
def C3 (K:PySem.W.Frag)(t:TA):TI:=λσ H R=>t σ H λvs H1=>∃a,vs=[.ref a]/\(∃xs,aN K H1 a xs)/\R (zQ K a) H1
def BD{a:Expr}(w:X.mg "enumerate"=none)(x:PA X [a] t)(y:Gl X "enumerate":=by rfl)(z:starEach [a] X.env=[(false,eval a X.env)]:=by rfl)(f:starEach [] X.env=[]:=by rfl):
  PI X (.Tuple r u v) (.Call (.Name "enumerate" p) [a] [] e) (C3 X.K t):=by
 intro b s k H R I h;refine Call_<|jA I y w P6<|No (aP (x e b s k H _ I h) λO d ⟨Q,l,i,A,B⟩=>?_) (by rw [z,f]) (by rw [f];rfl)
 obtain ⟨a,rfl,⟨T,C⟩,q⟩:=B;obtain ⟨U,rfl,j⟩:=be.one A;cases j;obtain ⟨E,Y,G,J⟩:=i.list C;refine call_enumerate_list G.isList λm n L hz M=>?_;have N:Inv X b k l {d with heap:=m}:=i.kept (t':=d.toks) M;refine Po (s:={d with heap:=m}) n ?_;refine ⟨d.heap.objs.size+1,[d.heap.objs.size+1,d.heap.objs.size],_,_,l,rfl,N,Lx<|Nat.succ_ne_self _,⟨⟨_,n⟩,L⟩,λc o=>?_,q⟩;have g:d.heap.objs.size<=c:=by
  simp only [Mn,MR,M9] at o;rcases o with rfl|rfl
  .exact Nb _ _
  .exact Mh _
 exact i.ig g<|i.aA.fresh g
def xQ (K:PySem.W.Frag)(t:TA):TI:=λσ H R=>t σ H λvs H1=>∃a xs,vs=[.ref a]/\aN K H1 a xs/\R (xL K a xs.length) H1
def Iy{a:Expr}(v:X.mg "reversed"=none)(w:PA X [a] t)(x:Gl X "reversed":=by rfl)(y:starEach [a] X.env=[(false,eval a X.env)]:=by rfl)(j:starEach [] X.env=[]:=by rfl):
  PI X u (.Call (.Name "reversed" p) [a] [] i) (xQ X.K t):=by
 intro f s n H R I h;refine Call_<|jA I x v PyProof.Rows.boot_reversed<|No (aP (w i f s n H _ I h) λM c ⟨N,r,k,z,A⟩=>?_) (by rw [y,j]) (by rw [j];rfl)
 obtain ⟨a,l,rfl,B,q⟩:=A;obtain ⟨O,rfl,m⟩:=be.one z;cases m;obtain ⟨d,C,E,G⟩:=k.list B;have Q:=C.length;refine call_reversed_list E.isList ?_;have J:Inv X f n r {c with heap:=c.heap.push (revObj a<|(d.toArray.size:Int)-1)}:=k.kept (t':=c.toks) λb o e=>Mf _ e;have g:(c.heap.push<|revObj a<|(d.toArray.size:Int)-1).IsRevIter c.heap.objs.size a ((l.length:Int)-1-((0:Nat):Int)):=by
  refine ⟨_,Mz _ rfl,rfl,?_⟩;have:((d.toArray.size:Nat):Int)-1=(l.length:Int)-1-((0:Nat):Int):=by simp;omega
  rw [<-this];rfl
 refine wpAny_pyIter_revIter (s:={c with heap:=c.heap.push (revObj a<|(d.toArray.size:Int)-1)}) g ?_;refine ⟨c.heap.objs.size,[c.heap.objs.size],_,_,r,rfl,J,Hi a _ l.length,⟨MI _,g⟩,λb L=>?_,q⟩;have e:b=c.heap.objs.size:=by simpa using L
 subst e;exact k.ig (Mh _)<|k.aA.fresh<|Mh _
end
end L2
namespace FL
open PySem L2
def JV{K:W.Frag}(h:dJ t G n [.lst e]):Walk (xQ K t) G n e.reverse:=λM H s l R k=>h M H s l _ λO w x y=>by
 obtain ⟨Q,rfl,z⟩:=iF y;obtain ⟨a,c,rfl,o,f⟩:=z.dX;refine ⟨a,c,rfl,aN.of (aw o).2,k _ w x (λj d A B g i C=>?_) λA B i=>?_⟩
 .have p:=(aw<|i _ _ o).2;have b:=f.length;have m:j<e.length:=by have:=(Ma.mp g).1;simpa using this
  rw [List.getElem?_reverse m,<-b] at g;obtain ⟨u,q,E⟩:=f.get g;refine ⟨⟨by omega,c,u,aN.of p,rfl,q⟩,λv I J=>?_⟩;obtain ⟨L,N⟩:=J;have r:=N c<|aN.of p
  rw [q] at r;cases r;subst L;exact ⟨ab.refl _,E.mono i⟩
 .show c.length<=_;rw [f.length,P1];exact Mh _
end FL
namespace PySem
section
variable {prog:Program}{w:World}{K:Type} [DecidableEq K] {knd:HeapKind prog w K}{A:Around}{E:Value->Shared->Prop}{s:Shared}
def IF{dflt:Value}{Q:ZT}(u:knd.room A)(c:knd.is s.heap k a)(C:s.heap.DictOfH knd d h)
  (G:∀v,(atKey h k).map (·.2)=some v->Q v {s with toks:=s.toks+knd.draws k})
  (H:(atKey h k).map (·.2)=none->∀r,r.DictOfH knd d (storedH h k a dflt)->Heap.SameBut d s.heap r->Q dflt {s with heap:=r,toks:=s.toks+knd.draws k})
  (hsz:h.length<=sizeLine:=by size_fits):wpAny (model prog w) A (dictSetDefault d (.ref a) dflt) Q E s:=by
 obtain ⟨o,L,I,i,J,g,q,l,t⟩:=C;unfold dictSetDefault
 try with_reducible refine NQ ?_
 refine L9<|knd.pyHash u c ?_
 refine L9<|wpAny_dictFind_heap (s:={s with toks:=s.toks+knd.draws k}) u c i g q l t ?_ ?_
 .intro m;have n:k∉h.map (·.1):=not_mem_keys_of_get m;have b:=atKey_none_of_get m;refine L9 (Pd (L9 (wpAny_updateDictKeys (hz:=by have e:=size_of_entries q;omega) (s:={s with toks:=s.toks+knd.draws k}) i g (Mt (H (by rw [b];rfl) _ ⟨_,_,I+1,OG _ i<|Obj.isFreed_of_dict<|Obj.data_mapDictKeys g _,
   J.mapDictKeys _,Obj.data_mapDictKeys g _,?_,?_,?_⟩<|Oo ..)))))
  .rw [storedH_new b]
   simp [q,entryOfKey]
  .rw [storedH_new b]
   intro x f;rcases MB.mp f with f|f
   .exact knd.keeps (l x f) i g<|Oo ..
   .simp only [MG] at f;subst f;exact knd.keeps c i g<|Oo ..
  .rw [storedH_new b]
   rw [MK,OT];refine ⟨t,by simp,?_⟩;intro x f y z;simp only [MW,OR,MG] at z;subst z;exact λe=>n<|e▸f
 .intro j p B;refine L9<|wpAny_dictEntries (s:={s with toks:=s.toks+knd.draws k}) i g ?_
  rw [entry_at q j,B];exact L9<|Pd<|Mt<|G _ (by rw [atKey_of_get t B];rfl)
def Ad (knd:HeapKind prog w K)(d a:Addr)(i:(d==sysModules)=false)(dflt:Value):
  MeetsIn prog w (Builtin.«dict.setdefault» ⟨[.ref d,.ref a,dflt],[]⟩) (λA R s=>knd.room A.in1/\∃k b,knd.is s.heap k a/\s.heap.DictOfH knd d b/\b.length<=sizeLine/\
   (∀v,(atKey b k).map (·.2)=some v->R (.ok (.ret v)) {s with toks:=s.toks+knd.draws k})/\
   ((atKey b k).map (·.2)=none->∀c,c.DictOfH knd d (storedH b k a dflt)->Heap.SameBut d s.heap c->R (.ok (.ret dflt)) {s with heap:=c,toks:=s.toks+knd.draws k})):=
 .of_wp λA R s j=>by
  obtain ⟨l,k,b,e,h,m,n,o⟩:=j;unfold Builtin.«dict.setdefault»;refine L9 ?_;unfold Builtin.Dict.keyAndDefault;refine L9<|wpAny_notOrdered_dict h.typeIs ?_;show wpAny _ _ (pure (d,Value.ref a,some dflt)) _ _ s;refine Mt ?_;show wpAny _ _ (if (d==sysModules)=true then _ else (dictSetDefault d (.ref a) dflt>>=_)) _ _ s;rw [Mj (by rw [i];exact Mm)];exact L9<|IF (hsz:=m) l e h (λv p=>Mt ⟨v,rfl,n v p⟩) λq c f g=>Mt ⟨dflt,rfl,o q c f g⟩
end
end PySem
namespace L2
open PySem PySem.Spec PyProof.Rows
def CI (H:Hp)(a:Addr)(y z r:V)(H':Hp):Prop:=(c6 H a y (some r)/\H'=H/\∃o,H a=some o)\/(c6 H a y none/\r=z/\gi H a y z H')
section
variable {X:Cx}{pins:List (Addr×Obj)}{σ:St}{H:Hp}{s:Shared}{a:Addr}{y z v:V}{u r:Value}{A:Around}{E:Value->Shared->Prop}
def Hl{Q:ZT}(hu:A.units+1<cLine)(I:Inv X pins σ H s)(g:CI H a y z v H')(ry:RelV y u)(rz:RelV z r)(h:∀w' s',Inv X pins σ H' s'->RelV v w'->Q w' s'):
  wpAny (model X.prog X.w) A (call (.builtin "dict.setdefault") [.ref a,u,r]) Q E s:=by
 rcases g with ⟨g,rfl,ho⟩|⟨g,rfl,p⟩
 .rcases g with ⟨f,k,e,J,l⟩|⟨f,k,b,e,J,T,l⟩
  .subst J;obtain ⟨L,x,U,bE,m⟩:=ie I.aA e;obtain ⟨w',Y,M⟩:=ee.some_of (v:=v) (o:=valueAt U k) (by rw [l];exact bE.val k);refine Oy NA m.typeIs NS (NN _ _ _) (kt_meets_setdefault (dw X.prog X.w) a (kB ry) x r) ⟨U,m,by rw [<-bE.length];exact L,λv' d=>?_,λB=>by rw [Y] at B;cases B⟩;rw [Y] at d;cases d;exact h _ _ (I.tok _) M
  .subst J;cases (show u=Value.ref b from ry);obtain ⟨L,x,O,bE,m⟩:=kF I.aA e;obtain ⟨w',Y,M⟩:=ee.some_of (v:=v) (o:=(atKey O k).map (·.2)) (by rw [l];exact bE.val k);refine Oy NA m.typeIs NS (NN _ _ _) (Ad (tupleKind<|dw X.prog X.w) a b x r) ⟨NM hu,k,O,kW I.aA T,m,by rw [<-N3 bE];exact L,λv' d=>?_,λB=>by rw [Y] at B;cases B⟩;rw [Y] at d;cases d;exact h _ _ (I.tok _) M
 .rcases p with ⟨f,k,e,J,l,eH⟩|⟨f,k,b,e,J,T,l,eH⟩
  .subst J eH;obtain ⟨L,x,U,bE,m⟩:=zj I.aA e;have hg:br f k=none:=by
    rcases g with ⟨n,C,i,j,l'⟩|⟨n,C,b',i,j,N,l'⟩
    .have e1:kV k=kV C:=j;have:k=C:=by
      cases k<;>cases C<;>simp [kV] at e1<;>rw [e1]
     subst this;rcases i with i|i
     .rw [e] at i;cases i;exact l'.symm
     .rw [e] at i;simp at i
    .cases k<;>cases j
   have B:valueAt U k=none:=ee.none_of (by rw [<-hg];exact bE.val k);have hl:(cf f k v).length<=sizeLine:=by have:=mT f k v;omega
   refine Oy NA m.typeIs NS (NN _ _ _) (kt_meets_setdefault (dw X.prog X.w) a (kB ry) x r) ⟨U,m,by rw [<-bE.length];exact L,λv' d=>(by rw [B] at d;cases d),λ_ h' G hs=>h _ _ ?_ rz⟩;have he:∃q,h'.get? a=some q:=let ⟨q,_,_,hq,_⟩:=G;⟨q,hq⟩;exact qJ I (by rw [e];exact True.intro) hs he<|rD hl x (bE.put k rz) G
  .subst J eH;cases (show u=Value.ref b from ry);obtain ⟨L,x,O,bE,m⟩:=CG I.aA e;have hg:br f k=none:=by
    rcases g with ⟨n,C,i,j,l'⟩|⟨n,C,b',i,j,N,l'⟩
    .cases C<;>cases j
    .cases j;rw [T] at N;have e1:k.map kV=C.map kV:=by injection N with e2;injection e2
     have ac:∀(p q:List aM),p.map kV=q.map kV->p=q:=by
      intro p;induction p with
      |nil=>intro q h;cases q<;>first|rfl|cases h
      |cons c t ih=>
       intro q h;cases q with
       |nil=>cases h
       |cons c' t'=>
        obtain ⟨h1,h2⟩:=Oj h;have:c=c':=by cases c<;>cases c'<;>simp [kV] at h1<;>rw [h1]
        rw [this,ih t' h2]
     have:k=C:=ac _ _ e1;subst this;rcases i with i|i
     .rw [e] at i;cases i;exact l'.symm
     .rw [e] at i;simp at i
   have B:(atKey O k).map (·.2)=none:=ee.none_of (by rw [<-hg];exact bE.val k);have hz:O.length<=sizeLine:=by rw [<-N3 bE];exact L
   have hl:(cf f k v).length<=sizeLine:=by have:=mT f k v;omega
   refine Oy NA m.typeIs NS (NN _ _ _) (Ad (tupleKind<|dw X.prog X.w) a b x r) ⟨NM hu,k,O,kW I.aA T,m,hz,λv' d=>(by rw [B] at d;cases d),λ_ h' G hs=>h _ _ ?_ rz⟩;obtain ⟨q,es,ep,hq,h2,h3,h4,_,h5⟩:=G;refine qJ I (by rw [e];exact True.intro) hs ⟨q,hq⟩ ⟨hl,x,_,(bE.put k T rz).keeps λc ys ec=>?_,q,es,ep,hq,h2,h3,h4,h5⟩;rw [aD<|zZ ec e λz=>nomatch z];exact ec
end
def uN (td ty tx:TE):TE:=λσ H Q=>td σ H λx H1=>∃a,x=.ref a/\rK H1 a/\ty σ H1 λy H2=>tx σ H2 λz H3=>∃r H4,CI H3 a y z r H4/\Q r H4
def CH{X:Cx}(t:X.A.units+1<cLine)(v:PE X o l)(w:PE X e n)(B:PE X f p)(m:M2 X o "setdefault" c e f i):PE X (.Call (.Attribute o "setdefault" c) [e,f] [] i) (uN l n p):=by
 intro b s j H Q I h;refine wpAny_Call_method m.base m.dI m.line Ph NA PySem.F.type_dict_setdefault<|aP (v b s j H _ I h) λu C E=>?_
 obtain ⟨x,G,q,J,a,L,d,M⟩:=E;subst L;obtain rfl:u=Value.ref a:=J;obtain ⟨N,O,_⟩:=u0 q d;refine ⟨N,O,?_⟩;rw [m.trees];refine NZ rfl (PJ (Ox (aP (w b C j G _ q M) λiv T ⟨y,U,Y,ry,q2⟩=>
  Ox (aP (B b T j U _ Y q2) λfv s3 ⟨z,H3,I3,rz,r,H4,g,q3⟩=>Ql ?_))))
 exact Hl t I3 g ry rz λw' s4 I4 k=>⟨r,H4,I4,k,q3⟩
end L2
namespace FL
open PySem L2
def bv (R:List D->D->Prop):Sp:=λvs H Q _=>∃M ds d,au M H/\aE (but H M) vs ds/\R ds d/\∀v H',ab H H'->al (but H' M) v d->Q v H'
def bM{R:ZZ->D->Prop}(c:R ds d)(h:dJ t G a ds):ae (iY (bv R) [] E t) G a d:=
 λM H s l Q k=>h M H s l _ λj m b e=>⟨M,ds,d,l.same b,by rw [MP];exact e,c,λv f g i=>k v f (b.trans g) i⟩
def d7{R:ZZ->D->Prop}(c:∀a d,R a d->a.length=n):∀b H Q E,bv R b H Q E->b.length=n:=λb H Q E f=>by obtain ⟨M,a,d,l,r,e,k⟩:=f;rw [r.length];exact c a d e
def gO:de (h::r) 0=some h:=lK Z1 rfl
def gq (d:D):Bool:=yM d&& !yl d
def B4 (d:D):Bool:=sF d||gq d
def tZ:List D->D->Prop:=λds d=>∃l k,ds=[.lst l,.int k]/\0<=k/\d=ma l k
def nD:List D->D->Prop:=λds d=>∃x,ds=[x]/\d=.bl (gq x)
def nu (ns:List Int):List Int:=(List.range ns.length).map λ(k:Nat)=>(ns.getD k 0+7919*(k:Int))*48271%1000003
def xO:List D->D->Prop:=λds d=>∃ns:List Int,ds=[.lst (ns.map D.int)]/\ns.length<=63/\d=.lst ((nu ns).map D.int)
def Hn (a:List Int):(nu a).length=a.length:=by simp [nu]
def mz (a:List Int)(k:Nat):tZ [.lst (a.map D.int),.int (k:Int)] (.int (a.getD k 0)):=⟨_,_,rfl,by omega,(Gj a k).symm⟩
def Hj {d:D}(h:d.sc=true):B4 d=true:=by
 cases d with
 |int i=>rfl
 |str i=>rfl
 |_=>exact absurd h (by simp [D.sc])
def fI{l:ZZ}(x:Int)(c:0<n)(e:l.length=n):∃d,de l (x%(n:Int))=some d/\d∈l/\d=l.getD (x%(n:Int)).toNat .av:=by
 have b:=QG x (show (n:Int)≠0 by omega);have f:=Int.emod_lt_of_pos x (show (0:Int)<n by omega);have a:(x%(n:Int)).toNat<l.length:=by omega
 refine ⟨l[(x%(n:Int)).toNat],lK b<|Mb a,NJ a,?_⟩;simp [List.getD,Mb a]
section
variable {σ:St}{δ:Dn}{d:D}{M:List Addr}{H:Hp}{ta te:TE}{t:TA}{E:Ends}{ds:List D}{K:PySem.W.Frag}
def gj(l:au M H)(c:ax (but H M) σ δ)(h:ae ta (but H M) σ d)(k:∀a b,(∀j:Nat,j≠i->a[j]?=σ[j]?)->ab H b->au M b->ax (but b M) a (δ.set i (some d))->E.nx a b):eF ta (cx i) E σ H:=
 h.at l λv b s r=>k _ b (λj e=>Me<|M6 e) s (l.same s)<|(c.same s).set i r
def nZ(l:au M H)(r:ax (but H M) σ δ)(B:i<δ.length)(h:dJ t (but H M) σ ds)(x:ds.length<=sizeLine)
  (k:∀p g c f,(∀j:Nat,j≠i->c[j]?=σ[j]?)->c[i]?=some (some (.ref p))->p∉M->f p=some (.lst g)->aE (but f (p::M)) g ds->au (p::M) f->(∀b o,H b=some o->b≠p/\f b=some o)->ax (but f (p::M)) c (δ.set i none)->E.nx c f):eF (kn t) (cx i) E σ H:=
 h M H (ab.refl _) l _ λg y m s=>⟨by rw [s.length];exact x,λp n=>by
  have C:=r.len;refine k p g _ _ (λj z=>Me<|M6 z) (Mr Z4) ((l.same m).fresh n) aO (tJ n s) ((l.same m).upd.cons aO) (λb o e=>?_) ?_
  .have u:=m b o e;have w:b≠p:=dm u n;exact ⟨w,by rw [aD w];exact u⟩
  .have A:ax (but (upd y p (.lst g)) (p::M)) σ δ:=⟨r.len,λj d q=>let ⟨v,a,b⟩:=(r.same m).get j d q;⟨v,a,rT n b⟩⟩
   exact A.off i _⟩
def Jf{k:Nat}(l:au M H)(m:ax (but H M) σ δ)(z:i<δ.length)(e:σ[k]?=some (some (.ref a)))(u:H a=some (.lst f))(r:aE (but H M) f ds)
  (q:∀p c g,(∀j:Nat,j≠i->c[j]?=σ[j]?)->c[i]?=some (some (.ref p))->p∉M->g p=some (.lst f)->aE (but g (p::M)) f ds->au (p::M) g->(∀b o,H b=some o->b≠p/\g b=some o)->ax (but g (p::M)) c (δ.set i none)->E.nx c g):
  eF (cM (λw H Q=>∃p n,w=[.ref p]/\(aN K H p n\/bz K H p n)/\∀l,H l=none->Q (.ref l) (upd H l (.lst n))) (bu (aU k) bL)) (cx i) E σ H:=
 ⟨.ref a,e,a,f,rfl,.inl<|aN.of u,λp h=>by
  have A:=m.len;refine q p _ _ (λj x=>Me<|M6 x) (Mr Z4) (l.fresh h) aO (tJ h r) (l.upd.cons aO) (λb o e=>?_) ?_
  .have s:b≠p:=dm e h;exact ⟨s,by rw [aD s];exact e⟩
  .have y:ax (but (upd H p (.lst f)) (p::M)) σ δ:=⟨m.len,λj d q=>let ⟨v,a,b⟩:=m.get j d q;⟨v,a,rT h b⟩⟩
   exact y.off i _⟩
def qZ{i:Nat}(l:au M H)(m:ax (but H M) σ δ)(g:a∈M)(e:σ[i]?=some (some (.ref a)))(n:H a=some (.lst f))(r:aE (but H M) f ds)(p:ds.length<sizeLine)(h:ae te (but H M) σ d)
  (k:∀v c,(∀b o,b≠a->H b=some o->c b=some o)->au M c->c a=some (.lst (f++[v]))->aE (but c M) (f++[v]) (ds++[d])->ax (but c M) σ δ->E.nx σ c):ki (nq K "list" nJ (aU i) (bu te bL)) E σ H:=
 HY l e n (by rw [r.length];exact p) h λv c s u=>by
  have j:but (upd c a (.lst<|f++[v])) M=but c M:=dN g;refine k v _ (λb o w q=>by rw [aD w];exact s b o q) (l.same s).upd aO ?_ ?_
  .rw [j];exact (r.mono<|s.but M).snoc u
  .rw [j];exact m.same s
def mJ{H c:Hp}{M:ZX}(g:a∈M)(k:∀b o,b≠a->H b=some o->c b=some o):ab (but H M) (but c M):=λb o e=>by
 obtain ⟨f,h⟩:=aw e;rw [bn f];exact k b o (λz=>f (by rw [z];exact g)) h
def mo{Q:St->Hp->Prop}(g:al (but H M) x (.tup [e,f]))(k:∀c b,al (but H M) c e->al (but H M) b f->Q ((σ.set i (some c)).set j (some b)) H):lU K 2 (iV (cx i) (iV (cx j) oh)) x σ H Q:=by
 obtain ⟨a,o,rfl,h,l⟩:=g.fb;obtain ⟨c,b,rfl,m,n⟩:=qa l;exact ⟨a,_,rfl,bz.of (aw h).2,rfl,c,[b],rfl,b,[],rfl,rfl,k c b m n⟩
end
def D.toV:D->V
 |.int i=>.int i
 |.str x=>.str x
 |.bl b=>.bl b
 |_=>.av
def D.key:D->aM
 |.int i=>.inl i
 |.str x=>.inr x
 |_=>.inl 0
def yk{d:D}(h:d.sc=true):al H d.toV d:=by
 cases d with
 |int i=>exact .int i
 |str x=>exact .str x
 |_=>exact absurd h (by simp [D.sc])
def fO{d:D}(h:d.sc=true)(r:al H v d):v=d.toV/\v=kV d.key:=by
 cases r with
 |int i=>exact ⟨rfl,rfl⟩
 |str x=>exact ⟨rfl,rfl⟩
 |_=>exact absurd h (by simp [D.sc])
def wQ {a b:D}(d:a.sc=true)(c:b.sc=true):a.key=b.key↔a=b:=by
 cases a with
 |int i=>cases b<;>first|(exfalso;simp [D.sc] at c;done)|simp [D.key]
 |str i=>cases b<;>first|(exfalso;simp [D.sc] at c;done)|simp [D.key]
 |_=>exact absurd d (by simp [D.sc])
theorem xu (j:aM):∀(b a:List (aM×V)),br (b9 a b) j=b.foldl (λo p=>if j=p.1 then some p.2 else o) (br a j)
 |[],a=>rfl
 |p::r,a=>by
  show br (b9 (cf a p.1 p.2) r) j=_;rw [xu j r,xf];rfl
abbrev aR:=List (Str×D)
def pairD (ps:aR):List D:=ps.map λp=>.tup [.str p.1,p.2]
def bI (ps:aR):List (aM×V):=ps.map λp=>(Sum.inr p.1,p.2.toV)
def cj (ps:aR)(x:D):D:=ps.foldl (λacc p=>if D.str p.1=x then p.2 else acc) x
theorem uD{K:W.Frag}:∀{b:aR} {c:List V},(∀p∈b,p.2.sc=true)->aE (but H M) c (pairD b)->Pairs K H c (bI b)
 |[],_,_,.nil=>.nil
 |p::r,_,d,.cons (v:=v) h t=>by
  obtain ⟨a,m,rfl,e,f⟩:=h.fb;obtain ⟨n,o,rfl,g,i⟩:=qa f;refine .cons ⟨a,rfl,?_⟩<|uD (λq j=>d q<|L8 _ j) t;have k:=(fO (d p Mc) i).1;have l:=g.sD;subst l k;exact bz.of (aw e).2
theorem xo (x:D)(f:x.sc=true):∀(d:aR) (o:Option V) (c:D),(∀p∈d,p.2.sc=true)->o.getD x.toV=c.toV->c.sc=true->
  (((bI d).foldl (λo p=>if x.key=p.1 then some p.2 else o) o).getD x.toV=(d.foldl (λc p=>if D.str p.1=x then p.2 else c) c).toV/\(d.foldl (λc p=>if D.str p.1=x then p.2 else c) c).sc=true)
 |[],o,c,_,h,g=>⟨h,g⟩
 |p::r,o,c,j,h,g=>by
  have k:∀q∈r,q.2.sc=true:=λq l=>j q<|L8 _ l
  show ((bI r).foldl _<|if x.key=Sum.inr p.1 then some p.2.toV else o).getD x.toV=(r.foldl _<|if D.str p.1=x then p.2 else c).toV/\_;by_cases e:D.str p.1=x
  .have i:x.key=Sum.inr p.1:=by rw [<-e];rfl
   rw [Mp e,Mp i];have:=xo x f r (some p.2.toV) p.2 k rfl<|j p Mc
   refine ⟨this.1,?_⟩;show (r.foldl _<|if D.str p.1=x then p.2 else c).sc=true;rw [Mp e];exact this.2
  .have i:¬x.key=Sum.inr p.1:=λz=>e ((wQ (a:=D.str p.1) (b:=x) rfl f).mp z.symm);rw [Mj e,Mj i];have:=xo x f r o c k h g;refine ⟨this.1,?_⟩;show (r.foldl _<|if D.str p.1=x then p.2 else c).sc=true;rw [Mj e];exact this.2
def kM {ps:aR}{x:D}(a:x.sc=true)(b:∀p∈ps,p.2.sc=true):(br (b9 [] (bI ps)) x.key).getD x.toV=(cj ps x).toV/\(cj ps x).sc=true:=by
 rw [xu];exact xo x a ps none x b rfl a
def Bo{G:Hp}{i:Nat}{x:D}(e:f[i]?=some (some (.ref a)))(q:G a=some (.dK (b9 [] (bI b))))(c:x.sc=true)(m:∀p∈b,p.2.sc=true)(h:ae (aU j) G f x):ae (pZ (aU i) (aU j) (aU j)) G f (cj b x):=
 λM H s l Q k=>by
  have n:=(aw<|s _ _ q).2;refine ⟨.ref a,e,a,rfl,.inl ⟨_,.inl n⟩,h M H s l _ λy r d t=>h M r (s.trans<|d.but M) (l.same d) _ λz u o v=>?_⟩;obtain ⟨B,w⟩:=fO c t;obtain ⟨A,_⟩:=fO c v;have g:=o _ _<|d _ _ n
  refine ⟨br (b9 []<|bI b) x.key,?_,?_⟩
  .rw [w];exact c6.k g
  .rw [A,(kM c m).1]
   exact k _ u (d.trans o)<|yk (kM c m).2
end FL
namespace FL
open PySem L2
def D.name:D->Str
 |.str s=>s
 |_=>Str.empty
def aB:D->Bool
 |.str s=>Txt.isupper ⟨#[s.cps.getD 0 0]⟩
 |_=>false
def ff (F:aR)(x:D):Bool:=F.any λp=>decide (D.str p.1=x)
def fW (F:aR)(x y:D):Option aR:=if (aB x&& !ff F x)=true then some (F++[(x.name,y)]) else if cj F x=y then some F else none
def f7:aR->List (D×D)->Option aR
 |F,[]=>some F
 |F,p::r=>(fW F p.1 p.2).bind λF'=>f7 F' r
def Lu:ff F (.str s)=true↔s∈F.map (·.1):=by
 unfold ff;rw [Pj];constructor
 .rintro ⟨p,a,e⟩
  have:=MC e;injection this with this
  exact Mx.mpr ⟨p,a,this⟩
 .intro h;obtain ⟨p,a,e⟩:=Mx.mp h;exact ⟨p,a,My (by rw [e])⟩
def C1 (P:aR):Prop:=∀p∈P,∀q∈P,p.1=q.1->p.2=q.2
def JJ(f:C1 F)(c:p∈F):cj F (.str p.1)=p.2:=by
 have b:∀(Q:aR) (a:D),(∀q∈Q,q∈F)->(a=p.2\/p∈Q)->Q.foldl (λa q=>if D.str q.1=D.str p.1 then q.2 else a) a=p.2:=by
  intro Q;induction Q with
  |nil=>intro a _ h;rcases h with h|h;exact h;cases h
  |cons q r g=>
   intro a d h;show r.foldl _ (if D.str q.1=D.str p.1 then q.2 else a)=p.2;refine g _ (λt i=>d t<|L8 _ i) ?_;by_cases e:D.str q.1=D.str p.1
   .rw [Mp e]
    injection e with e;exact .inl<|f q (d q Mc) p c e
   .rw [Mj e]
    rcases h with h|h
    .exact .inl h
    .rcases Mn.mp h with rfl|h
     .exact absurd rfl e
     .exact .inr h
 exact b F _ (λq h=>h) (.inr c)
def kK(h:ff F x=false):cj F x=x:=by
 have c:∀(Q:aR) (a:D),ff Q x=false->Q.foldl (λa q=>if D.str q.1=x then q.2 else a) a=a:=by
  intro Q;induction Q with
  |nil=>intro a _;rfl
  |cons q r d=>
   intro a e;have b:(decide (D.str q.1=x)||ff r x)=false:=e;rw [ON] at b;show r.foldl _ (if D.str q.1=x then q.2 else a)=a;rw [Mj<|Ni b.1];exact d a b.2
 exact c F x h
end FL
namespace FL
open PySem L2
section
variable {X:Cx}{a:Expr}{ta:TE}{apos cpos:Pos}
def va:V->List V->Hp->VK->Prop:=λx xs H Q=>∃z,x=.str z/\xs=[]/\Q (.bl (Txt.isupper z)) H
def Fy:uA X "str.isupper" va:=by
 intro b s e H x f v g Q I c d h;obtain ⟨z,rfl,rfl,q⟩:=h;obtain ⟨t,rfl⟩:=c;cases d;exact SC.isupper ⟨.bl _,H,I,rfl,q⟩
def La (h:PE X a ta)(b:attributeBase a "isupper" X.env (eval a X.env)=eval a X.env:=by rfl)(c:(apos.endLine==cpos.line)=true:=by rfl):PE X (.Call (.Attribute a "isupper" apos) [] [] cpos) (xk X.K "str" va ta):=
 z6 PySem.F.plainAttrs_str PySem.F.slot_str_isupper PySem.F.type_str_isupper Fy h b c
end
section
variable {G:Hp}{σ:St}{ta tb te:TE}{d:D}{K:PySem.W.Frag}
def EG(h:ae ta G σ (.str x)):ae (xk K "str" va ta) G σ (.bl (Txt.isupper x)):=
 λM H s l Q k=>h M H s l _ λv a b c=>by
  rw [c.sD];exact ⟨rfl,x,rfl,rfl,k _ a b (.bl _)⟩
def EL{x:Str}(a:x.length<=sizeLine)(b:de x.cps.toList i=some c)(e:ae ta G σ (.str x))(f:ae tb G σ (.int i)):ae (bJ (d6 K) ta tb) G σ (.str ⟨#[c]⟩):=
 jY (λM H v y l g h Q k=>.inr (.inr ⟨x,i,c,g.sD,h.eM,a,b,k _ H (ab.refl _) (.str _)⟩)) e f
def IE{d:D}(r:al H v d):decide (v=.av)=decide (d=.av):=by cases r<;>simp
end
def TV (tt:TT)(σ:St)(H:Hp)(b:Bool):Prop:=∀H1,ab H H1->∀Q:Bool->Hp->Prop,(∀H',ab H1 H'->Q b H')->tt σ H1 Q
section
variable {σ:St}{δ:Dn}{M:List Addr}{H:Hp}{tt tu:TT}{ta ty te:TE}{E:Ends}{b c:Bool}{d:D}{K:PySem.W.Frag}
def TV.of (l:au M H)(h:bg tt (but H M) σ b):TV tt σ H b:=λe a Q k=>h M e (a.but M) (l.same a) Q k
def Ju (h:TV tt σ H b)(g:b=true->TV tu σ H c):TV (sw tt tu) σ H (b&&c):=λi e Q k=>h i e _ λf a=>by
 cases b with
 |true=>rw [Mp rfl];exact g rfl f (e.trans a) _ λj l=>k j<|a.trans l
 |false=>rw [Mj Mm];exact k f a
def uZ {e f:TS}(l:au M H)(g:ax (but H M) σ δ)(h:TV tt σ H b)(i:b=true->∀a,ab H a->au M a->ax (but a M) σ δ->e E σ a)(j:b=false->∀a,ab H a->au M a->ax (but a M) σ δ->f E σ a):np tt e f E σ H:=
 h H (ab.refl _) _ λa s=>by
  cases b with
  |true=>rw [Mp rfl];exact i rfl a s (l.same s)<|g.same s
  |false=>rw [Mj Mm];exact j rfl a s (l.same s)<|g.same s
def Kv (F:aR)(n:Str)(y:D):b9 [] (bI (F++[(n,y)]))=cf (b9 [] (bI F)) (Sum.inr n) y.toV:=by
 simp [b9,bI,Nx]
def Lb{x:D}(h:x.sc=true):(br (b9 [] (bI F)) x.key).isSome=ff F x:=by
 rw [xu];have f:∀(Q:aR) (o:Option V),((bI Q).foldl (λo p=>if x.key=p.1 then some p.2 else o) o).isSome=(o.isSome||ff Q x):=by
  intro Q;induction Q with
  |nil=>intro o;simp [bI,ff]
  |cons p r i=>
   intro o;show ((bI r).foldl _<|if x.key=Sum.inr p.1 then some p.2.toV else o).isSome=_;rw [i];show _=(o.isSome||(decide (D.str p.1=x)||ff r x))
   by_cases e:D.str p.1=x
   .have g:x.key=Sum.inr p.1:=by rw [<-e];rfl
    rw [Mp g,My e];simp
   .have g:¬x.key=Sum.inr p.1:=λz=>e ((wQ (a:=D.str p.1) (b:=x) rfl h).mp z.symm);rw [Mj g,MH e];simp
 have:=f F none;simpa [br] using this
def GR{i:Nat}{x:D}(e:σ[i]?=some (some (.ref p)))(j:H p=some (.dK (b9 [] (bI F))))(f:x.sc=true)(l:au M H)(h:ae ty (but H M) σ x):TV (tB (nP ty (aU i))) σ H (!ff F x):=
 λm a Q k=>h M m (a.but M) (l.same a) _ λy n g o=>⟨.ref p,e,p,br (b9 []<|bI F) x.key,rfl,by rw [(fO f o).2];exact c6.k<|g _ _<|a _ _ j,_,rfl,by rw [Lb f];exact k n g⟩
def Fi{i:Nat}{x y:D}(e:σ[i]?=some (some (.ref p)))(w:H p=some (.dK (b9 [] (bI F))))(o:x.sc=true)(A:y.sc=true)(s:∀q∈F,q.2.sc=true)(l:au M H)(h:ae (aU j) (but H M) σ x)(B:ae (aU m) (but H M) σ y):
  TV (oO (bJ (λx y H Q=>m5 x y H Q\/mq x y H Q) (pZ (aU i) (aU j) (aU j)) (aU m))) σ H (!decide (cj F x=y)):=
 λC a Q k=>by
  have g:=a _ _ w;refine ⟨.ref p,e,p,rfl,.inl ⟨_,.inl g⟩,h M C (a.but M) (l.same a) _ λv G f I=>h M G ((a.trans f).but M) (l.same<|a.trans f) _ λz J r L=>?_⟩;obtain ⟨e1,N⟩:=fO o I;obtain ⟨O,_⟩:=fO o L;refine ⟨br (b9 []<|bI F) x.key,by rw [N];exact c6.k<|r _ _<|f _ _ g,?_⟩;rw [O,(kM o s).1];refine B M J ((a.trans<|f.trans r).but M) (l.same<|a.trans<|f.trans r) _ λu T U Y=>?_;have t:=(kM (ps:=F) o s).2;have n:=eO t A;exact .inl ⟨cj F x,y,⟨M,yk t,Y,n.1,n.2⟩,_,rfl,k T<|f.trans<|r.trans U⟩
end
end FL
namespace FL
open PySem L2
def mN{d:Hp}(s:ab c H)(h:c a=none)(k:∀b o,b≠a->H b=some o->d b=some o):ab c d:=λb o e=>k b o (λz=>by rw [z,h] at e;cases e)<|s b o e
def none_of{c:Hp}(s:ab a H)(k:∀b o,H b=some o->b≠p/\c b=some o):a p=none:=by
 cases e:a p with
 |none=>rfl
 |some o=>exact absurd rfl (k p o<|s p o e).1
def Gy (a:aR)(n:Str)(t:D):pairD (a++[(n,t)])=pairD a++[.tup [.str n,t]]:=by simp [pairD]
def xw{a:aR}{t:D}(h:∀p∈a,p.2.sc=true)(b:t.sc=true):∀p∈a++[(n,t)],p.2.sc=true:=λp c=>by
 rcases MB.mp c with q|q
 .exact h p q
 .rw [MG.mp q];exact b
section
variable {σ:St}{δ:Dn}{M:List Addr}{H:Hp}{tt tu:TT}{ta ty tz te:TE}{E:Ends}{b c:Bool}{d:D}{ds:List D}{K:PySem.W.Frag}
def uY(e:ax (but H M) σ δ)(f:H p=none):ax (but (upd H p o) (p::M)) (σ.set i (some (.ref p))) (δ.set i none):=by
 have g:ax (but (upd H p o) (p::M)) σ δ:=⟨e.len,λj d q=>let ⟨v,a,b⟩:=e.get j d q;⟨v,a,rT f b⟩⟩
 exact g.off i _
def LK{k:Nat}(l:au M H)(n:ax (but H M) σ δ)(I:i<δ.length)(u:δ[k]?=some (some (.lst (pairD m))))(w:∀p∈m,p.2.sc=true)
  (q:∀p f g,(∀j:Nat,j≠i->f[j]?=σ[j]?)->f[i]?=some (some (.ref p))->p∉M->g p=some (.dK (b9 [] (bI m)))->au (p::M) g->(∀b o,H b=some o->b≠p/\g b=some o)->ax (but g (p::M)) f (δ.set i none)->E.nx f g):
  eF (cM (λx H Q=>∃a s h,x=[.ref a]/\aN K H a s/\Pairs K H s h/\∀p,H p=none->Q (.ref p) (upd H p (.dK (b9 [] h)))) (bu (aU k) bL)) (cx i) E σ H:=by
 obtain ⟨v,y,z⟩:=n.get k _ u;obtain ⟨a,A,rfl,B,C⟩:=z.dX;refine ⟨.ref a,y,a,A,bI m,rfl,aN.of (aw B).2,uD w C,λp r=>?_⟩;have J:=n.len;refine q p _ _ (λj G=>Me<|M6 G) (Mr Z4) (l.fresh r) aO (l.upd.cons aO) (λb o e=>?_)<|uY n r;have t:b≠p:=dm e r;exact ⟨t,by rw [aD t];exact e⟩
def GX{k:Nat}(l:au M H)(s:ax (but H M) σ δ)(u:i<δ.length)(w:δ[k]?=some (some (.lst ds)))
  (q:∀p t m n,(∀j:Nat,j≠i->m[j]?=σ[j]?)->m[i]?=some (some (.ref p))->p∉M->n p=some (.lst t)->aE (but n (p::M)) t ds->au (p::M) n->(∀b o,H b=some o->b≠p/\n b=some o)->ax (but n (p::M)) m (δ.set i none)->E.nx m n):
  eF (cM (λx H Q=>∃p r,x=[.ref p]/\(aN K H p r\/bz K H p r)/\∀l,H l=none->Q (.ref l) (upd H l (.lst r))) (bu (aU k) bL)) (cx i) E σ H:=by
 obtain ⟨v,y,z⟩:=s.get k _ w;obtain ⟨a,A,rfl,B,C⟩:=z.dX;exact Jf l s u y (aw B).2 C λp m n a b c d e f g h=>q p A m n a b c d e f g h
def AK{i:Nat}{y:D}(l:au M H)(t:ax (but H M) σ δ)(m:p∈M)(e:σ[i]?=some (some (.ref p)))(w:H p=some (.dK (b9 [] (bI F))))(x:y.sc=true)(N:F.length<1000)(h:ae ty (but H M) σ (.str n))(z:ae tz (but H M) σ y)
  (k:∀f,(∀b o,b≠p->H b=some o->f b=some o)->au M f->f p=some (.dK (b9 [] (bI (F++[(n,y)]))))->ax (but f M) σ δ->E.nx σ f):p9 (aU i) ty tz E σ H:=by
 refine z M H (ab.refl _) l _ λv A a B=>⟨.ref p,e,h M A (a.but M) (l.same a) _ λu s j C=>?_⟩
 have r:=j _ _<|a _ _ w
 have G:=(fO (d:=.str n) rfl C).2;have I:=(fO x B).1;have g:(b9 []<|bI F).length<sizeLine:=by
  have:=wc (bI F) [];simp only [bI,Md,N6,Og] at this;exact cq (by unfold bI;omega)
 refine ⟨p,_,rfl,by rw [G];exact gi.k (k:=Sum.inr n) r g,?_⟩;have J:but (upd s p (.dK<|cf (b9 []<|bI F) (Sum.inr n) v)) M=but s M:=dN m;refine k _ (λb o L q=>by rw [aD L];exact j _ _<|a _ _ q) (l.same<|a.trans j).upd ?_ ?_
 .rw [aO,I]
  show some (HO.dK<|cf _ _ _)=some (HO.dK<|b9 []<|bI<|F++[(n,y)]);rw [Kv]
 .rw [J];exact t.same<|a.trans j
end
end FL
namespace L2
open PySem PySem.Spec PyProof.Rows
section
variable {X:Cx}
def GB(h:(dw P w).is k u=true):RelV (kV k) u:=by
 rw [Kl] at h;rcases jn h with ⟨i,t,rfl,rfl⟩|⟨x,t,rfl,rfl⟩
 .exact ⟨t,rfl⟩
 .exact ⟨t,rfl⟩
def KQ (L:X.calm=true):iw X (.type "list") (λE H Q=>∃a b,E=[.ref a]/\Rd H a (.dK b)/\∀l,H l=none->Q (.ref l) (upd H l (.lst (b.map λg=>kV g.1)))):=by
 intro G s σ H E us Q I r h;obtain ⟨a,b,rfl,e,q⟩:=h;obtain ⟨u,rfl,M⟩:=Qk r;cases M;obtain ⟨z,N,J,bE,O⟩:=ie I.aA e;obtain ⟨T,o⟩:=O.dictAt;have i:=bE.length;refine W.kdl_call (W.kdl_dict (knd:=dw X.prog X.w) (kvs:=J) (ep:=T) N) (I.ok.hd L) o (by rw [<-i];exact z) λU Y c c' hk hS f=>?_;have rv:be (b.map λg=>kV g.1) c.toList:=by
  have y:∀(A:List (aM×V)) (m:List (aM×Value)) (d:List Value),KV A m->d.length=m.length->(∀(j:Nat) v,d[j]?=some v->∃k x,m[j]?=some (k,x)/\(dw X.prog X.w).is k v=true)->be (A.map λg=>kV g.1) d:=by
   intro A m d rk;induction rk generalizing d with
   |nil=>intro i _;cases d with
    |nil=>exact .nil
    |cons _ _=>cases i
   |@cons p q ps qs B t ih=>
    intro i n;cases d with
    |nil=>cases i
    |cons v d=>
     obtain ⟨k,x,C,h2⟩:=n 0 v rfl;have C:q=(k,x):=Mu C;refine .cons ?_ (ih d (Nat.succ.inj i) λj u hu=>n (j+1) u hu);have e1:p.1=k:=by rw [B.1,C]
     show RelV (kV p.1) v;rw [e1];exact GB h2
  exact y b J c.toList bE (by rw [OW];exact f.1) λj v n=>f.2 j v (by rw [<-QL];exact n)
 exact ⟨.ref s.heap.objs.size,_,I.laid (t':=Y) hk (Mh _) (show ca X.prog X.w _ U _ (.lst<|b.map λg=>kV g.1) from ⟨by rw [Md];exact z,c.toList,c',rv,by rw [Array.toArray_toList];exact hS⟩),rfl,q _<|I.aA.fresh<|Mh _⟩
def HE (C:X.calm=true):iw X (.builtin "all") (λn H Q=>∃(a:Addr) (d:List Bool),n=[.ref a]/\aN X.K H a (d.map V.bl)/\Q (.bl (d.all id)) H):=by
 intro t s T H n U Q I r h;obtain ⟨a,d,rfl,x,q⟩:=h;obtain ⟨u,rfl,E⟩:=Qk r;cases E;obtain ⟨c,j,p,G⟩:=I.list x;refine call_all_walk<|NE p.isList ?_
 have k:a≠s.heap.objs.size:=by
  obtain ⟨o,J,_⟩:=p.isList;exact MM<|MA J
 have f:c.length=d.length:=by have:=j.length;rw [Md] at this;exact this.symm
 refine ⟨s.heap.objs.size,_,_,c.toArray.size,_,_,λi=>d.getD i true,rfl,Walks.list (A:=X.A.in1) (prog:=X.prog) (w:=X.w) (show X.A.in1.handled=none from I.ok.hd C) s.heap.objs.size a k c.toArray,⟨⟨_,Mz _ rfl,rfl,rfl⟩,p.isList.push _⟩,λi v Y Q' E' g l=>?_,λh' L M=>?_⟩
 .have g:c[i]?=some v:=by simpa using g
  have hi:i<c.length:=(Ma.mp g).1;have N:(d.map V.bl)[i]?=some (.bl<|d.getD i true):=by
   rw [Mo,Mb Z4,List.getD,Mb Z4];rfl
  obtain ⟨w',y,m⟩:=j.get N;rw [g] at y;cases y;obtain rfl:v=Value.bool (d.getD i true):=m;exact Nz l
 .have e:(List.range c.toArray.size).all (λi=>d.getD i true)=d.all id:=by
   rw [Mw,f];clear f j G x q;induction d with
   |nil=>rfl
   |cons b r O=>
    rw [MN,List.range_succ_eq_map,OO,Pp];show (b&&(List.range r.length).all λi=>r.getD i true)=(b&&r.all id)
    rw [O]
  refine ⟨.bl<|d.all id,H,I.kept (t':=L) λb o B=>M b o (λz=>?_)<|Mf _ B,M7 Value.bool e,q⟩;have:b=s.heap.objs.size:=by simpa using z
  exact absurd (MA B) (by rw [this];exact Nr _)
end
end L2
namespace L2
open PySem PySem.Spec PyProof.Rows
section
variable {X:Cx}
def AY (K:PySem.W.Frag):R2:=λx y H Q=>∃a b xs ys,x=.ref a/\y=.ref b/\bz K H a xs/\bz K H b ys/\xs.length+ys.length<=sizeLine/\
 (xs=[]->Q (.ref b) H)/\(xs≠[]->ys=[]->Q (.ref a) H)/\(xs≠[]->ys≠[]->∀p,H p=none->Q (.ref p) (upd H p (.tup (xs++ys))))
def yQ:cO X (binaryOp .Add) (AY X.K):=by
 intro c s B H x y v u Q I l m h;obtain ⟨a,b,o,C,rfl,rfl,p,q,E,G,J,L⟩:=h;by_cases d:o=[]
 .cases l;cases m;obtain ⟨e,M,N,_⟩:=I.tuple p;obtain ⟨f,r2,O,_⟩:=I.tuple q;have T:e=[]:=M.tY.mpr d;obtain ⟨⟨U,Y,r,sl⟩,t,w,n,z⟩:=id N;obtain ⟨⟨A,j,data2,k⟩,g,i,n2,dz⟩:=id O;simp only at w z i dz;subst w z i dz;exact concat_meets ⟨_,t,rfl⟩ ⟨_,g,rfl⟩ Qt seq_tuple_add Pl Pg (OX _ _)
   (tuple_addW0 a b e.toArray f.toArray n n2 Y j sl k (by simp [T])) ⟨t,g,⟨.ref b,H,I,rfl,G d⟩⟩
 .exact IW c s B H _ _ v u Q I l m ⟨a,b,o,C,rfl,rfl,p,q,d,E,J d,L d⟩
end
end L2
namespace FL
open PySem L2
section
variable {G:Hp}{σ:St}{ta tb:TE}{K:PySem.W.Frag}{xs ys:List D}
def yd (u:xs.length+ys.length<=1000)(j:ae ta G σ (.tup xs))(m:ae tb G σ (.tup ys)):ae (bJ (AY K) ta tb) G σ (.tup (xs++ys)):=
 jY (λM H v y l n o Q k=>by
  obtain ⟨a,q,rfl,f,c⟩:=n.fb;obtain ⟨b,r,rfl,g,d⟩:=o.fb;have s:=c.length;have t:=d.length;refine ⟨a,b,q,r,rfl,rfl,bz.of (aw f).2,bz.of (aw g).2,ND<|cq Z4,λe=>?_,λe h=>?_,λe h p i=>?_⟩
  .have:xs=[]:=NT (by rw [<-s,e];rfl);rw [this,OC] at k;exact k _ H (ab.refl _) (.tup g d)
  .have:ys=[]:=NT (by rw [<-t,h];rfl);rw [this,MP] at k;exact k _ H (ab.refl _) (.tup f c)
  .exact k _ _ (da i _)<|oH l i<|c.append d) j m
def mj (q:xs.length+ys.length<=1000)(f:ae ta G σ (.lst xs))(g:ae tb G σ (.lst ys)):ae (bJ BR ta tb) G σ (.lst (xs++ys)):=
 jY (λM H v y l h i Q k=>by
  obtain ⟨a,j,rfl,m,c⟩:=h.dX;obtain ⟨b,n,rfl,o,d⟩:=i.dX;have r:=c.length;have s:=d.length;exact ⟨a,b,j,n,rfl,rfl,(aw m).2,(aw o).2,ND<|cq Z4,λp e=>k _ _ (da e _)<|oX l e<|c.append d⟩) f g
end
section
variable {X:Cx}{N':List Str}{scope:Scope}{cl:List (Str×Addr)}{C:Addr}{fp:List Addr}{s:Shared}{H:Hp}
def jf(h:aT X.prog X.w X.K X.mg X.base n x i g)(j:cT m X.A)(k:PA (bG X N' scope cl C fp s H) (e::a) t)(c:n<=m:=by decide)
  (l:Gl (bG X N' scope cl C fp s H) x:=by rfl) (d:(x==("__debug__":Str))=false:=by decide) (o:starEach (e::a) (bG X N' scope cl C fp s H).env=(false,eval e (bG X N' scope cl C fp s H).env)::starEach a (bG X N' scope cl C fp s H).env:=by rfl) (f:(backTo b (starEach a (bG X N' scope cl C fp s H).env)).any (·.1)=false:=by rfl):
  PE (bG X N' scope cl C fp s H) (.Call (.Name x p) (e::a) [] b) (iY g [] E0 t):=bB (X:=bG X N' scope cl C fp s H) h j k c l d o f
end
structure eB (P:Program)(w:World)(K:PySem.W.Frag)(mg:Str->Option Value)(base:Heap)(n:Nat)(C:Addr)(m:Str)(ps:List Str)(sp:Sp):Prop where
 ex:∃f fd,bq P w K mg base bA n f fd ps sp/\Binds K fd ps []/\dh K C m f
structure jI (P:Program)(w:World)(K:PySem.W.Frag)(mg:Str->Option Value)(base:Heap)(n:Nat)(C:Addr)(x:Str)(ps:List Str)(sp:Sp):Prop where
 ex:∃f fd,bq P w K mg base bA n f fd ps sp/\Binds K fd ps []/\Mk K C f/\mg x=some (.ref C)
section
variable {X:Cx}{C:Addr}
def j8(v:PE X o r)(c:dq X.K C)(h:eB X.prog X.w X.K X.mg X.base n C m u q)(x:cT k X.A)(y:PA X (e::g) t)(i:n<=k:=by decide)
  (j:starEach (e::g) X.env=(false,eval e X.env)::starEach g X.env:=by rfl) (l:(backTo a (starEach g X.env)).any (·.1)=false:=by rfl)
  (z:eval (.Call (.Attribute o m d) (e::g) [] a) X.env=(do
   let s<-eval o X.env
   standAt d.atName
   let (f,first)<-holding [s] (getMethod s m p)
   callWith a f first (backTo a (starEach (e::g) X.env)) (backToKw a (keywordEach [] X.env))):=by rfl):
  PE X (.Call (.Attribute o m d) (e::g) [] a) (lR C m q [] E0 r t):=by
 obtain ⟨f,B,F,b,M⟩:=h.ex;exact Ev (pl:=p) v c M (F.mono i) x b .nil ui y j l z
def wE(h:jI X.prog X.w X.K X.mg X.base n C x l j)(m:cT (k+1) X.A)(o:PA X (e::a) t)(d:n<=k:=by decide)
  (q:Gl X x:=by rfl) (g:(x==("__debug__":Str))=false:=by decide) (r:starEach (e::a) X.env=(false,eval e X.env)::starEach a X.env:=by rfl) (i:(backTo c (starEach a X.env)).any (·.1)=false:=by rfl):
  PE X (.Call (.Name x p) (e::a) [] c) (t9 C j [] E0 t):=by
 obtain ⟨f,u,F,b,M,s⟩:=h.ex;exact Fp M (F.mono d) m q s b .nil ui o g r i
end
section
variable {X:Cx}{e:Expr}{te:TE}{p pos:Pos}
def D6 (B:Bl X.mg)(h:PE X e te)(d:X.calm=true:=by rfl)(f:Gl X "list":=by rfl)(c:starEach [e] X.env=(false,eval e X.env)::starEach [] X.env:=by rfl):PE X (.Call (.Name "list" p) [e] [] pos)
  (cM (λg H Q=>∃a b,g=[.ref a]/\Rd H a (.dK b)/\∀l,H l=none->Q (.ref l) (upd H l (.lst (b.map λi=>kV i.1)))) (bu te bL)):=
 qk (KQ d) f B.list Pn (ai h ap c) (he:=c)
def wP (B:Bl X.mg)(h:PE X e te)(d:X.calm=true:=by rfl)(f:Gl X "all":=by rfl)(b:starEach [e] X.env=(false,eval e X.env)::starEach [] X.env:=by rfl):PE X (.Call (.Name "all" p) [e] [] pos)
  (cM (λg H Q=>∃(a:Addr) (c:List Bool),g=[.ref a]/\aN X.K H a (c.map V.bl)/\Q (.bl (c.all id)) H) (bu te bL)):=
 pE (HE d) f B.all PyProof.Rows.boot_all (ai h ap b) (he:=b)
end
section
variable {G:Hp}{σ:St}{ta:TE}{t:TA}{K:PySem.W.Frag}
theorem yK:∀{a:List V} {c:List Bool},aE H a (c.map D.bl)->a=c.map V.bl
 |_,[],.nil=>rfl
 |_,b::r,.cons h t=>by rw [h.jm,yK t];rfl
def uI {bs:List Bool}(h:dJ t G σ [.lst (bs.map D.bl)]):ae (cM (λb H Q=>∃(a:Addr) (bs:List Bool),b=[.ref a]/\aN K H a (bs.map V.bl)/\Q (.bl (bs.all id)) H) t) G σ (.bl (bs.all id)):=
 oP (λM H b l c Q k=>by
  obtain ⟨v,rfl,r⟩:=iF c;obtain ⟨a,f,rfl,d,e⟩:=r.dX;refine ⟨a,bs,rfl,?_,k _ H (ab.refl _) (.bl _)⟩;rw [<-yK e];exact aN.of (aw d).2) h
def xW(h:ae ta G σ (.lst b)):bg (λσ H Q=>ta σ H λx c=>∃k,sW K x c k/\Q k c) G σ (!b.isEmpty):=λM H s l Q k=>h M H s l _ λv d e f=>by
 obtain ⟨a,g,rfl,i,j⟩:=f.dX;refine ⟨!b.isEmpty,.inl ⟨g,aN.of (aw i).2,?_⟩,k d e⟩;cases j<;>rfl
end
end FL
namespace PySem
section
variable {prog:Program}{w:World}{K:Type} [DecidableEq K] {knd:HeapKind prog w K}{A:Around}{E:Value->Shared->Prop}{s:Shared}
def HJ (knd:HeapKind prog w K)(d:Addr)(c:(d==sysModules)=false):
  MeetsIn prog w (Builtin.«dict.__len__» ⟨[.ref d],[]⟩) (λ_ R s=>∃b,s.heap.DictOfH knd d b/\R (.ok (.ret (.int b.length s.toks))) {s with toks:=s.toks+1}):=
 .of_wp λA R s e=>by
  obtain ⟨b,f,h⟩:=e;obtain ⟨o,g,l,i,m,a,j,k,n⟩:=f;show wpAny _ _ (dictSize d>>=_) _ _ s;unfold dictSize;refine L9<|L9<|wpAny_dictEntries i a<|Mt ?_;show wpAny _ _ (Builtin.Dict.pendingCount d>>=_) _ _ s;refine L9<|wpAny_pendingCount_other c ?_;refine wpAny_ret_mkInt ?_;have:g.size=b.length:=size_of_entries j;rw [Nat.add_zero,this];exact h
def Kg{Q:ZT}(e:(d==sysModules)=false)(b:s.heap.DictOfH knd d a)(c:(a.length:Int)<2^63)
  (h:Q (.int a.length (s.toks+1)) {s with toks:=s.toks+1+1}):wpAny (model prog w) A (call (.builtin "len") [.ref d]) Q E s:=by
 refine Calls.call_function_entry kind_len plain_len entry_len (args_len1 _) ?_;unfold Builtin.«len»;refine L9 (m:=oneArg "len" _)<|Mt ?_
 refine L9 (m:=callSpecial? (.ref d)<|Str.ofString "__len__") (Np (name:=Str.ofString "__len__") b.typeIs F.slot_dict_len
  (Oy F.slot_dict_len b.typeIs F.entry_dict_len (F.args_dict_len_1 _) (HJ knd d e) ⟨a,b,?_⟩))
 show wpAny _ _ _ _ _ {s with toks:=s.toks+1};refine L9<|NQ<|Mt ?_
 refine L9<|OJ ?_
 show wpAny _ _ (if ((a.length:Nat):Int)<0 then _ else _) _ _ _;rw [Mj Z4];show wpAny _ _ (if ((a.length:Nat):Int)≥2^63 then _ else _) _ _ _;rw [Mj Z4];exact L9<|wpAny_mkInt<|Mt ⟨_,rfl,h⟩
end
end PySem
namespace L2
open PySem PySem.Spec PyProof.Rows
section
variable {X:Cx}
def vc:List V->Hp->VK->Prop:=λxs H Q=>(∃a kvs,xs=[.ref a]/\Rd H a (.dK kvs)/\Q (.int kvs.length) H)\/∃a kvs,xs=[.ref a]/\Rd H a (.dT kvs)/\Q (.int kvs.length) H
def Ll:iw X (.builtin "len") vc:=by
 intro d s l H g m Q I r h;rcases h with ⟨a,b,rfl,e,q⟩|⟨a,b,rfl,e,q⟩
 .obtain ⟨u,rfl,c⟩:=Qk r;cases c;exact LV I e λt n i=>⟨.int b.length,H,i,⟨t,rfl⟩,q⟩
 .obtain ⟨u,rfl,c⟩:=Qk r;cases c;obtain ⟨z,j,g,bE,k⟩:=kF I.aA e;have f:=N3 bE;refine Kg j k (by rw [<-f];rw [Qj] at z;omega) ?_;rw [<-f];exact ⟨.int b.length,H,I.tok _,⟨_,rfl⟩,q⟩
end
end L2
namespace FL
open PySem L2
section
variable {X:Cx}{e:Expr}{te:TE}{p pos:Pos}
def LC (B:Bl X.mg)(h:PE X e te)(b:Gl X "len":=by rfl)(a:starEach [e] X.env=(false,eval e X.env)::starEach [] X.env:=by rfl):PE X (.Call (.Name "len" p) [e] [] pos) (cM vc (bu te bL)):=
 pE Ll b B.len PySem.boot_len (ai h ap a) (he:=a)
end
section
variable {X:Cx}{N':List Str}{scope:Scope}{cl:List (Str×Addr)}{C:Addr}{fp:List Addr}{s:Shared}{H:Hp}{e:Expr}{te:TE}{p pos:Pos}
end
end FL
namespace FL
open PySem L2
section
variable {X:Cx}{N':List Str}{scope:Scope}{cl:List (Str×Addr)}{C:Addr}{fp:List Addr}{s:Shared}{H:Hp}{e:Expr}{te:TE}{p pos:Pos}{f:Str}
def pG (a:PE (bG X N' scope cl C fp s H) e te)(b:attributeBase e f (bG X N' scope cl C fp s H).env (eval e (bG X N' scope cl C fp s H).env)=eval e (bG X N' scope cl C fp s H).env):PE (bG X N' scope cl C fp s H) (.Attribute e f pos) (lA X.K te f):=dR (X:=bG X N' scope cl C fp s H) a b
def BO (b:PE (bG X N' scope cl C fp s H) e te)(c:∀gq,isTrue e (bG X N' scope cl C fp s H).env gq=(do let v<-gq;standAt e.pos;holding [v] (truthy v))):
  PT (bG X N' scope cl C fp s H) e (λd H Q=>te d H λx a=>∃k,sW X.K x a k/\Q k a):=uJ (X:=bG X N' scope cl C fp s H) b c
end
end FL
namespace FL
open PySem L2
def ar (V:Str->D)(B:List Str):aR:=B.map λb=>(b,V b)
def a6 (V:Str->D)(x:D):D:=if aB x=true then V x.name else x
def cu (B:List Str)(x:D):List Str:=if (aB x&& !decide (x.name∈B))=true then B++[x.name] else B
def ak (B:List Str)(l:List D):List Str:=l.foldl cu B
def cB (B:List Str):Prop:=∀b∈B,aB (.str b)=true
def iD(h:aB x=true):x=.str x.name:=by
 cases x with
 |str s=>rfl
 |_=>cases h
def cB.add(h:cB B)(x:D):cB (cu B x):=λb a=>by
 unfold cu at a;by_cases e:(aB x&& !decide (x.name∈B))=true
 .rw [Mp e] at a
  rcases MB.mp a with z|z
  .exact h b z
  .rw [MG.mp z]
   rw [Na] at e;rw [<-iD e.1];exact e.1
 .rw [Mj e] at a;exact h b a
def Ae{B:ZY}(h:b∈B):b∈cu B x:=by
 unfold cu;by_cases e:(aB x&& !decide (x.name∈B))=true
 .rw [Mp e];exact Ms _ h
 .rw [Mj e];exact h
def BZ(h:aB x=true):x.name∈cu B x:=by
 unfold cu;by_cases e:x.name∈B
 .rw [Mj (by simp [e])];exact e
 .rw [Mp (by simp [e,h])];exact Ml _<|MG.mpr rfl
def Lm(h:b∈cu B x):b∈B\/(aB x=true/\b=x.name):=by
 unfold cu at h;by_cases e:(aB x&& !decide (x.name∈B))=true
 .rw [Mp e] at h
  rw [Na] at e;rcases MB.mp h with z|z
  .exact .inl z
  .exact .inr ⟨e.1,MG.mp z⟩
 .rw [Mj e] at h;exact .inl h
def HN{B:ZY}(h:B.Nodup):(cu B x).Nodup:=by
 unfold cu;by_cases e:(aB x&& !decide (x.name∈B))=true
 .rw [Mp e]
  rw [Na] at e;have c:x.name∉B:=by simpa using e.2
  rw [OT];refine ⟨h,by simp,?_⟩;intro a d b f;rw [MG.mp f];exact λz=>c<|z▸d
 .rw [Mj e];exact h
def so:∀{B:ZY} {b:Str},b∈B->b∈ak B l:=by
 induction l with
 |nil=>exact λh=>h
 |cons x r a=>exact λh=>a<|Ae h
def iN:∀{B:ZY},cB B->cB (ak B l):=by
 induction l with
 |nil=>exact λh=>h
 |cons x r a=>exact λh=>a<|h.add x
def Aw:∀{B:ZY},B.Nodup->(ak B l).Nodup:=by
 induction l with
 |nil=>exact λh=>h
 |cons x r a=>exact λh=>a<|HN h
def mU{l:ZZ}(a:x∈l)(h:aB x=true):∀{B:ZY},x.name∈ak B l:=by
 induction l with
 |nil=>cases a
 |cons y r b=>
  intro B;rcases Mn.mp a with rfl|a
  .exact so (l:=r) (B:=cu B x)<|BZ h
  .exact b a
def vx:∀{B:ZY},b∈ak B l->b∈B\/∃x∈l,aB x=true/\b=x.name:=by
 induction l with
 |nil=>exact λh=>.inl h
 |cons y r a=>
  intro B h;rcases a h with z|⟨x,c,z⟩
  .rcases Lm z with z|⟨d,e⟩
   .exact .inl z
   .exact .inr ⟨y,Mc,d,e⟩
  .exact .inr ⟨x,L8 _ c,z⟩
def Gs (V:Str->D)(B:ZY):C1 (ar V B):=λp a q d e=>by
 obtain ⟨b,_,rfl⟩:=Mx.mp a;obtain ⟨c,_,rfl⟩:=Mx.mp d;have e:b=c:=e;rw [e]
def C4 {V a:Str->D}{B:ZY}(h:∀b∈B,a b=V b):ar a B=ar V B:=ML λb c=>by rw [h b c]
def vR{V:Str->D}(a:aB x=true):ff (ar V B) x=decide (x.name∈B):=by
 rw [iD a];have h:=Lu (F:=ar V B) (s:=x.name);have e:(ar V B).map (·.1)=B:=by simp [ar,MU,Function.comp_def]
 rw [e] at h;show ff (ar V B) (.str x.name)=decide (x.name∈B);by_cases z:x.name∈B
 .rw [h.mpr z,My z]
 .rw [MH z]
  cases q:ff (ar V B) (.str x.name) with
  |false=>rfl
  |true=>exact absurd (h.mp q) z
def oU{V:Str->D}(a:cB B)(c:aB x=false):ff (ar V B) x=false:=by
 cases q:ff (ar V B) x with
 |false=>rfl
 |true=>
  obtain ⟨p,d,e⟩:=Pj.mp q;obtain ⟨b,f,rfl⟩:=Mx.mp d;have e:D.str b=x:=MC e;have:=a b f;rw [e,c] at this;cases this
def nE{V:Str->D}{B:ZY}(a:b∈B):cj (ar V B) (.str b)=V b:=JJ (Gs V B) (p:=(b,V b))<|Mx.mpr ⟨b,a,rfl⟩
def kJ{V:Str->D}(a:cB B)(b:aB x=true->x.name∈B):cj (ar V B) x=a6 V x:=by
 unfold a6;by_cases e:aB x=true
 .rw [Mp e]
  have:=nE (V:=V)<|b e
  rw [<-iD e] at this;exact this
 .rw [Mj e]
  exact kK<|oU a (by simpa using e)
def Jw{V:Str->D}(a:cB B)(x:D):fW (ar V B) x (a6 V x)=some (ar V (cu B x)):=by
 unfold fW cu;by_cases e:aB x=true
 .rw [vR e]
  by_cases z:x.name∈B
  .rw [Mj (by simp [z]),kJ a λ_=>z,Mp rfl,Mj (by simp [z])]
  .rw [Mp (by simp [z,e]),Mp (by simp [z,e])]
   unfold a6 ar;rw [Mp e,MK];rfl
 .have b:aB x=false:=by simpa using e
  rw [Mj (by simp [b]),kJ a λz=>absurd z e,Mp rfl,Mj (by simp [b])]
def Gr{V a:Str->D}(h:∀b∈cu B x,a b=V b):a6 a x=a6 V x:=by
 unfold a6;by_cases e:aB x=true
 .rw [Mp e,Mp e,h _<|BZ e]
 .rw [Mj e,Mj e]
def Gd{V:Str->D}(d:cB B)(h:fW (ar V B) x y=some f):∃a,(∀b∈B,a b=V b)/\f=ar a (cu B x)/\y=a6 a x:=by
 unfold fW at h;by_cases e:aB x=true
 .rw [vR e] at h
  by_cases z:x.name∈B
  .rw [Mj (by simp [z]),kJ d λ_=>z] at h
   by_cases q:a6 V x=y
   .rw [Mp q] at h
    refine ⟨V,λ_ _=>rfl,?_,q.symm⟩;unfold cu;rw [Mj (by simp [z])];exact (Mu h).symm
   .rw [Mj q] at h;cases h
  .rw [Mp (by simp [z,e])] at h
   refine ⟨λb=>if b=x.name then y else V b,λb c=>Mj λw=>z (by rw [<-w];exact c),?_,?_⟩
   .have i:=Mu h;rw [<-i];unfold cu;rw [Mp (by simp [z,e])];unfold ar;rw [MK];congr 1
    .exact ML λb c=>by
      have:b≠x.name:=λw=>z (by rw [<-w];exact c);simp [this]
    .simp
   .unfold a6;rw [Mp e];simp
 .have g:aB x=false:=by simpa using e
  rw [Mj (by simp [g]),kJ d λz=>absurd z e] at h;by_cases q:a6 V x=y
  .rw [Mp q] at h
   refine ⟨V,λ_ _=>rfl,?_,q.symm⟩;unfold cu;rw [Mj (by simp [g])];exact (Mu h).symm
  .rw [Mj q] at h;cases h
theorem B6 {V:Str->D}:∀(l:ZZ) {B:ZY},cB B->f7 (ar V B) (l.zip (l.map (a6 V)))=some (ar V (ak B l))
 |[],B,_=>rfl
 |x::r,B,a=>by
  show (fW (ar V B) x<|a6 V x).bind (λb=>f7 b<|r.zip<|r.map<|a6 V)=_;rw [Jw a];exact B6 r<|a.add x
theorem xR:∀(l f:ZZ) {V:Str->D} {B:ZY} {a:aR},cB B->l.length=f.length->f7 (ar V B) (l.zip f)=some a->∃d,(∀b∈B,d b=V b)/\a=ar d (ak B l)/\f=l.map (a6 d)
 |[],[],V,B,a,_,_,h=>⟨V,λ_ _=>rfl,(Mu h).symm,rfl⟩
 |[],_::_,_,_,_,_,c,_=>by cases c
 |_::_,[],_,_,_,_,c,_=>by cases c
 |x::r,y::t,V,B,a,g,c,h=>by
  have h:(fW (ar V B) x y).bind (λa=>f7 a<|r.zip t)=some a:=h;cases e:fW (ar V B) x y with
  |none=>rw [e] at h;cases h
  |some n=>
   rw [e] at h;obtain ⟨o,j,rfl,k⟩:=Gd g e;obtain ⟨m,b1,b2,b3⟩:=xR r t (g.add x) (Nat.succ.inj c) h;refine ⟨m,λb i=>(b1 b<|Ae i).trans<|j b i,b2,?_⟩;rw [MW,<-b3,k,Gr b1]
def bC (A f:List D)(S:aR):Option aR:=if A.headD .av=f.headD .av/\A.length=f.length then f7 S (A.zip f) else none
def yv{V:Str->D}(b:A≠[])(a:aB (A.headD .av)=false):A.headD .av=(A.map (a6 V)).headD .av:=by
 cases A with
 |nil=>exact absurd rfl b
 |cons x r=>
  show x=a6 V x;unfold a6;have a:aB x=false:=a;rw [Mj (by rw [a];exact Mm)]
def wJ{V:Str->D}(a:cB B)(b:A≠[])(c:aB (A.headD .av)=false):bC A (A.map (a6 V)) (ar V B)=some (ar V (ak B A)):=by
 unfold bC;rw [Mp ⟨yv b c,by rw [Md]⟩];exact B6 A a
def jb{V:Str->D}(d:cB B)(h:bC A f (ar V B)=some c):∃a,(∀b∈B,a b=V b)/\c=ar a (ak B A)/\f=A.map (a6 a):=by
 unfold bC at h;by_cases z:A.headD .av=f.headD .av/\A.length=f.length
 .rw [Mp z] at h;exact xR A f d z.2 h
 .rw [Mj z] at h;cases h
end FL
namespace FL
open PySem L2
abbrev aH:=aR×List Nat
def ext (facts:List (List D))(a:List D)(w:aH):List aH:=facts.zipIdx.filterMap λp=>(bC a p.1 w.1).map λS=>(S,w.2++[p.2])
def fw (facts:List (List D)):List (List D)->List aH->List aH
 |[],ws=>ws
 |a::r,ws=>fw facts r (ws.flatMap (ext facts a))
def a8 (B:List Str)(as:List (List D)):List Str:=as.foldl ak B
def dY (facts:List (List D))(V:Str->D)(as:List (List D))(pl:List Nat):Prop:=pl.map (λi=>facts[i]?)=as.map λa=>some (a.map (a6 V))
def jp (a:List D):Prop:=a≠[]/\aB (a.headD .av)=false
def lG:(S,c)∈ext b a w↔∃i f,b[i]?=some f/\bC a f w.1=some S/\c=w.2++[i]:=by
 unfold ext;rw [Pb];constructor
 .rintro ⟨⟨f,i⟩,g,e⟩
  have d:b[i]?=some f:=by
   have:=OF.mp g;exact this
  have e:(bC a f w.1).map (λS=>(S,w.2++[i]))=some (S,c):=e;cases q:bC a f w.1 with
  |none=>rw [q] at e;cases e
  |some j=>
   rw [q] at e;have e:=Mu e;exact ⟨i,f,d,by rw [q];exact M7 some<|M7 Prod.fst e,(M7 Prod.snd e).symm⟩
 .rintro ⟨i,f,d,h,rfl⟩
  exact ⟨(f,i),OF.mpr d,by show (bC a f w.1).map _=_;rw [h];rfl⟩
def FQ{V f:Str->D}{d:ZW}{B:ZY}(i:∀a∈d,∀x∈a,aB x=true->x.name∈B)(h:∀b∈B,f b=V b)(j:dY c V d g):dY c f d g:=by
 unfold dY at*
 rw [j];refine ML λa k=>?_;congr 1;refine ML λx l=>?_;unfold a6;by_cases e:aB x=true
 .rw [Mp e,Mp e,h _<|i a k x l e]
 .rw [Mj e,Mj e]
def D5:∀{B:ZY} {b:Str},b∈B->b∈a8 B as:=by
 induction as with
 |nil=>exact λh=>h
 |cons a r c=>exact λh=>c<|so h
def jv:∀{B:ZY},cB B->cB (a8 B b):=by
 induction b with
 |nil=>exact λh=>h
 |cons a r c=>exact λh=>c<|iN h
def x9:∀{B:ZY},B.Nodup->(a8 B as).Nodup:=by
 induction as with
 |nil=>exact λh=>h
 |cons a r b=>exact λh=>b<|Aw h
def nv{d:ZW}(b:a∈d)(e:x∈a)(h:aB x=true):∀{B:ZY},x.name∈a8 B d:=by
 induction d with
 |nil=>cases b
 |cons c r f=>
  intro B;rcases Mn.mp b with rfl|b
  .exact D5 (as:=r) (B:=ak B a)<|mU e h
  .exact f b
def vp:∀{B:ZY},b∈a8 B as->b∈B\/∃a∈as,∃x∈a,aB x=true/\b=x.name:=by
 induction as with
 |nil=>exact λh=>.inl h
 |cons c r d=>
  intro B h;rcases d h with z|⟨a,e,z⟩
  .rcases vx z with z|⟨x,f,z⟩
   .exact .inl z
   .exact .inr ⟨c,Mc,x,f,z⟩
  .exact .inr ⟨a,L8 _ e,z⟩
theorem y2:∀(m:ZW) (done:ZW) (B:ZY) (j:List aH),cB B->(∀a∈done,∀x∈a,aB x=true->x.name∈B)->(∀a∈m,jp a)->
  (∀S d,(S,d)∈j↔∃V,S=ar V B/\dY b V done d)->∀S d,(S,d)∈fw b m j↔∃V,S=ar V (a8 B m)/\dY b V (done++m) d
 |[],done,B,j,_,_,_,h,S,d=>by
  rw [MP];exact h S d
 |a::r,done,B,j,o,u,v,h,S,d=>by
  have k:=y2 r (done++[a]) (ak B a) (j.flatMap<|ext b a) (iN o) (λc p x q e=>by
    rcases MB.mp p with z|z
    .exact so (u c z x q e)
    .rw [MG.mp z] at q;exact mU q e) (λc p=>v c<|L8 _ p) (λS d=>by
   rw [Nm];constructor
   .rintro ⟨⟨A,s⟩,C,E⟩
    obtain ⟨i,f,G,H,rfl⟩:=lG.mp E;obtain ⟨V,rfl,l⟩:=(h A s).mp C;obtain ⟨w,I,J,L⟩:=jb o H;refine ⟨w,J,?_⟩;have M:=FQ u I l;unfold dY at*
    rw [MK,MK,M];show _++[b[i]?]=_++[some<|a.map<|a6 w]
    rw [G,L]
   .rintro ⟨V,rfl,l⟩
    unfold dY at l;rw [MK] at l;obtain ⟨N,y,rfl,O,n⟩:=List.map_eq_append_iff.mp l;obtain ⟨i,rfl,Q⟩:∃i,y=[i]/\b[i]?=some (a.map<|a6 V):=by
     cases y with
     |nil=>cases n
     |cons i t=>
      have n:b[i]?::t.map (λi=>b[i]?)=[some<|a.map<|a6 V]:=n;obtain ⟨T,U⟩:=Oj n;have:t=[]:=List.map_eq_nil_iff.mp U;exact ⟨i,by rw [this],T⟩
    refine ⟨(ar V B,N),(h _ _).mpr ⟨V,rfl,O⟩,lG.mpr ⟨i,_,Q,?_,rfl⟩⟩;have g:=v a Mc;exact wJ o g.1 g.2) S d
  rw [M5] at k;exact k
def pp{d:ZW}(g:∀a∈d,jp a):(S,f)∈fw c d [([],[])]↔∃V,S=ar V (a8 [] d)/\dY c V d f:=by
 refine y2 d [] [] [([],[])] (λb i=>nomatch i) (λa j=>nomatch j) g (λS f=>?_) S f;rw [MG];constructor
 .intro e;obtain ⟨rfl,rfl⟩:=Q4 e;exact ⟨λ_=>.av,rfl,rfl⟩
 .rintro ⟨V,rfl,h⟩
  have:f=[]:=List.map_eq_nil_iff.mp h;rw [this];rfl
def gR:List Nat->List Nat->Prop
 |a::r,b::t=>a<b\/(a=b/\gR r t)
 |_,_=>False
theorem yV:∀{p q:List Nat} (s t:List Nat),gR p q->gR (p++s) (q++t)
 |[],_,_,_,h=>h.elim
 |_::_,[],_,_,h=>h.elim
 |a::r,b::u,s,t,h=>by
  rcases h with h|⟨c,d⟩
  .exact .inl h
  .exact .inr ⟨c,yV s t d⟩
theorem zr:∀(p:List Nat) {i j:Nat},i<j->gR (p++[i]) (p++[j])
 |[],_,_,h=>.inl h
 |_::r,_,_,h=>.inr ⟨rfl,zr r h⟩
theorem Cr:∀(l:List a) (k:Nat),(l.zipIdx k).Pairwise λp q=>p.2<q.2
 |[],k=>.nil
 |x::r,k=>by
  rw [Qm];refine .cons (λq b=>?_)<|Cr r<|k+1
  have:=List.le_snd_of_mem_zipIdx b;show k<q.2;omega
def IC (b:ZW)(a:ZZ)(w:aH):(ext b a w).Pairwise λx y=>gR x.2 y.2:=by
 unfold ext;rw [List.pairwise_filterMap];refine (Cr b 0).imp λ{p q} e x c y d=>?_;cases f:bC a p.1 w.1 with
 |none=>rw [f] at c;cases c
 |some S=>
  cases g:bC a q.1 w.1 with
  |none=>rw [g] at d;cases d
  |some h=>
   rw [f] at c;rw [g] at d;have c:=Mu c;have d:=Mu d;rw [<-c,<-d];exact zr _ e
theorem Cf (b:ZW):∀(d:ZW) (c:List aH),c.Pairwise (λx y=>gR x.2 y.2)->(fw b d c).Pairwise λx y=>gR x.2 y.2
 |[],_,h=>h
 |a::r,c,h=>by
  refine Cf b r _ ?_;rw [List.pairwise_flatMap];refine ⟨λw _=>IC b a w,h.imp λ{w l} e x g y j=>?_⟩;obtain ⟨S,m⟩:=x;obtain ⟨n,k⟩:=y;obtain ⟨i,f,_,_,rfl⟩:=lG.mp g;obtain ⟨o,p,_,_,rfl⟩:=lG.mp j;exact yV _ _ e
theorem qv  [DecidableEq c]:∀{l m:List c},l.Nodup->(∀x∈l,x∈m)->l.length<=m.length
 |[],m,_,_=>MI _
 |x::r,m,h,d=>by
  obtain ⟨g,i⟩:=Oi.mp h;have e:=d x Mc;have a:=qv (l:=r) (m:=m.erase x) i (λy f=>by
   have b:y≠x:=λz=>g (z▸f);exact (List.mem_erase_of_ne b).mpr<|d y<|L8 _ f)
  rw [List.length_erase_of_mem e] at a;have:0<m.length:=List.length_pos_of_mem e;rw [MN];omega
def FO{f:d->g}{l:List d}(h:l.Nodup)(i:∀x∈l,∀y∈l,f x=f y->x=y):(l.map f).Nodup:=by
 unfold List.Nodup at*
 rw [Pq];exact h.imp_of_mem λ{a b} j k c e=>c<|i a j b k e
def dy (pool:List D):List Str->List aR->List aR
 |[],ms=>ms
 |b::r,ms=>dy pool r (ms.flatMap λc=>pool.map λt=>c++[(b,t)])
theorem xV {a:ZZ}:∀(B:ZY) (done:ZY) (d:List aR),(done++B).Nodup->(∀c,c∈d↔∃V,c=ar V done/\∀b∈done,V b∈a)->∀c,c∈dy a B d↔∃V,c=ar V (done++B)/\∀b∈done++B,V b∈a
 |[],done,d,_,h,c=>by rw [MP];exact h c
 |b::r,done,d,j,h,c=>by
  have k:((done++[b])++r).Nodup:=by rw [M5];exact j
  have l:b∉done:=by
   rw [OT] at j;exact λz=>j.2.2 b z b Mc rfl
  have f:=xV r (done++[b]) (d.flatMap λc=>a.map λt=>c++[(b,t)]) k (λc=>by
   rw [Nm];constructor
   .rintro ⟨m,n,o⟩
    obtain ⟨t,p,rfl⟩:=Mx.mp o;obtain ⟨V,rfl,i⟩:=(h m).mp n;refine ⟨λx=>if x=b then t else V x,?_,λx g=>?_⟩
    .unfold ar;rw [MK];congr 1
     .exact ML λx g=>by
       have:x≠b:=λz=>l (z▸g);simp [this]
     .simp
    .show (if x=b then t else V x)∈a;by_cases e:x=b
     .rw [Mp e];exact p
     .rw [Mj e]
      rcases MB.mp g with z|z
      .exact i x z
      .exact absurd (MG.mp z) e
   .rintro ⟨V,rfl,i⟩
    refine ⟨ar V done,(h _).mpr ⟨V,rfl,λx g=>i x<|Ms _ g⟩,Mx.mpr ⟨V b,i b<|Ml _<|MG.mpr rfl,?_⟩⟩;unfold ar;rw [MK];rfl) c
  rw [M5] at f;exact f
def FP{B:ZY}(d:B.Nodup):c∈dy a B [[]]↔∃V,c=ar V B/\∀b∈B,V b∈a:=
 xV B [] [[]] d (λc=>by
  rw [MG];constructor
  .rintro rfl;exact ⟨λ_=>.av,rfl,λb e=>nomatch e⟩
  .rintro ⟨V,rfl,_⟩;rfl) c
theorem xS:∀{l:List d} {i j:Nat} {x:d},l.Nodup->l[i]?=some x->l[j]?=some x->i=j
 |[],i,_,_,_,h,_=>by simp at h
 |y::r,0,0,x,_,_,_=>rfl
 |y::r,0,j+1,x,c,a,b=>by
  have a:y=x:=Mu a;have b:r[j]?=some x:=b;exact absurd (a▸Mi b) (Oi.mp c).1
 |y::r,i+1,0,x,c,a,b=>by
  have b:y=x:=Mu b;have a:r[i]?=some x:=a;exact absurd (b▸Mi a) (Oi.mp c).1
 |y::r,i+1,j+1,x,c,a,b=>M7 (· +1)<|xS (l:=r) (Oi.mp c).2 a b
def GK{V:Str->D}(h:dY b V c d):∀a∈c,a.map (a6 V)∈b:=by
 intro a f;have:some (a.map<|a6 V)∈d.map (λi=>b[i]?):=by rw [h];exact Mx.mpr ⟨a,f,rfl⟩
 obtain ⟨i,_,e⟩:=Mx.mp this;exact Mi e
end FL
namespace FL
open PySem L2
theorem zV:∀(l:ZZ) (B C:ZY),(∀b∈C,b∈B\/b∈C)->ak (B++C.filter (λb=> !decide (b∈B))) l=B++(ak C l).filter (λb=> !decide (b∈B))
 |[],B,C,_=>rfl
 |x::r,B,C,h=>by
  show ak (cu (B++C.filter λb=> !decide (b∈B)) x) r=B++(ak (cu C x) r).filter _;have e:cu (B++C.filter λb=> !decide (b∈B)) x=B++(cu C x).filter λb=> !decide (b∈B):=by
   unfold cu;by_cases f:aB x=true
   .by_cases c:x.name∈B
    .rw [Mj (by simp [c])]
     by_cases a:x.name∈C
     .rw [Mj (by simp [a])]
     .rw [Mp (by simp [a,f]),Nu]
      simp [c]
    .by_cases a:x.name∈C
     .rw [Mj (by simp [a,c]),Mj (by simp [a])]
     .rw [Mp (by simp [a,c,f]),Mp (by simp [a,f]),Nu,M5]
      simp [c]
   .have d:aB x=false:=by simpa using f
    rw [Mj (by simp [d]),Mj (by simp [d])]
  rw [e];exact zV r B (cu C x) λb g=>.inr g
def ng (l:ZZ)(B:ZY):ak B l=B++(ak [] l).filter (λb=> !decide (b∈B)):=by
 have:=zV l B [] λb a=>nomatch a;rw [QH,MP] at this;exact this
def dv (B:List Str)(st:aR):List D:=(st.filter λp=>decide (p.1∈B)).map (·.2)
def restOf (B:List Str)(st:aR):aR:=st.filter λp=> !decide (p.1∈B)
def vC (U:Str->D)(C:ZY)(p:Str->Bool):(ar U C).filter (λq=>p q.1)=ar U (C.filter p):=by
 unfold ar;rw [NK];rfl
def Lj (U:Str->D)(B C:ZY):ar U (B++C)=ar U B++ar U C:=MK
def eX:cB []:=λb a=>nomatch a
def IS{V:Str->D}(k:cB B)(i:jp a):bC a f (ar V B)=(bC a f []).bind λst=>if dv B st=((ak [] a).filter λb=>decide (b∈B)).map V then some (ar V B++restOf B st) else none:=by
 cases e:bC a f [] with
 |none=>
  show _=none;cases l:bC a f (ar V B) with
  |none=>rfl
  |some S=>
   obtain ⟨g,_,_,rfl⟩:=jb k l;have:=wJ (V:=g) (B:=[]) eX i.1 i.2;rw [show ar g []=[] from rfl,e] at this;cases this
 |some st=>
  obtain ⟨U,_,rfl,rfl⟩:=jb (V:=λ_=>.av) (B:=[]) eX e;show _=if dv B (ar U<|ak [] a)=_ then some (ar V B++restOf B (ar U<|ak [] a)) else none;have r:dv B (ar U<|ak [] a)=((ak [] a).filter λb=>decide<|b∈B).map U:=by
   unfold dv;rw [vC U _ λb=>decide<|b∈B];unfold ar;rw [MU];rfl
  have s:restOf B (ar U<|ak [] a)=ar U ((ak [] a).filter λb=> !decide (b∈B)):=vC U _ λb=> !decide (b∈B);rw [r,s];by_cases j:((ak [] a).filter λb=>decide<|b∈B).map U=((ak [] a).filter λb=>decide<|b∈B).map V
  .rw [Mp j]
   have m:∀b∈ak [] a,b∈B->U b=V b:=λb c n=>List.map_inj_left.mp j b<|Mq.mpr ⟨c,My n⟩
   let g:Str->D:=λb=>if b∈B then V b else U b;have o:a.map (a6 U)=a.map (a6 g):=ML λx p=>by
    unfold a6;by_cases e:aB x=true
    .rw [Mp e,Mp e]
     have t:=mU p e (B:=[]);show U x.name=if x.name∈B then V x.name else U x.name;by_cases z:x.name∈B
     .rw [Mp z];exact m _ t z
     .rw [Mj z]
    .rw [Mj e,Mj e]
   have u:ar V B=ar g B:=C4 λb c=>by show V b=if b∈B then V b else U b;rw [Mp c]
   rw [o,u,wJ k i.1 i.2,ng,Lj];congr 2;exact C4 λb c=>by
    have:b∉B:=by simpa using (Mq.mp c).2
    show (if b∈B then V b else U b)=U b;rw [Mj this]
  .rw [Mj j]
   cases l:bC a (a.map<|a6 U) (ar V B) with
   |none=>rfl
   |some S=>
    obtain ⟨g,o,_,v⟩:=jb k l;refine absurd ?_ j;refine ML λb c=>?_;obtain ⟨q,d⟩:=Mq.mp c;have d:=MC d;rcases vx q with z|⟨x,p,h,rfl⟩
    .cases z
    .have:=List.map_inj_left.mp v x p;unfold a6 at this;rw [Mp h,Mp h] at this;rw [this,o _ d]
abbrev dr:=List D×(Nat×aR)
def eC (a:List D)(facts:List (List D))(B:List Str):List dr:=facts.zipIdx.filterMap λp=>(bC a p.1 []).map λst=>(dv B st,(p.2,restOf B st))
def oF (of:List dr)(key:List D)(w:aH):List aH:=((of.filter λo=>decide (o.1=key)).map λo=>(w.1++o.2.2,w.2++[o.2.1]))
def xh{V:Str->D}(k:cB B)(m:jp a):oF (eC a c B) (((ak [] a).filter λb=>decide (b∈B)).map V) (ar V B,d)=ext c a (ar V B,d):=by
 unfold oF eC ext;show List.map (λo:dr=>(ar V B++o.2.2,d++[o.2.1])) _=List.filterMap (λ(p:ZZ×Nat)=>(bC a p.1<|ar V B).map λS=>(S,d++[p.2])) c.zipIdx;generalize c.zipIdx=l;induction l with
 |nil=>rfl
 |cons p r i=>
  have j:=IS (f:=p.1) (V:=V) k m;cases e:bC a p.1 [] with
  |none=>
   have g:bC a p.1 (ar V B)=none:=by rw [j,e];rfl
   rw [O0 (f:=λ(p:ZZ×Nat)=>(bC a p.1 []).map λst=>(dv B st,(p.2,restOf B st))) (a:=p) (show Option.map _ (bC a p.1 [])=none by rw [e];rfl),O0 (f:=λ(p:ZZ×Nat)=>(bC a p.1<|ar V B).map λS=>(S,d++[p.2])) (a:=p) (show Option.map _ (bC a p.1<|ar V B)=none by rw [g];rfl)];exact i
  |some st=>
   rw [Qq (f:=λ(p:ZZ×Nat)=>(bC a p.1 []).map λst=>(dv B st,(p.2,restOf B st))) (a:=p) (b:=(dv B st,(p.2,restOf B st))) (show Option.map _ (bC a p.1 [])=_ by rw [e];rfl),N4];by_cases h:dv B st=((ak [] a).filter λb=>decide<|b∈B).map V
   .have g:bC a p.1 (ar V B)=some (ar V B++restOf B st):=by rw [j,e];exact Mp h
    rw [Qq (f:=λ(p:ZZ×Nat)=>(bC a p.1<|ar V B).map λS=>(S,d++[p.2])) (a:=p) (b:=(ar V B++restOf B st,d++[p.2])) (show Option.map _ (bC a p.1<|ar V B)=_ by rw [g];rfl),Mp<|My h,MW,i]
   .have g:bC a p.1 (ar V B)=none:=by rw [j,e];exact Mj h
    rw [O0 (f:=λ(p:ZZ×Nat)=>(bC a p.1<|ar V B).map λS=>(S,d++[p.2])) (a:=p) (show Option.map _ (bC a p.1<|ar V B)=none by rw [g];rfl),Mj (by simpa using h),i]
structure jM where
 atom:List D
 ok:aR->Bool
def oW (facts:List (List D))(s:jM)(w:aH):List aH:=(ext facts s.atom w).filter λw=>s.ok w.1
def fu (facts:List (List D)):List jM->List aH->List aH
 |[],ws=>ws
 |s::r,ws=>fu facts r (ws.flatMap (oW facts s))
theorem yC (b:ZW):∀(c:ZW),fw b c []=[]
 |[]=>rfl
 |a::r=>yC b r
theorem AF (b:ZW):∀(e:List jM) (c d:List aH),fu b e (c++d)=fu b e c++fu b e d
 |[],_,_=>rfl
 |a::r,c,d=>by
  show fu b r ((c++d).flatMap _)=fu b r (c.flatMap _)++fu b r (d.flatMap _);rw [Pr,AF b r]
theorem yp (b:ZW):∀(c:List jM),fu b c []=[]
 |[]=>rfl
 |a::r=>yp b r
theorem zd (a:ZW)(b:List jM):∀c:List aH,fu a b c=c.flatMap λw=>fu a b [w]
 |[]=>yp a b
 |w::r=>by
  have:fu a b (w::r)=fu a b [w]++fu a b r:=AF a b [w] r;rw [this,zd a b r];rfl
theorem CV (c:ZW)(p:aR->Bool):∀(z:ZW) (B:ZY) (j:List aH),cB B->(∀V g:Str->D,∀C,cB (B++C)->(∀b∈B,g b=V b)->p (ar g (B++C))=p (ar V B))->(∀w∈j,∃V,w.1=ar V B)->fw c z (j.filter λw=>p w.1)=(fw c z j).filter λw=>p w.1
 |[],_,j,_,_,_=>rfl
 |a::r,B,j,n,s,o=>by
  show fw c r ((j.filter _).flatMap<|ext c a)=(fw c r<|j.flatMap<|ext c a).filter _;have d:∀w∈j,∀x∈ext c a w,∃V g,w.1=ar V B/\x.1=ar g (ak B a)/\∀b∈B,g b=V b:=λw l x k=>by
   obtain ⟨V,e⟩:=o w l;obtain ⟨S,L⟩:=x;obtain ⟨i,f,_,A,_⟩:=lG.mp k;rw [e] at A;obtain ⟨g,E,G,_⟩:=jb n A;exact ⟨V,g,e,G,E⟩
  have H:(j.filter λw=>p w.1).flatMap (ext c a)=(j.flatMap<|ext c a).filter λw=>p w.1:=by
   clear o;revert d;induction j with
   |nil=>exact λ_=>rfl
   |cons w t u=>
    intro d;have u:=u λw o=>d w<|L8 _ o
    rw [Nf,Nu,<-u,N4];have m:∀x∈ext c a w,p x.1=p w.1:=λx k=>by
     obtain ⟨V,g,e,I,h⟩:=d w Mc x k;rw [e,I,ng];exact s V g _ (by rw [<-ng];exact iN n) h
    by_cases q:p w.1=true
    .rw [Mp q,Nf]
     congr 1;exact (Nc.mpr λx k=>by rw [m x k];exact q).symm
    .rw [Mj q]
     have:(ext c a w).filter (λw=>p w.1)=[]:=N0.mpr λx k=>by rw [m x k];exact q
     rw [this,OC]
  rw [H];refine CV c p r (ak B a) _ (iN n) (λV g C v h=>?_) λx k=>?_
  .have y:cB (B++(ak [] a).filter λb=> !decide (b∈B)):=by rw [<-ng];exact iN n
   rw [ng] at h v⊢;rw [M5] at v⊢;rw [s V g _ v λb J=>h b<|Ms _ J,s V V _ y λb _=>rfl]
  .obtain ⟨w,l,k⟩:=Nm.mp k;obtain ⟨V,g,_,e,_⟩:=d w l x k;exact ⟨g,e⟩
theorem Ag (a:ZW):∀(d:List jM) (B:ZY) (c:List aH),cB B->(∀w∈c,∃V,w.1=ar V B)->
  (∀(i:Nat) (s:jM),d[i]?=some s->∀V g:Str->D,∀C,cB (a8 B ((d.take (i+1)).map (·.atom))++C)->(∀b∈a8 B ((d.take (i+1)).map (·.atom)),g b=V b)->s.ok (ar g (a8 B ((d.take (i+1)).map (·.atom))++C))=s.ok (ar V (a8 B ((d.take (i+1)).map (·.atom)))))->
  fu a d c=(fw a (d.map (·.atom)) c).filter λw=>d.all λs=>s.ok w.1
 |[],_,c,_,_,_=>by
  show c=c.filter λw=>true;exact (Nc.mpr λ_ _=>rfl).symm
 |s::r,B,c,j,p,n=>by
  show fu a r (c.flatMap<|oW a s)=(fw a (r.map (·.atom))<|c.flatMap<|ext a s.atom).filter λw=>s.ok w.1&&r.all λs=>s.ok w.1;have q:c.flatMap (oW a s)=(c.flatMap<|ext a s.atom).filter λw=>s.ok w.1:=by
   rw [List.filter_flatMap];rfl
  have h:∀x∈c.flatMap (ext a s.atom),∃V,x.1=ar V (ak B s.atom):=λx h=>by
   obtain ⟨w,k,h⟩:=Nm.mp h;obtain ⟨V,e⟩:=p w k;obtain ⟨S,y⟩:=x;obtain ⟨i,f,_,o,_⟩:=lG.mp h;rw [e] at o;obtain ⟨g,z,u,_⟩:=jb j o;exact ⟨g,u⟩
  have l:=n 0 s rfl;have l:∀V g:Str->D,∀C,cB (ak B s.atom++C)->(∀b∈ak B s.atom,g b=V b)->s.ok (ar g<|ak B s.atom++C)=s.ok (ar V<|ak B s.atom):=l;rw [q,Ag a r (ak B s.atom) _ (iN j) (λx m=>h x (Mq.mp m).1) λi t v=>n (i+1) t v,CV a s.ok _ (ak B s.atom) _ (iN j) l h,Qd];exact NR λw _=>Bool.and_comm _ _
end FL
namespace FL
open PySem L2
def ny:D->Prop
 |.str s=>s.length<=sizeLine/\∃c r,s.cps.toList=c::r
 |_=>True
def vY:List D->D->Prop:=λds d=>∃x,ds=[x]/\ny x/\d=.bl (aB x)
def Fk{s:Str}(h:s.cps.toList=c::r):s.cps.getD 0 0=c:=by
 have:s.cps.getD 0 0=s.cps.toList.getD 0 0:=by simp
 rw [this,h];rfl
def oM:Option aR->D
 |some F=>.lst (pairD F)
 |none=>.av
def xU:List D->D->Prop:=λds d=>∃A Fc ps,ds=[.tup A,.tup Fc,.lst (pairD ps)]/\(∀x∈A,x.sc=true/\ny x)/\(∀y∈Fc,y.sc=true)/\(∀p∈ps,p.2.sc=true)/\A.length<=100/\ps.length<=100/\A≠[]/\Fc≠[]/\d=oM (bC A Fc ps)
def Jv{j:Nat}(h:(kR A a)[j]?=some d):∃x y,A[j]?=some x/\a[j]?=some y/\d=.tup [x,y]/\(A.zip a).drop j=(x,y)::(A.zip a).drop (j+1):=by
 unfold kR at h;rw [Pu] at h;cases b:A[j]? with
 |none=>rw [b] at h;cases h
 |some x=>
  cases c:a[j]? with
  |none=>rw [b,c] at h;cases h
  |some y=>
   rw [b,c] at h;refine ⟨x,y,rfl,rfl,(Mu h).symm,?_⟩;have e:(A.zip a)[j]?=some (x,y):=by
    show (List.zipWith Prod.mk A a)[j]?=_;rw [Pu,b,c]
   obtain ⟨f,g⟩:=Ma.mp e;rw [N9 f,g]
structure dF (A:List D):Prop where
 sc:∀x∈A,x.sc=true/\ny x
 ne:A≠[]
 len:A.length<=100
def aJ (A:List D):Bool:=decide (A.headD .av=.str "less")||decide (A.headD .av=.str "unlike")
def rL:List D->D->Prop:=λds d=>∃A,ds=[.tup A]/\dF A/\d=.bl (aJ A)
def fY (B:List Str):D:=.lst (B.map D.str)
def oN:List D->D->Prop:=λds d=>∃A,ds=[.tup A]/\dF A/\d=fY (ak [] A)
def holdsD (r:Str)(a b:D):Bool:=if r="unlike" then !decide (a=b) else match a,b with
 |.int i,.int j=>decide (i<j)
 |_,_=>false
def holdsA:List D->Bool
 |[.str r,a,b]=>holdsD r a b
 |_=>false
def rj:List D->D->Prop:=λds d=>∃r a b,ds=[.tup [.str r,a,b]]/\a.sc=true/\b.sc=true/\d=.bl (holdsD r a b)
def cb (as:List (List D)):D:=.tup (as.map D.tup)
def cF (as:List (List D)):D:=.lst (as.map D.tup)
def vn:List D->D->Prop:=λds d=>∃as,ds=[cb as]/\(∀a∈as,dF a)/\as.length<=100/\d=cF (as.filter λa=> !aJ a)
def qf:List D->D->Prop:=λds d=>∃as,ds=[cb as]/\(∀a∈as,dF a)/\as.length<=100/\d=cF (as.filter aJ)
def pO:List D->D->Prop:=λds d=>∃l ps,ds=[.tup l,.lst (pairD ps)]/\(∀x∈l,x.sc=true)/\(∀p∈ps,p.2.sc=true)/\l.length<=1000/\d=.tup (l.map (cj ps))
def eh (B:List Str):List (aM×V):=B.map λb=>(Sum.inr b,V.bl true)
def Do (B:ZY)(n:Str):cf (eh B) (Sum.inr n) (V.bl true)=eh (if n∈B then B else B++[n]):=by
 have a:∀B:ZY,((eh B).any λc=>decide<|c.1=(Sum.inr n:aM))=decide (n∈B):=by
  intro B;induction B with
  |nil=>rfl
  |cons b r d=>
   show (decide ((Sum.inr b:aM)=Sum.inr n)||(eh r).any λc=>decide<|c.1=(Sum.inr n:aM))=_;rw [d];have:decide ((Sum.inr b:aM)=Sum.inr n)=decide (b=n):=by simp
   rw [this];by_cases e:b=n
   .simp [e]
   .have f:¬n=b:=λz=>e z.symm;simp [e,f]
 unfold cf;rw [a B];by_cases e:n∈B
 .rw [My e,Mp rfl,Mp e]
  unfold eh;rw [MU];refine ML λb _=>?_;show (if (Sum.inr b:aM)=Sum.inr n then ((Sum.inr b:aM),V.bl true) else (Sum.inr b,V.bl true))=(Sum.inr b,V.bl true)
  split<;>rfl
 .rw [MH e,Mj Mm,Mj e]
  unfold eh;rw [MK];rfl
def DB(h:aB x=true):cu B x=if x.name∈B then B else B++[x.name]:=by
 unfold cu;by_cases e:x.name∈B
 .rw [Mj (by simp [e]),Mp e]
 .rw [Mp (by simp [e,h]),Mj e]
def wy(h:aB x=false):cu B x=B:=by unfold cu;rw [Mj (by simp [h])]
def Cy {l:ZZ}{j:Nat}{x:D}(h:l[j]?=some x):ak [] (l.take (j+1))=cu (ak [] (l.take j)) x:=by
 unfold ak;rw [MX,h,Nx];rfl
def kj (l:ZZ):∀B:ZY,(ak B l).length<=B.length+l.length:=by
 induction l with
 |nil=>intro B;exact Mh _
 |cons x r a=>
  intro B;have b:=a<|cu B x
  have c:(cu B x).length<=B.length+1:=by
   unfold cu;split
   .rw [Mv];exact Mh _
   .omega
  show (ak (cu B x) r).length<=_;rw [MN];omega
section
variable {σ:St}{δ:Dn}{M:List Addr}{H:Hp}{ty tz:TE}{E:Ends}{K:PySem.W.Frag}
def wn(l:au M H)(f:ax (but H M) σ δ)(k:i<δ.length)
  (q:∀p a c,(∀j:Nat,j≠i->a[j]?=σ[j]?)->a[i]?=some (some (.ref p))->p∉M->c p=some (.dK [])->au (p::M) c->(∀b o,H b=some o->b≠p/\c b=some o)->ax (but c (p::M)) a (δ.set i none)->E.nx a c):eF u8 (cx i) E σ H:=λp d=>by
 have m:=f.len;refine q p _ _ (λj h=>Me<|M6 h) (Mr Z4) (l.fresh d) aO (l.upd.cons aO) (λb o e=>?_)<|uY f d
 have g:b≠p:=dm e d;exact ⟨g,by rw [aD g];exact e⟩
def A7{i:Nat}(l:au M H)(s:ax (but H M) σ δ)(j:p∈M)(e:σ[i]?=some (some (.ref p)))(t:H p=some (.dK (eh B)))(J:B.length<1000)(h:ae ty (but H M) σ (.str n))(w:ae tz (but H M) σ (.bl true))
  (k:∀c,(∀b o,b≠p->H b=some o->c b=some o)->au M c->c p=some (.dK (eh (if n∈B then B else B++[n])))->ax (but c M) σ δ->E.nx σ c):p9 (aU i) ty tz E σ H:=by
 refine w M H (ab.refl _) l _ λv x a y=>⟨.ref p,e,h M x (a.but M) (l.same a) _ λu r g z=>?_⟩
 have m:=g _ _<|a _ _ t
 have A:=(fO (d:=.str n) rfl z).2;have C:=y.jm;have f:(eh B).length<sizeLine:=by unfold eh;rw [Md];exact cq Z4
 refine ⟨p,_,rfl,by rw [A];exact gi.k (k:=Sum.inr n) m f,?_⟩;have G:but (upd r p (.dK<|cf (eh B) (Sum.inr n) v)) M=but r M:=dN j;refine k _ (λb o I q=>by rw [aD I];exact g _ _<|a _ _ q) (l.same<|a.trans g).upd ?_ ?_
 .rw [aO,C,Do]
 .rw [G];exact s.same<|a.trans g
end
theorem zu:∀(B:ZY),aE H (B.map V.str) (B.map D.str)
 |[]=>.nil
 |b::r=>.cons (.str b)<|zu r
end FL
namespace FL
open PySem L2
section
variable {X:Cx}{x:Str}{e a b tg iter:Expr}{te ta tb:TE}{pos pos':Pos}{op:CmpOp}{r:R2}{wi:TI}{g:TG}{ts:TS}{body:List Stmt}
def bo (i:Nat)(c:X.N.Nodup)(d:X.N[i]?=some x:=by rfl)(f:Loc X.env.scope x:=by first|exact Or.inl rfl|exact Or.inr rfl)(h:X.fn x=true\/X.env.scope.names.lookup x=some .local:=by first|exact .inl rfl|exact .inr rfl|assumption):PG X (.Name x pos) (cx i):=KD c d f h
def bj (i:Nat)(c:X.N.Nodup)(d:PE X e te)(f:X.N[i]?=some x:=by rfl)(h:Loc X.env.scope x:=by first|exact Or.inl rfl|exact Or.inr rfl)(j:swapsWith e (some (.Name x pos')) pos.line X.env=pure false:=by rfl)(k:X.fn x=true\/X.env.scope.names.lookup x=some .local:=by first|exact .inl rfl|exact .inr rfl|assumption):
  PS X (.Assign [.Name x pos'] e pos) (eF te (cx i)):=Cn c f h d j k
def iB (c:cO X (compareOp op) r)(d:PE X a ta)(f:PE X b tb)(h:behindInMarks op b=false:=by first|exact yX _|rfl):PE X (.Compare a [op] [b] pos) (bJ r ta tb):=DC c d f h
def cp (c:cO X (compareOp op) r)(d:PE X a ta)(f:PE X b tb)(h:behindInMarks op b=false:=by first|exact yX _|rfl):PT X (.Compare a [op] [b] pos) (oO (bJ r ta tb)):=Ei c d f h
end
def jR (x:Str):[x].Nodup:=by simp
end FL
namespace a5
open PySem L2 FL
def cg (i:Nat):Stmt:=PySem.Challenge.pw_factloom_k07_whole_told_and_no_more.main.body.getD i (.Pass ⟨0,0,0,0⟩)
abbrev ua:Stmt:=cg 3
abbrev qW:Stmt:=cg 4
abbrev sk:Stmt:=cg 5
abbrev rR:Stmt:=cg 6
abbrev rA:Stmt:=cg 7
abbrev s_holds:Stmt:=cg 8
abbrev ux:Stmt:=cg 15
abbrev sx:Stmt:=cg 16
abbrev tO:Stmt:=cg 17
abbrev ug:Stmt:=cg 18
abbrev qI:Stmt:=cg 19
abbrev tI:Stmt:=cg 21
abbrev tq:Stmt:=cg 22
abbrev sj:Stmt:=cg 23
abbrev rV:Stmt:=cg 27
abbrev rn:Stmt:=cg 28
abbrev sK:Stmt:=cg 29
abbrev sv:Stmt:=cg 31
abbrev sr:Stmt:=cg 32
abbrev uG:Stmt:=cg 33
abbrev uB:Stmt:=cg 34
abbrev qT:Stmt:=cg 35
abbrev uy:Stmt:=cg 36
abbrev qU:Stmt:=cg 37
abbrev tf:Stmt:=cg 38
abbrev uh:Stmt:=cg 39
abbrev uu:Stmt:=cg 40
abbrev sP:Stmt:=cg 41
abbrev rZ:Stmt:=cg 42
abbrev rG:Stmt:=cg 43
abbrev uz:Stmt:=cg 44
abbrev tG:Stmt:=cg 45
abbrev rB:Stmt:=cg 46
abbrev ud:Stmt:=cg 47
abbrev mQ:Stmt:=cg 48
def ip:Stmt->Nat->Stmt
 |.ClassDef (body:=b) ..,j=>b.getD j (.Pass ⟨0,0,0,0⟩)
 |s,_=>s
abbrev mX:Stmt:=ip (cg 20) 0
abbrev mZ:Stmt:=ip (cg 20) 1
abbrev nC:Stmt:=ip (cg 20) 2
abbrev mh:Stmt:=ip (cg 20) 3
abbrev md:Stmt:=ip (cg 24) 0
abbrev nz:Stmt:=ip (cg 24) 1
abbrev mI:Stmt:=ip (cg 24) 2
abbrev mr:Stmt:=ip (cg 24) 3
abbrev mH:Stmt:=ip (cg 24) 4
abbrev mK:Stmt:=ip (cg 26) 0
abbrev my:Stmt:=ip (cg 26) 1
abbrev nc:Stmt:=ip (cg 26) 2
section
variable {P:Program}{w:World}{K:PySem.W.Frag}{mg:Str->Option Value}{base:Heap}{f:Addr}{fd:FuncData}
def LQ:bW ["part"] ["part"] (bb ua):=⟨rfl,rfl,rfl,Z9,rfl,Z9,Z9⟩
def Fo (F:aF K "is_blank" "is_blank" ua f fd)(B:Bl mg):bq P w K mg base bA 1 f fd ["part"] (bv vY):=by
 refine F.ok LQ (d7 (n:=1) λi d j=>by obtain ⟨x,e,_⟩:=j;rw [e];rfl) λk A g s H p Q E t h=>?_;obtain ⟨M,i,d,a,l,⟨x,rfl,m,rfl⟩,q⟩:=h;refine ⟨_,(ay<|bm<|oq (fX B (pv 0) B.str OH)<|oY<|La<|aS (pv 0) aC),?_⟩;have E0:=hX l ["part"];cases x with
 |str s=>
  obtain ⟨o,c,r,e⟩:=m;exact eR a ((fN (b:=true) (kA (d:=.str s)<|aI E0 rfl) λ_=>EG<|EL o (c:=c) (by rw [e];exact gO) (aI E0 rfl) aq).eq (by show D.bl (true&&_)=D.bl (Txt.isupper _);rw [Fk e,PD])) q
 |av=>exact eR a (fN (b:=false) (c:=false) (kA (d:=.av)<|aI E0 rfl) λz=>nomatch z) q
 |bl b=>exact eR a (fN (b:=false) (c:=false) (kA (d:=.bl b)<|aI E0 rfl) λz=>nomatch z) q
 |int b=>exact eR a (fN (b:=false) (c:=false) (kA (d:=.int b)<|aI E0 rfl) λz=>nomatch z) q
 |tup b=>exact eR a (fN (b:=false) (c:=false) (kA (d:=.tup b)<|aI E0 rfl) λz=>nomatch z) q
 |lst b=>exact eR a (fN (b:=false) (c:=false) (kA (d:=.lst b)<|aI E0 rfl) λz=>nomatch z) q
def Ax:bW ["atom","setting","things"] ["atom","setting"] (bb rR):=⟨rfl,rfl,rfl,Z9,rfl,Z9,Z9⟩
def Ke (F:aF K "filled" "filled" rR f fd)(B:Bl mg):bq P w K mg base bA 1 f fd ["atom","setting"] (bv pO):=by
 refine F.ok Ax (d7 (n:=2) λz d C=>by obtain ⟨l,b,e,_⟩:=C;rw [e];rfl) λG A c s H I Q E t h=>?_;obtain ⟨M,z,d,u,J,⟨l,b,rfl,L,x,N,rfl⟩,q⟩:=h;have hu:=dQ t;have g:=fJ t;refine ⟨_,(az (bj 2 Ax.nd<|uK B<|pv 1)
   (ay<|bm<|sT B<|fm ["things","part"] [2] 1 (cr<|pv 0) (λ_ _ _ _ _=>(bo 1 (show (["things","part"]:ZY).Nodup from by decide+kernel))) (λ_ _ _ _ _=>je) λ_ _ _ _ _=>(sR g (pv 0) (pv 1) (pv 1) ⟨rfl,rfl,rfl,rfl⟩))),?_⟩
 have E0:=hX J ["atom","setting","things"];obtain ⟨v,O,T⟩:=E0.get 1 _ rfl;obtain ⟨a,U,rfl,Y,h2⟩:=T.dX;refine ⟨.ref a,O,a,U,bI b,rfl,aN.of (aw Y).2,uD x h2,λp y=>?_⟩;have j:=da y (.dK<|b9 []<|bI b);have k:=u.fresh y;have E1:=(E0.same j).off 2<|some (.ref p)
 have m:but (upd H p (.dK<|b9 []<|bI b)) M p=some (.dK<|b9 []<|bI b):=by rw [bn k];exact aO
 have o:((L2.start ["atom","setting","things"] I).set 2<|some<|V.ref p)[2]?=some (some (.ref p)):=Mr (by rw [E0.len];show 2<3;decide);refine eR (u.same j) (qP<|aa ((gP (i:=1) (p:=λ_=>true) (f:=cj b) (h9<|aI E1 rfl) (λG' v d _ _ _=>jw) (λG' v d sG hd _ r=>Bo (a:=p) ?_ (sG _ _ m) (L d hd) x<|cL ?_ r)<|cq N).eq ?_) ag) λv H2 s2 r2=>q v H2 (j.trans s2) r2
 .simp [a9,o]
 .simp [a9]
 .rw [Nc.mpr λ_ _=>rfl]
def pJ:bW ["atom","fact","setting","things","further","part","thing"] ["atom","fact","setting"] (bb rA):=⟨rfl,rfl,rfl,Z9,rfl,Z9,Z9⟩
def F3 (F:aF K "matched" "matched" rA f fd)(B:Bl mg)(l:aT P w K mg base 1 "is_blank" ["part"] (bv vY)):bq P w K mg base bA 2 f fd ["atom","fact","setting"] (bv xU):=by
 refine F.ok pJ (d7 (n:=3) λds d q0=>by obtain ⟨_,_,_,e,_⟩:=q0;rw [e];rfl) λch A bc s H vs Q E hr h=>?_;obtain ⟨M,ds,d,lv,rs,⟨At,Fc,u,rfl,hA,ac,ao,bd,cl,nA,nF,rfl⟩,q⟩:=h;have hu:=dQ hr;have af:=fJ hr;refine ⟨_,(az (bQ (fC (cp (fD (by exact hu)) (aS (pv 0) aC)<|aS (pv 1) aC)<|gY<|cp (fD (by exact hu)) (cA B<|pv 0)<|cA B<|pv 1).pt (ay<|bm vi) ce)
   (az (bj 3 pJ.nd<|uK B<|pv 2)
   (az (bj 4 pJ.nd<|w6 B<|pv 2)
   (az (cI MD rfl (Fd B.zip<|ai (pv 0)<|ai (pv 1) ap) (kP rfl<|e9 (bo 5 pJ.nd)<|e9 (bo 6 pJ.nd) jG) (ay (bQ (jT (cG<|bB l hr<|ai (pv 5) ap)<|jV<|jS<|pB (by exact af) (pv 5)<|pv 3).pt (az (lq af (pv 3) (pv 5) (pv 6) rfl)
   (ay<|iK (pv 4)<|ef<|ai (pv 5)<|ai (pv 6) ap))<|ay<|bQ (cp (fD (by exact hu)) (sR af (pv 3) (pv 5) (pv 5) ⟨rfl,rfl,rfl,rfl⟩)<|pv 6) (ay<|bm vi) ce)))
   (ay<|bm<|pv 4))))),?_⟩
 have E0:=hX rs ["atom","fact","setting","things","further","part","thing"];obtain ⟨N,A',rfl⟩:=OP nA;obtain ⟨O,F',rfl⟩:=OP nF;have as:=eO (hA N Mc).1<|ac O Mc
 refine ik lv E0 (fK (ck<|mW as.1 as.2 (bK (d:=N) gO (aI E0 rfl) aq)<|bK (d:=O) gO (aI E0 rfl) aq) λ_=>ck<|iA (fA<|aa (aI E0 rfl) ag)<|fA<|aa (aI E0 rfl) ag) (λe H1 s1 l1 E1=>?_) λe H1 s1 l1 E1=>nx ?_
 .have hm:oM (bC (N::A') (O::F') u)=.av:=by
   unfold bC;rw [Mj];rfl;rintro ⟨z1,z2⟩;have z1:N=O:=z1;rw [z2,z1] at e;simp at e
  rw [hm] at q;exact q .av H1 s1 .av
 have v:N=O/\(N::A').length=(O::F').length:=by
  rw [ON] at e;refine ⟨by simpa using e.1,?_⟩;have:=e.2;simp only [Bool.not_eq_false',Of] at this;exact Int.ofNat.inj this
 have hm:oM (bC (N::A') (O::F') u)=oM (f7 u<|(N::A').zip (O::F')):=by
  unfold bC;rw [Mp];exact v
 rw [hm] at q;have C:=v.2;generalize N::A'=m at hA bd q C E1;generalize O::F'=r at ac q C E1;refine LK (i:=3) (k:=2) l1 E1 Z8 rfl ao λp co H2 o2 i2 n2 h2 l2 k2 E2=>?_;refine GX (i:=4) (k:=2) l2 E2 Z8 rfl λa bi bk H3 o3 i3 n3 h3 r3 l3 k3 E3=>?_;have bl:bk[3]?=some (some (.ref p)):=(o3 3 Z1).trans i2;obtain ⟨a0,bs⟩:=k3 _ _ h2;have a1:ab H H2:=s1.trans λb o e=>(k2 b o e).2;have bt:ab H H3:=a1.trans λb o e=>(k3 b o e).2;have bx:H p=none:=none_of s1 k2;have b0:H a=none:=none_of a1 k3;refine gZ (M:=a::p::M) (ds:=kR m r) (JQ C<|aa (aI E3 rfl)<|aa (aI E3 rfl) ag) l3 λH4 s4=>?_;refine ⟨λj g G=>∃Fr ws,f7 u (m.zip r)=f7 Fr ((m.zip r).drop j)/\(∀t∈Fr,t.2.sc=true)/\Fr.length<=u.length+j/\g[3]?=some (some (.ref p))/\g[4]?=some (some (.ref a))/\G p=some (.dK<|b9 []<|bI Fr)/\G a=some (.lst ws)/\aE (but G (a::p::M)) ws (pairD Fr)/\ab H G/\au (a::p::M) G/\ab (but H4 (a::p::M)) (but G (a::p::M))/\ax (but G (a::p::M)) g [some (.tup m),some (.tup r),some (.lst<|pairD u),none,none,none,none],
  ⟨u,bi,rfl,ao,by omega,bl,i3,s4 _ _ bs,s4 _ _ h3,r3.mono<|s4.but _,bt.trans s4,l3.same s4,ab.refl _,E3.same s4⟩,λj g G q1=>by obtain ⟨_,_,_,_,_,_,_,_,_,_,_,x,y,_⟩:=q1;exact ⟨y,x⟩,?_,?_⟩
 .rintro j d x g G b6 hd ⟨Fr,ws,c,cv,b7,j3,j4,hp,ha,ra,S0,l',S',E'⟩ L rx
  obtain ⟨x1,Y,ex,ey,rfl,aj⟩:=Jv hd;have am:=hA x1<|Mi ex;have an:=ac Y<|Mi ey;have hj:j<m.length:=(Ma.mp ex).1;refine mo rx λv1 v2 r1 r2=>?_;have E5:ax (but b6 (a::p::M)) ((g.set 5<|some v1).set 6<|some v2) [some (.tup m),some (.tup r),some (.lst<|pairD u),none,none,some x1,some Y]:=((E'.same L).set 5 r1).set 6 r2;have l5:=l'.same L;have b3:((g.set 5<|some v1).set 6<|some v2)[3]?=some (some (.ref p)):=by rw [Me Z1,Me Z1];exact j3
  have b4:((g.set 5<|some v1).set 6<|some v2)[4]?=some (some (.ref a)):=by rw [Me Z1,Me Z1];exact j4
  have T:=L _ _ hp;have a2:=L _ _ ha;have a3:=ra.mono<|L.but (a::p::M)
  rw [aj] at c;refine uZ l5 E5 (Ju (TV.of l5<|cH<|bM ⟨x1,rfl,am.2,rfl⟩<|aa (aI E5 rfl) ag) λ_=>GR b3 T am.1 l5<|aI E5 rfl) (λe H6 U l6 E6=>?_) λe H6 U l6 E6=>?_
  .obtain ⟨n,rfl⟩:∃n,x1=.str n:=by
    cases x1 with
    |str n=>exact ⟨n,rfl⟩
    |_=>simp [aB] at e
   have I:f7 u (m.zip r)=f7 (Fr++[(n,Y)]) ((m.zip r).drop<|j+1):=by
    rw [c];show (fW Fr (.str n) Y).bind _=_;unfold fW;rw [Mp e];rfl
   refine AK (n:=n) (y:=Y) l6 E6 Z8 b3 (U _ _ T) an Z4 (aI E6 rfl) (aI E6 rfl) λH7 k7 l7 h7 E7=>?_;have a4:ab (but H6 (a::p::M)) (but H7 (a::p::M)):=mJ Z8 k7;refine qZ l7 E7 (a:=a) Z8 b4 (k7 _ _ (M6 a0)<|U _ _ a2) (a3.mono<|(U.but _).trans a4) (by simp only [pairD,Md];exact cq Z4) (aQ<|aa (aI E7 rfl)<|aa (aI E7 rfl) ag) λv8 H8 k8 l8 h8 r8 E8=>?_;have b8:ab (but H7 (a::p::M)) (but H8 (a::p::M)):=mJ Z8 k8;exact ⟨Fr++[(n,Y)],_,I,xw cv an,by rw [Mv,Nv];omega,b3,b4,k8 _ _ a0 h7,h8,by rw [Gy];exact r8,mN (mN (S0.trans<|L.trans U) bx k7) b0 k8,l8,S'.trans<|((L.trans U).but _).trans<|a4.trans b8,(E8.drop 5).drop 6⟩
  .refine uZ l6 E6 (Fi b3 (U _ _ T) am.1 an cv l6 (aI E6 rfl)<|aI E6 rfl) (λe2 H7 s7 l7 E7=>?_) (λe2 H7 s7 l7 E7=>nx ?_)
   .have I:f7 u (m.zip r)=none:=by
     rw [c];show (fW Fr x1 Y).bind _=_;unfold fW;rw [e,Mj Mm,Mj (by simpa using e2)];rfl
    rw [I] at q;exact q .av H7 (S0.trans<|L.trans<|U.trans s7) .av
   .have I:f7 u (m.zip r)=f7 Fr ((m.zip r).drop<|j+1):=by
     rw [c];show (fW Fr x1 Y).bind _=_;unfold fW;rw [e,Mj Mm,Mp (by simpa using e2)];rfl
    have J:=U.trans s7;exact ⟨Fr,ws,I,cv,by omega,b3,b4,J _ _ T,J _ _ a2,a3.mono<|J.but _,S0.trans<|L.trans J,l7,S'.trans<|(L.trans J).but _,(E7.drop 5).drop 6⟩
 .rintro g G ⟨Fr,ws,c,cv,b7,j3,j4,hp,ha,ra,S0,l',S',E'⟩
  have kS:(m.zip r).drop (kR m r).length=[]:=Ps (by simp [kR]);rw [kS] at c;rw [c] at q;refine ⟨.ref a,j4,q (.ref a) G S0 ?_⟩;have cd:a∉M:=λz=>n3<|L8 _ z
  exact me cd ha (ra.mono (eA λb hb=>by
   rcases Mn.mp hb with rfl|hb
   .exact Mc
   .exact L8 _<|L8 _ hb))
def Ir:bW ["atom"] ["atom"] (bb qW):=⟨rfl,rfl,rfl,Z9,rfl,Z9,Z9⟩
def LO(F:aF K "is_guard" "is_guard" qW f fd)(B:Bl mg)(g:mg "LESS"=some k/\RelV (.str "less") k)(c:mg "UNLIKE"=some l/\RelV (.str "unlike") l):bq P w K mg base bA 1 f fd ["atom"] (bv rL):=by
 refine F.ok Ir (d7 (n:=1) λu d v=>by obtain ⟨x,e,_⟩:=v;rw [e];rfl) λy A j s H I Q E z h=>?_;obtain ⟨M,u,d,C,G,⟨J,rfl,m,rfl⟩,q⟩:=h;have o:=dQ z;refine ⟨_,(ay<|bm<|GH (iB (fP (by exact o)) (aS (pv 0) aC)<|wN rfl g.1 g.2)<|oY<|iB (fP (by exact o)) (aS (pv 0) aC)<|wN rfl c.1 c.2),?_⟩;have E0:=hX G ["atom"];obtain ⟨i,L,rfl⟩:=OP m.ne;have p:=(m.sc i Mc).1;have r:=eO (a:=i) (b:=.str "less") p rfl;have t:=eO (a:=i) (b:=.str "unlike") p rfl;exact eR C (EW (jl r.1 r.2 (bK (d:=i) gO (aI E0 rfl) aq) aK) λ_=>jl t.1 t.2 (bK (d:=i) gO (aI E0 rfl) aq) aK) q
def vT:bW ["atom","found","part"] ["atom"] (bb sk):=⟨rfl,rfl,rfl,Z9,rfl,Z9,Z9⟩
def G4 (F:aF K "blanks_in" "blanks_in" sk f fd)(B:Bl mg)(c:aT P w K mg base 1 "is_blank" ["part"] (bv vY)):bq P w K mg base bA 2 f fd ["atom"] (bv oN):=by
 refine F.ok vT (d7 (n:=1) λds d q0=>by obtain ⟨x,e,_⟩:=q0;rw [e];rfl) λaj A I s H vs Q E J h=>?_;obtain ⟨M,ds,d,lv,rs,⟨k,rfl,hA,rfl⟩,q⟩:=h;have hu:=dQ J;have L:=fJ J;refine ⟨_,(az (bj 1 vT.nd pT)
   (az (cI MD rfl (cr<|pv 0) (bo 2 vT.nd)<|ay<|bQ (cG<|bB c J<|ai (pv 2) ap) (ay<|lq L (pv 1) (pv 2) cV rfl) ce)
   (ay<|bm<|D6 B<|pv 1))),?_⟩
 have E0:=hX rs ["atom","found","part"];refine wn (i:=1) lv E0 Z8 λp am H1 o1 i1 n1 h1 l1 k1 E1=>?_;have N:ab H H1:=λb o e=>(k1 b o e).2;have O:H p=none:=none_of (ab.refl H) k1;refine gZ (M:=p::M) (ds:=k) (h9<|aI E1 rfl) l1 λH2 z=>?_;refine ⟨λj g l=>g[1]?=some (some (.ref p))/\l p=some (.dK<|eh<|ak []<|k.take j)/\ab H l/\au (p::M) l/\ab (but H2 (p::M)) (but l (p::M))/\ax (but l (p::M)) g [some (.tup k),none,none],
  ⟨i1,z _ _ h1,N.trans z,l1.same z,ab.refl _,E1.same z⟩,λj g l q1=>by obtain ⟨_,_,_,x,y,_⟩:=q1;exact ⟨y,x⟩,?_,?_⟩
 .rintro j d x g l T C ⟨U,t,u,l',Y,E'⟩ m rx
  have hx:=hA.sc d<|Mi C
  have hj:j<k.length:=(Ma.mp C).1;have E3:ax (but T (p::M)) (g.set 2<|some x) [some (.tup k),none,some d]:=(E'.same m).set 2 rx;have b1:(g.set 2<|some x)[1]?=some (some (.ref p)):=(Me Z1).trans U;refine ik (l'.same m) E3 (cH<|bM ⟨d,rfl,hx.2,rfl⟩<|aa (aI E3 rfl) ag) (λe H4 r l4 G=>?_) λe H4 r l4 G=>nx ?_
  .have ac:=iD e;have v:=kj (k.take j) [];rw [N6,MT] at v;refine A7 (n:=d.name) l4 G Z8 b1 (r _ _<|m _ _ t) (by have:=hA.len;omega) ((aI G rfl).eq ac) (lS (b:=true)) λH5 k5 l5 h5 E5=>?_;have S5:ab (but H4 (p::M)) (but H5 (p::M)):=mJ Z8 k5;refine ⟨b1,?_,mN (u.trans<|m.trans r) O k5,l5,Y.trans<|((m.trans r).but _).trans S5,E5.drop 2⟩;rw [Cy C,DB e];exact h5
  .refine ⟨b1,?_,u.trans<|m.trans r,l4,Y.trans<|(m.trans r).but _,G.drop 2⟩
   rw [Cy C,wy e];exact r _ _<|m _ _ t
 .rintro g l ⟨U,t,u,l',Y,E'⟩
  rw [MQ<|Mh _] at t;refine ⟨.ref p,U,p,_,rfl,.inl t,λa ha=>q (.ref a) _ (u.trans<|da ha _) ?_⟩;have e1:(eh<|ak [] k).map (λkv=>kV kv.1)=(ak [] k).map V.str:=by
   unfold eh;rw [MU];rfl
  rw [e1];have af:a∉M:=(lv.same u).fresh ha;refine .lst (vs:=(ak [] k).map V.str) ?_ (zu _);rw [bn af];exact aO
def sc_holds:bW ["guard","first","second"] ["guard"] (bb s_holds):=⟨rfl,rfl,rfl,Z9,rfl,Z9,Z9⟩
def ok_holds(F:aF K "holds" "holds" s_holds f fd)(B:Bl mg)(g:mg "UNLIKE"=some G/\RelV (.str "unlike") G):bq P w K mg base bA 1 f fd ["guard"] (bv rj):=by
 refine F.ok sc_holds (d7 (n:=1) λds d q0=>by obtain ⟨_,_,_,e,_⟩:=q0;rw [e];rfl) λac A l s H vs Q E hr h=>?_;obtain ⟨M,ds,d,lv,rs,⟨r,a,b,rfl,I,J,rfl⟩,q⟩:=h;have L:=dQ hr;refine ⟨_,(az (bj 1 sc_holds.nd<|aS (pv 0) aC)
   (az (bj 2 sc_holds.nd<|aS (pv 0) aC)
   (az (bQ (cp (fP (by exact L)) (aS (pv 0) aC)<|wN rfl g.1 g.2) (ay<|bm<|iB (fD (by exact L)) (pv 1)<|pv 2) ce)
   (ay<|bm<|oq (fX B (pv 1) B.int Pw)<|oq (fX B (pv 2) B.int Pw)<|oY<|iB ka (pv 1)<|pv 2)))),?_⟩
 have E0:=hX rs ["guard","first","second"];refine xP lv E0 (bK (d:=a) rfl (aI E0 rfl) aq) λaf H1 N l1 O=>?_;refine xP l1 O (bK (d:=b) rfl (aI O rfl) aq) λm H2 T l2 U=>?_;have cv:=eO I J;refine ik l2 U (ck<|jl (d1:=.str r) (d2:=.str "unlike") rfl (MI _) (bK (d:=.str r) rfl (aI U rfl) aq) aK) (λe Y o p k=>?_) λe Y o p k=>nx ?_
 .have t:r="unlike":=by simpa using e
  refine eR p (mW cv.1 cv.2 (aI k rfl)<|aI k rfl) λv u x y=>q v u (N.trans<|T.trans<|o.trans x) ?_;unfold holdsD;rw [Mp t];exact y
 .have t:¬r="unlike":=by simpa using e
  have C:ae (uk (cM (ji K)<|bu (aU 1)<|bu (tC (.ty "int")) bL)<|uk (cM (ji K)<|bu (aU 2)<|bu (tC (.ty "int")) bL)<|bJ (gu λi j=>.bl<|decide<|i<j) (aU 1)<|aU 2) (but Y M) m (.bl<|holdsD r a b):=by
   unfold holdsD;rw [Mj t];cases a with
   |int i=>
    cases b with
    |int j=>exact fN (b:=true) (c:=decide<|i<j) (oE (d:=.int i)<|aI k rfl) λ_=>fN (b:=true) (oE (d:=.int j)<|aI k rfl) λ_=>kD (aI k rfl)<|aI k rfl
    |str j=>exact fN (b:=true) (c:=false) (oE (d:=.int i)<|aI k rfl) λ_=>fN (b:=false) (c:=false) (oE (d:=.str j)<|aI k rfl) λz=>nomatch z
    |_=>exact absurd J (by simp [D.sc])
   |str i=>exact (fN (b:=false) (c:=false) (oE (d:=.str i)<|aI k rfl) λz=>nomatch z)
   |_=>exact absurd I (by simp [D.sc])
  exact eR p C λv u x y=>q v u (N.trans<|T.trans<|o.trans x) y
def yh (p:D->Bool)(g:ZZ->Bool)(b:ZW)(h:∀a∈b,p (.tup a)=g a):((b.map D.tup).filter p).map (λd=>d)=(b.filter g).map D.tup:=by
 rw [OD,NK];congr 1;exact NR h
def uC:D->Bool
 |.tup A=>aJ A
 |_=>false
def EM:bW ["body"] ["body"] (bb ux):=⟨rfl,rfl,rfl,Z9,rfl,Z9,Z9⟩
def JD (F:aF K "askers_in" "askers_in" ux f fd)(B:Bl mg)(b:aT P w K mg base 1 "is_guard" ["atom"] (bv rL)):bq P w K mg base bA 2 f fd ["body"] (bv vn):=by
 refine F.ok EM (d7 (n:=1) λk d l=>by obtain ⟨x,e,_⟩:=l;rw [e];rfl) λm A c s H I Q E o h=>?_;obtain ⟨M,k,d,t,u,⟨g,rfl,y,J,rfl⟩,q⟩:=h;refine ⟨_,(ay<|bm<|fm ["atom"] [] 1 (cr<|pv 0) (λ_ _ _ _ _=>(bo 0<|jR _)) (λ_ _ _ _ _=>(io<|dA<|cG<|jf b o<|ai (pv 0) ap)) λ_ _ _ _ _=>(pv 0)),?_⟩;have E0:=hX u ["body"];refine eR t (ae.eq (gP (caps:=a9 [] 1) (i:=0) (p:=λd=> !uC d) (f:=λd=>d) (h9 (ds:=g.map D.tup)<|aI E0 rfl) (λz v d C j r=>?_) (λz v d C j _ r=>cL ?_ r) (by rw [Md];exact cq Z4)) ?_) q
 .obtain ⟨a,G,rfl⟩:=Mx.mp j;exact dB<|cH<|bM (d:=.bl<|uC (.tup a)) ⟨a,rfl,y a G,rfl⟩<|aa (cL (by simp [a9]) r) ag
 .simp [a9]
 .rw [yh _ (λa=> !aJ a) g λa _=>rfl]
  rfl
def FK:bW ["body"] ["body"] (bb sx):=⟨rfl,rfl,rfl,Z9,rfl,Z9,Z9⟩
def GI (F:aF K "guards_in" "guards_in" sx f fd)(B:Bl mg)(b:aT P w K mg base 1 "is_guard" ["atom"] (bv rL)):bq P w K mg base bA 2 f fd ["body"] (bv qf):=by
 refine F.ok FK (d7 (n:=1) λk d l=>by obtain ⟨x,e,_⟩:=l;rw [e];rfl) λm A c s H I Q E o h=>?_;obtain ⟨M,k,d,t,u,⟨g,rfl,y,J,rfl⟩,q⟩:=h;refine ⟨_,(ay<|bm<|fm ["atom"] [] 1 (cr<|pv 0) (λ_ _ _ _ _=>(bo 0<|jR _)) (λ_ _ _ _ _=>(io<|cG<|jf b o<|ai (pv 0) ap)) λ_ _ _ _ _=>(pv 0)),?_⟩;have E0:=hX u ["body"];refine eR t (ae.eq (gP (caps:=a9 [] 1) (i:=0) (p:=uC) (f:=λd=>d) (h9 (ds:=g.map D.tup)<|aI E0 rfl) (λz v d C j r=>?_) (λz v d C j _ r=>cL ?_ r) (by rw [Md];exact cq Z4)) ?_) q
 .obtain ⟨a,G,rfl⟩:=Mx.mp j;exact cH<|bM (d:=.bl<|uC (.tup a)) ⟨a,rfl,y a G,rfl⟩<|aa (cL (by simp [a9]) r) ag
 .simp [a9]
 .rw [yh _ aJ g λa _=>rfl]
  rfl
end
end a5
namespace FL
open PySem L2
inductive Da where
 |d (x:D)
 |k (kvs:List (aM×V))
def rM (H:Hp)(v:V):Da->Prop
 |.d x=>al H v x
 |.k kvs=>∃a,v=.ref a/\H a=some (.dK kvs)
inductive kT (H:Hp):List V->List Da->Prop
 |nil:kT H [] []
 |cons {v:V} {x:Da} {vs:List V} {xs:List Da}:rM H v x->kT H vs xs->kT H (v::vs) (x::xs)
theorem kT.length:∀{a:List V} {b:List Da},kT H a b->a.length=b.length
 |_,_,.nil=>rfl
 |_,_,.cons _ r=>M7 (· +1) r.length
def oJ (t:TA)(G:Hp)(σ:St)(xs:List Da):Prop:=∀M H,ab G (but H M)->au M H->∀Q:List V->Hp->Prop,(∀vs H',ab H H'->kT (but H' M) vs xs->Q vs H')->t σ H Q
def iL (R:List Da->D->Prop):Sp:=λvs H Q _=>∃M xs d,au M H/\kT (but H M) vs xs/\R xs d/\∀v H',ab H H'->al (but H' M) v d->Q v H'
section
variable {G:Hp}{σ:St}{ta:TE}{t:TA}{d:D}{xs:List Da}
def pH:oJ bL G σ []:=λM H s l Q k=>k [] H (ab.refl _) .nil
def pf (c:ae ta G σ d)(e:oJ t G σ xs):oJ (bu ta t) G σ (.d d::xs):=
 λM H s l Q k=>c M H s l _ λv f a g=>e M f (s.trans<|a.but M) (l.same a) _ λj h b i=>k _ h (a.trans b) (.cons (show rM _ v (.d d) from g.mono<|b.but M) i)
def qE{i:Nat}(e:σ[i]?=some (some (.ref a)))(f:G a=some (.dK b))(g:oJ t G σ xs):oJ (bu (aU i) t) G σ (.k b::xs):=
 λM H s l Q k=>⟨.ref a,e,g M H s l _ λm h c j=>k _ h c (.cons ⟨a,rfl,(c.but M) _ _<|s _ _ f⟩ j)⟩
def o0{R:List Da->D->Prop}(b:R xs d)(h:oJ t G σ xs):ae (iY (iL R) [] E t) G σ d:=
 λM H s l Q k=>h M H s l _ λi j a c=>⟨M,xs,d,l.same a,by rw [MP];exact c,b,λv e f g=>k v e (a.trans f) g⟩
end
def xr{R:List Da->D->Prop}(c:∀a d,R a d->a.length=n):∀b H Q E,iL R b H Q E->b.length=n:=λb H Q E f=>by obtain ⟨M,a,d,l,r,e,k⟩:=f;rw [r.length];exact c a d e
def Seen:HO->Bool
 |.lst _=>true
 |.tup _=>true
 |_=>false
mutual
theorem al.fi {H:Hp}{M:List Addr}{a:Addr}{o:HO}(ha:H a=some o)(hs:Seen o=false):∀{v:V} {d:D},al (but H M) v d->al (but H (a::M)) v d
 |_,_,.av=>.av
 |_,_,.bl b=>.bl b
 |_,_,.int b=>.int b
 |_,_,.str b=>.str b
 |_,_,.tup (a:=c) h r=>by
  refine .tup ?_ (aE.fi ha hs r)
  obtain ⟨h1,h2⟩:=aw h
  rw [bn]
  ·exact h2
  ·intro z
   rcases mem_cons.mp z with z|z
   ·rw [z,ha] at h2
    cases h2
    cases hs
   ·exact h1 z
 |_,_,.lst (a:=c) h r=>by
  refine .lst ?_ (aE.fi ha hs r)
  obtain ⟨h1,h2⟩:=aw h
  rw [bn]
  ·exact h2
  ·intro z
   rcases mem_cons.mp z with z|z
   ·rw [z,ha] at h2
    cases h2
    cases hs
   ·exact h1 z
theorem aE.fi {H:Hp}{M:List Addr}{a:Addr}{o:HO}(ha:H a=some o)(hs:Seen o=false):∀{vs:List V} {ds:List D},aE (but H M) vs ds->aE (but H (a::M)) vs ds
 |_,_,.nil=>.nil
 |_,_,.cons h r=>.cons (al.fi ha hs h) (aE.fi ha hs r)
end
theorem ax.fi(h:ax (but H M) b c)(f:H a=some o)(g:Seen o=false):ax (but H (a::M)) b c:=⟨h.len,λi d q=>let ⟨v,e,r⟩:=h.get i d q;⟨v,e,al.fi f g r⟩⟩
def dZ (B:List Str):List (aM×V):=B.zipIdx.map λp=>(Sum.inr p.1,V.int (p.2:Nat))
theorem C5:∀(B:ZY) (k:Nat) (n:Str),br ((B.zipIdx k).map λp=>((Sum.inr p.1:aM),V.int (p.2:Nat))) (Sum.inr n)=if n∈B then some (V.int ((k+B.idxOf n:Nat):Int)) else none
 |[],k,n=>by simp [br]
 |b::r,k,n=>by
  rw [Qm,MW];by_cases e:b=n
  .subst e;rw [ge rfl,Mp Mc,List.idxOf_cons_self];rfl
  .have c:¬(Sum.inr b:aM)=Sum.inr n:=λz=>e (QN z);rw [gk (by exact c),C5 r (k+1) n];by_cases a:n∈r
   .have d:(b::r).idxOf n=r.idxOf n+1:=by rw [List.idxOf_cons,show (b==n)=false from by simpa using e];rfl
    rw [Mp a,Mp<|L8 _ a,d];congr 3;omega
   .rw [Mj a,Mj (by
     intro z;rcases Mn.mp z with z|z
     .exact e z.symm
     .exact a z)]
def slot_get (B:ZY)(n:Str):br (dZ B) (Sum.inr n)=if n∈B then some (V.int (B.idxOf n:Nat)) else none:=by
 have:=C5 B 0 n;rw [Og] at this;exact this
section
variable {G:Hp}{σ:St}{ty:TE}{a:Addr}{i:Nat}{B:List Str}{n:Str}
def zO (e:σ[i]?=some (some (.ref a)))(c:G a=some (.dK (dZ B)))(h:ae ty G σ (.str n)):bg (tB (qc ty (aU i))) G σ (decide (n∈B)):=λM H s l Q k=>h M H s l _ λv f b g=>by
 have j:=b _ _ (aw<|s _ _ c).2;refine ⟨.ref a,e,a,br (dZ B)<|Sum.inr n,rfl,by rw [(fO (d:=.str n) rfl g).2];exact c6.k j,_,rfl,?_⟩;have:(br (dZ B)<|Sum.inr n).isSome=decide (n∈B):=by rw [slot_get];by_cases z:n∈B<;>simp [z]
 rw [this];exact k f b
def y3 (e:σ[i]?=some (some (.ref a)))(c:G a=some (.dK (dZ B)))(f:n∈B)(h:ae ty G σ (.str n)):ae (A3 (aU i) ty) G σ (.int (B.idxOf n:Nat)):=λM H s l Q k=>⟨.ref a,e,h M H s l _ λv g b j=>by
 have m:=b _ _ (aw<|s _ _ c).2;refine ⟨a,.int (B.idxOf n:Nat),rfl,?_,k _ g b (.int _)⟩;have:some (V.int (B.idxOf n:Nat))=br (dZ B) (Sum.inr n):=by rw [slot_get,Mp f]
 rw [this,(fO (d:=.str n) rfl j).2];exact c6.k m⟩
end
def c7 (A:List D)(B:List Str):List Nat:=((ak [] A).filter λb=>decide (b∈B)).map B.idxOf
def xi:List Da->D->Prop:=λxs d=>∃A B,xs=[.d (.tup A),.k (dZ B)]/\dF A/\d=.lst ((c7 A B).map λn=>D.int (n:Nat))
def cz (A:List D)(B:List Str):Bool:=decide ((c7 A B).length=(ak [] A).length)
def zl:List Da->D->Prop:=λxs d=>∃A B,xs=[.d (.tup A),.k (dZ B)]/\dF A/\d=.bl (cz A B)
inductive lp (G:Hp):List V->Dn->Prop
 |nil:lp G [] []
 |dat {v:V} {d:D} {vs:List V} {ds:Dn}:al G v d->lp G vs ds->lp G (v::vs) (some d::ds)
 |raw {v:V} {vs:List V} {ds:Dn}:lp G vs ds->lp G (v::vs) (none::ds)
theorem lp.get:∀{a:List V} {b:Dn},lp G a b->a.length=b.length/\∀(i:Nat) (d:D),b[i]?=some (some d)->∃v,a[i]?=some v/\al G v d
 |_,_,.nil=>⟨rfl,λi d q=>by simp at q⟩
 |_,_,.dat h t=>⟨M7 (· +1) t.get.1,λi d q=>match i,q with
  |0,q=>⟨_,rfl,by have:=Mu<|Mu q;rw [<-this];exact h⟩
  |i+1,q=>t.get.2 i d q⟩
 |_,_,.raw t=>⟨M7 (· +1) t.get.1,λi d q=>match i,q with
  |0,q=>by cases q
  |i+1,q=>t.get.2 i d q⟩
def f9 {G:Hp}{vs:List V}{ds:Dn}(h:lp G vs ds)(N:ZY):ax G (L2.start N vs) (ds++List.replicate (N.length-ds.length) none):=by
 obtain ⟨hl,hg⟩:=h.get;refine ⟨by simp [L2.start,hl],λi d q=>?_⟩;unfold L2.start;by_cases hi:i<ds.length
 .rw [ME hi] at q
  obtain ⟨v,h1,h2⟩:=hg i d q;exact ⟨v,by rw [ME (by simpa using (by omega:i<vs.length)),Mo,h1];rfl,h2⟩
 .rw [MJ (MV hi)] at q
  obtain ⟨h1,h2⟩:=Ma.mp q;simp at h2
end FL
namespace a5
open PySem L2 FL
section
variable {P:Program}{w:World}{K:PySem.W.Frag}{mg:Str->Option Value}{base:Heap}{f:Addr}{fd:FuncData}
def ve(h:kT H a [x,y]):∃v w,a=[v,w]/\rM H v x/\rM H w y:=by
 cases h with
 |cons h t=>cases t with
  |cons b c=>cases c;exact ⟨_,_,rfl,h,b⟩
def Ly:bW ["atom","slots"] ["atom","slots"] (bb tI):=⟨rfl,rfl,rfl,Z9,rfl,Z9,Z9⟩
def Fg (F:aF K "slots_of" "slots_of" tI f fd)(B:Bl mg)(G_blanks_in:aT P w K mg base 2 "blanks_in" ["atom"] (bv oN)):bq P w K mg base bA 3 f fd ["atom","slots"] (iL xi):=by
 refine F.ok Ly (xr (n:=2) λds d q0=>by obtain ⟨_,_,e,_⟩:=q0;rw [e];rfl) (λcdv A outer s H vs Q E hr h=>?_);obtain ⟨M,ds,d,lv,rs,⟨At,Bs,rfl,hA,rfl⟩,q⟩:=h;have hu1:=fJ hr;obtain ⟨v0,v1,rfl,r0,⟨a,rfl,ha⟩⟩:=ve rs;have r0:al (but H M) v0 (.tup At):=r0;refine ⟨_,(ay (bm (fm ["slots","blank"] [1] 1 (cr (bB G_blanks_in hr (ai (pv 0) ap))) (λ_ _ _ _ _=>(bo 1 (show (["slots","blank"]:ZY).Nodup from by decide+kernel))) (λ_ _ _ _ _=>(io (jS (pr (by exact hu1) (pv 1) (pv 0))))) (λ_ _ _ _ _=>(zI (by exact hu1) (pv 0) (pv 1) (λ_ _=>rfl)))))),?_⟩;have E0:ax (but H M) (L2.start ["atom","slots"] [v0,.ref a]) [some (.tup At),none]:=f9 (.dat r0 (.raw .nil)) ["atom","slots"];have hlen:=kj At [];rw [N6] at hlen;have hAl:=hA.len;refine eR lv (ae.eq (gP (caps:=a9 [1] 1) (i:=1) (p:=λd=>decide (d.name∈Bs)) (f:=λd=>.int ((Bs.idxOf d.name:Nat):Int)) (dH (ds:=(ak [] At).map D.str) (bM ⟨At,rfl,hA,rfl⟩ (aa (aI E0 rfl) ag))) (λG' v d sG hd r=>?_) (λG' v d sG hd hp r=>?_) (by rw [Md];exact cq Z4)) ?_) q
 .obtain ⟨b,hb,rfl⟩:=Mx.mp hd;exact zO (n:=b) (a:=a) (by simp [a9,L2.start]) (sG _ _ ha) (cL (by simp [a9]) r)
 .obtain ⟨b,hb,rfl⟩:=Mx.mp hd;exact y3 (n:=b) (a:=a) (by simp [a9,L2.start]) (sG _ _ ha) (MC hp) (cL (by simp [a9]) r)
 .unfold c7;rw [NK,MU,MU];rfl
def LM:bW ["guard","slots"] ["guard","slots"] (bb tq):=⟨rfl,rfl,rfl,Z9,rfl,Z9,Z9⟩
def Ku (F:aF K "is_ready" "is_ready" tq f fd)(B:Bl mg)(G_blanks_in:aT P w K mg base 2 "blanks_in" ["atom"] (bv oN))(G_slots_of:aT P w K mg base 3 "slots_of" ["atom","slots"] (iL xi)):bq P w K mg base bA 4 f fd ["guard","slots"] (iL zl):=by
 refine F.ok LM (xr (n:=2) λds d q0=>by obtain ⟨_,_,e,_⟩:=q0;rw [e];rfl) (λcdv A outer s H vs Q E hr h=>?_);obtain ⟨M,ds,d,lv,rs,⟨At,Bs,rfl,hA,rfl⟩,q⟩:=h;have hu:=dQ hr;have hu1:=fJ hr;obtain ⟨v0,v1,rfl,r0,⟨a,rfl,ha⟩⟩:=ve rs;have r0:al (but H M) v0 (.tup At):=r0;refine ⟨_,(ay (bm (iB (fP (by exact hu)) (cA B (bB G_slots_of hr (ai (pv 0) (ai (pv 1) ap)))) (cA B (bB G_blanks_in hr (ai (pv 0) ap)))))),?_⟩;have E0:ax (but H M) (L2.start ["guard","slots"] [v0,.ref a]) [some (.tup At),none]:=f9 (.dat r0 (.raw .nil)) ["guard","slots"];refine eR lv (ae.eq (lD (d9 (aa (o0 ⟨At,Bs,rfl,hA,rfl⟩ (pf (aI E0 rfl) (qE (a:=a) rfl ha pH))) ag)) (d9 (aa (bM ⟨At,rfl,hA,rfl⟩ (aa (aI E0 rfl) ag)) ag))) ?_) q;unfold cz;rw [Md,Md];congr 1;exact OU.mpr Int.ofNat_inj
end
end a5
namespace FL
open PySem L2
section
variable {G:Hp}{σ:St}{wi:TI}{tt:TT}{te:TE}{K:PySem.W.Frag}
def y6{caps:St->St}(ac:i≠j){ps:List (D×D)}{p:D×D->Bool}{f:D×D->D}(hw:Walk wi G σ (ps.map λq=>.tup [q.1,q.2]))
  (ht:∀t I L q,ab G t->q∈ps->al t I q.1->al t L q.2->bg tt t (((caps σ).set i (some I)).set j (some L)) (p q))
  (he:∀t I L q,ab G t->q∈ps->p q=true->al t I q.1->al t L q.2->ae te t (((caps σ).set i (some I)).set j (some L)) (f q)) (hz:ps.length<sizeLine):
  ae (iU wi caps (lU K 2 (iV (cx i) (iV (cx j) oh))) tt te) G σ (.lst ((ps.filter p).map f)):=λM H s l Q k=>hw M H s l _ λJ H1 s1 af B D hD=>by
 have lf:D∉M:=(l.same s1).fresh hD;have aj:ab G (but H1 M):=s.trans<|s1.but M
 have am:(ps.map λq=>FL.D.tup [q.1,q.2]).length=ps.length:=Md _;refine ⟨λm n τ u=>n=ps.length-m/\m<=ps.length/\(∀v w,(τ.set i<|some v).set j (some w)=((caps σ).set i<|some v).set j (some w))/\ab H1 u/\∃h,u D=some (.lst h)/\aE (but u (D::M)) h (((ps.take m).filter p).map f),
  ⟨ps.length,by simp,MI _,λ_ _=>rfl,da hD _,[],aO,by simpa using aE.nil⟩,?_⟩
 rintro m n τ u ⟨rfl,hj,an,N,h,y,O⟩;have hs:ab (but H1 M) (but u (D::M)):=i6 hD N;have hl:au (D::M) u:=((l.same s1).same N).cons y;by_cases C:m<ps.length
 .have hd:ps[m]?=some ps[m]:=Mb C;have dz:(ps.map λq=>FL.D.tup [q.1,q.2])[m]?=some (.tup [ps[m].1,ps[m].2]):=by rw [Mo,hd];rfl
  obtain ⟨go,gy⟩:=af m _ (D::M) u dz hs hl;refine .inr ⟨go,λT d=>(∀v w,(T.set i<|some v).set j (some w)=((caps σ).set i<|some v).set j (some w))/\ab H1 d/\∃h,d D=some (.lst h)/\aE (but d (D::M)) h (((ps.take<|m+1).filter p).map f),
   λT d q0=>by obtain ⟨a,b,c⟩:=q0;exact ⟨ps.length-(m+1),by omega,rfl,C,a,b,c⟩,λx d hy=>?_⟩
  obtain ⟨z,rx⟩:=gy x d hy;have hm:ps[m]∈ps:=NJ C;have sG:ab G (but d (D::M)):=aj.trans<|hs.trans<|z.but _;have U:=hl.same z;refine mo rx λY E r1 r2=>?_;show tt ((τ.set i<|some Y).set j<|some E) d _;rw [an Y E];have tk:(ps.take<|m+1).filter p=(ps.take m).filter p++(if p ps[m]=true then [ps[m]] else []):=by
   rw [MX,hd,Nu];congr 1;by_cases A:p ps[m]=true
   .simp [A]
   .simp [A]
  refine ht _ Y E _ sG hm r1 r2 (D::M) d (ab.refl _) U _ λH4 r=>?_;have g:∀v w,((((caps σ).set i<|some Y).set j<|some E).set i<|some v).set j (some w)=((caps σ).set i<|some v).set j (some w):=λv w=>by
   rw [List.set_comm (some E) (some v)<|M6 ac,QX,QX]
  by_cases A:p ps[m]=true
  .rw [Mp A]
   refine he _ Y E _ (sG.trans<|r.but _) hm A (r1.mono<|r.but _) (r2.mono<|r.but _) (D::M) H4 (ab.refl _) (U.same r) _ λv H5 s5 r5=>?_;have ao:H5 D=some (.lst h):=s5 _ _<|r _ _<|z _ _ y
   have as:=O.length;have a0:(((ps.take m).filter p).map f).length<=m:=by
    rw [Md];have:=MO p<|ps.take m
    rw [MT] at this;omega
   refine ⟨h,ao,by omega,g,?_,h++[v],aO,?_⟩
   .intro b o e;rw [aD<|dm e hD];exact s5 _ _<|r _ _<|z _ _<|N _ _ e
   .rw [dN Mc,tk,Mp A,MK]
    exact (O.mono<|((z.trans r).trans s5).but _).snoc r5
  .rw [Mj A]
   refine ⟨g,N.trans<|z.trans r,h,r _ _<|z _ _ y,?_⟩;rw [tk,Mj A,MP];exact O.mono<|(z.trans r).but _
 .have e:m=ps.length:=by omega
  subst e;refine .inl ⟨?_,k _ u (s1.trans N)<|me lf y ?_⟩
  .have:=B (D::M) u hs;rw [am] at this;exact this
  .rw [MQ<|Mh _] at O
   exact O
def Ez(h:ae a G σ d):ae (bJ (λx y H Q=>y=.av/\Q (.bl (!decide (x=.av))) H) a (tC .av)) G σ (.bl (!decide (d=.av))):=
 λM H s l Q k=>h M H s l _ λv b c e=>⟨rfl,by rw [IE e];exact k _ b c (.bl _)⟩
end
mutual
def D.fG:D->Bool
 |.lst _=>false
 |.tup l=>D.jr l
 |_=>true
def D.jr:List D->Bool
 |[]=>true
 |d::r=>D.fG d&&D.jr r
end
mutual
theorem al.t5 {H:Hp}{M ls:List Addr}(hl:∀a∈ls,∃vs,H a=some (.lst vs)):∀{v:V} {d:D},d.fG=true->al (but H M) v d->al (but H (ls++M)) v d
 |_,_,_,.av=>.av
 |_,_,_,.bl b=>.bl b
 |_,_,_,.int b=>.int b
 |_,_,_,.str b=>.str b
 |_,_,hn,.tup (a:=c) h r=>by
  refine .tup ?_ (aE.t5 hl hn r)
  obtain ⟨h1,h2⟩:=aw h
  rw [bn]
  ·exact h2
  ·intro z
   rcases mem_append.mp z with z|z
   ·obtain ⟨vs,e⟩:=hl c z
    rw [e] at h2;cases h2
   ·exact h1 z
 |_,_,hn,.lst _ _=>by cases hn
theorem aE.t5 {H:Hp}{M ls:List Addr}(hl:∀a∈ls,∃vs,H a=some (.lst vs)):∀{vs:List V} {ds:List D},D.jr ds=true->aE (but H M) vs ds->aE (but H (ls++M)) vs ds
 |_,_,_,.nil=>.nil
 |_,_,hn,.cons h r=>by
  have hn':=Bool.and_eq_true_iff.mp hn
  exact .cons (al.t5 hl hn'.1 h) (aE.t5 hl hn'.2 r)
end
end FL
namespace FL
open PySem L2
def nn (o:Nat×aR):D:=.tup [.int (o.1:Nat),.lst (pairD o.2)]
def fe (of:List dr)(key:List D):List dr:=of.filter λo=>decide (o.1=key)
def iC (of:List dr)(key:List D):List D:=(fe of key).map λo=>nn o.2
def cc (key:List D):List aM:=key.map D.key
def bZ (key:List D):Prop:=∀x∈key,x.sc=true
theorem qo:∀{a b:ZZ},bZ a->bZ b->cc a=cc b->a=b
 |[],[],_,_,_=>rfl
 |[],_::_,_,_,h=>by cases h
 |_::_,[],_,_,h=>by cases h
 |x::r,y::t,d,e,h=>by
  obtain ⟨f,g⟩:=Oj h;rw [(wQ (d x Mc)<|e y Mc).mp f,qo (λz c=>d z<|L8 _ c) (λz c=>e z<|L8 _ c) g]
theorem mS:∀{b:List V} {a:ZZ},bZ a->aE H b a->b=(cc a).map kV
 |_,[],_,.nil=>rfl
 |_,d::r,h,.cons c t=>by
  rw [(fO (h d Mc) c).2,mS (λx e=>h x<|L8 _ e) t];rfl
def ou (G:Hp)(p:Addr)(of:List dr):Prop:=∃kvs:List (List aM×V),G p=some (.dT kvs)/\(kvs=[]↔of=[])/\∀key,bZ key->(br kvs (cc key)=none->fe of key=[])/\∀v,br kvs (cc key)=some v->al G v (.lst (iC of key))
theorem ou.mono(e:ab G c)(h:ou G p d):ou c p d:=by
 obtain ⟨b,i,j,f⟩:=h;exact ⟨b,e _ _ i,j,λa g=>⟨(f a g).1,λv k=>((f a g).2 v k).mono e⟩⟩
def jQ {H:Hp}{M M':ZX}(h:∀a,a∈M↔a∈M'):but H M=but H M':=by
 funext b;unfold FL.but;by_cases z:b∈M
 .rw [Mp z,Mp ((h b).mp z)]
 .rw [Mj z,Mj λq=>z ((h b).mpr q)]
structure eU (H:Hp)(M:List Addr)(p:Addr)(ls:List Addr)(of:List dr):Prop where
 kvs:∃kvs:List (List aM×V),H p=some (.dT kvs)/\kvs.length<=of.length/\(kvs=[]↔of=[])/\
  (∀key,bZ key->(br kvs (cc key)=none->fe of key=[])/\∀v,br kvs (cc key)=some v->∃l vs,v=.ref l/\l∈ls/\H l=some (.lst vs)/\aE (but H (ls++p::M)) vs (iC of key))/\
  ∀key key' l,bZ key->bZ key'->br kvs (cc key)=some (.ref l)->br kvs (cc key')=some (.ref l)->key=key'
 lists:∀l∈ls,∃vs,H l=some (.lst vs)
 apart:p∉ls
def eU.JF(h:eU H M p b d)(e:∀a,a∈b++p::M↔a∈b++p::c):eU H c p b d:=by
 obtain ⟨k,l,a⟩:=h;rw [jQ e] at k;exact ⟨k,l,a⟩
def eU.rep(h:eU H M p d e)(i:p∉M)(j:∀l∈d,l∉M):ou (but H M) p e:=by
 obtain ⟨c,k,_,m,f,_⟩:=h.kvs;refine ⟨c,by rw [bn i];exact k,m,λa g=>⟨(f a g).1,λv n=>?_⟩⟩;obtain ⟨l,t,rfl,o,q,r⟩:=(f a g).2 v n;exact .lst (by rw [bn<|j l o];exact q)<|r.mono<|eA λb s=>Ml _<|L8 _ s
def Ch (b:List dr)(a:ZZ)(o:Nat×aR):fe (b++[(a,o)]) a=fe b a++[(a,o)]:=by
 unfold fe;rw [Nu];simp
def tV(c:List dr)(o:Nat×aR)(h:¬b=a):fe (c++[(b,o)]) a=fe c a:=by
 unfold fe;rw [Nu];simp [h]
def eU.same(h:eU H M p f g)(e:ab H d):eU d M p f g:=by
 obtain ⟨b,k,m,n,i,o⟩:=h.kvs;refine ⟨⟨b,e _ _ k,m,n,λa j=>⟨(i a j).1,λv q=>?_⟩,o⟩,λl r=>let ⟨c,z⟩:=h.lists l r;⟨c,e _ _ z⟩,h.apart⟩;obtain ⟨l,c,s,t,u,w⟩:=(i a j).2 v q;exact ⟨l,c,s,t,e _ _ u,w.mono<|e.but _⟩
section
variable {σ:St}{M:List Addr}{H:Hp}{ty te:TE}{E:Ends}{K:PySem.W.Frag}
def EU{to:TE}(l:au (g++p::M) H)(e:∀Q:VK,Q (.ref p) H->to σ H Q)(s:eU H M p g O)(hk:bZ key)(hz:O.length<1000)
  (h:ae ty (but H (g++p::M)) σ (.tup key)) (h2:ae te (but H (g++p::M)) σ (nn o))
  (k:∀B H',(∀a∈B,a∈g\/H a=none)->(∀a∈g,a∈B)->(∀b u,b≠p->b∉g->H b=some u->H' b=some u)->au (B++p::M) H'->eU H' M p B (O++[(key,o)])->E.nx σ H'):
  ki (nq K "list" nJ (uN to ty (kn bL)) (bu te bL)) E σ H:=by
 obtain ⟨d,g1,gn,g2,g3,g4⟩:=s.kvs;refine e _ ⟨p,rfl,.inr ⟨d,.inl g1⟩,h _ H (ab.refl _) l _ λkv H1 x rk=>⟨MI _,λf C=>?_⟩⟩;have O1:=s.same x;obtain ⟨b,bs,rfl,hb,bd⟩:=rk.fb;have as:=(aw hb).2;have bi:=mS hk bd;rw [bi] at as;have m:=da C (.lst []);have ac:=m _ _ as;have I:(upd H1 f (.lst [])) p=some (.dT d):=m _ _<|x _ _ g1;have n:p≠f:=λz=>by have:=x _ _ g1;rw [z,C] at this;cases this
 have a0:f∉g:=λz=>by
  obtain ⟨vs,q⟩:=s.lists f z;have:=x _ _ q;rw [C] at this;cases this
 have af:H f=none:=by
  cases q:H f with
  |none=>rfl
  |some u=>have:=x _ _ q;rw [C] at this;cases this
 have b0:∀v G,al G v (nn o)->al G v (nn o):=λ_ _ z=>z;cases J:br d (cc key) with
 |some v=>
  obtain ⟨y,vs,rfl,m1,m2,m3⟩:=(g3 key hk).2 v J;have a3:(upd H1 f (.lst [])) y=some (.lst vs):=m _ _<|x _ _ m2;refine ⟨.ref y,_,.inl ⟨by rw [<-J];exact c6.t I ac,rfl,_,I⟩,(show gW K "list" (.ref y) _ from .inl ⟨rfl,vs,aN.of a3⟩),?_⟩;have S1:ab H (upd H1 f (.lst [])):=x.trans m;refine h2 _ _ (S1.but _) (l.same S1) _ λv T U r5=>⟨y,vs,v,rfl,rfl,U _ _ a3,?_,?_⟩
  .rw [m3.length]
   unfold iC;rw [Md];have:=MO (λo=>decide<|o.1=key) O;exact cq (by unfold fe;omega)
  .have S5:ab H T:=S1.trans U;have bk:y∈g++p::M:=Ms _ m1;have eb:but (upd T y (.lst<|vs++[v])) (g++p::M)=but T (g++p::M):=dN bk;have a4:y≠p:=λz=>s.apart<|z▸m1
   refine k g _ (λa r=>.inl r) (λa r=>r) (λb u hb bc q=>?_) (l.same S5).upd ⟨⟨d,?_,?_,?_,λc i=>⟨λL=>?_,λv' j=>?_⟩,g4⟩,λa r=>?_,s.apart⟩
   .rw [aD λz:b=y=>bc (by rw [z];exact m1)];exact S5 _ _ q
   .rw [aD<|M6 a4];exact S5 _ _ g1
   .rw [Mv];omega
   .constructor
    .intro z;rw [z] at J;cases J
    .intro z;exact absurd z Z8
   .have ne:¬key=c:=λz=>by rw [<-z,J] at L;cases L
    rw [tV O o ne];exact (g3 c i).1 L
   .obtain ⟨N,Y,rfl,A,q2,q3⟩:=(g3 c i).2 v' j;by_cases hl:N=y
    .subst hl;have:key=c:=g4 key c N hk i J j;subst this;refine ⟨N,vs++[v],rfl,A,aO,?_⟩;rw [eb];unfold iC;rw [Ch,MK];exact (m3.mono<|S5.but _).snoc r5
    .have ne:¬key=c:=λz=>by subst z;rw [J] at j;cases j;exact hl rfl
     refine ⟨N,Y,rfl,A,by rw [aD hl];exact S5 _ _ q2,?_⟩;rw [eb];unfold iC;rw [tV O o ne];exact q3.mono<|S5.but _
   .obtain ⟨Y,q⟩:=s.lists a r;by_cases hl:a=y
    .exact ⟨_,by rw [hl];exact aO⟩
    .exact ⟨Y,by rw [aD hl];exact S5 _ _ q⟩
 |none=>
  have aj:=(g3 key hk).1 J;have am:d.length<sizeLine:=cq Z4;refine ⟨.ref f,_,.inr ⟨by rw [<-J];exact c6.t I ac,rfl,gi.t I ac am⟩,?_⟩;have an:(upd (upd H1 f (.lst [])) p (.dT<|cf d (cc key) (.ref f))) f=some (.lst []):=by rw [aD<|M6 n];exact aO
  refine ⟨(show gW K "list" (.ref f) _ from .inl ⟨rfl,[],aN.of an⟩),?_⟩;have pM:p∈g++p::M:=Ml _ Mc;have SB:ab (but H (g++p::M)) (but (upd (upd H1 f (.lst [])) p (.dT<|cf d (cc key) (.ref f))) (f::(g++p::M))):=λb u q=>by
   obtain ⟨A,q2⟩:=aw q;have ao:b≠f:=λz=>by rw [z,af] at q2;cases q2
   have bl:b≠p:=λz=>A<|z▸pM
   rw [bn (by simp only [Mn,Q2];exact ⟨ao,A⟩),aD bl];exact m _ _<|x _ _ q2
  have l4:au (f::(g++p::M)) (upd (upd H1 f (.lst [])) p (.dT<|cf d (cc key) (.ref f))):=((l.same<|x.trans m).upd).cons an;refine h2 _ _ SB l4 _ λv T U r5=>⟨f,[],v,rfl,rfl,U _ _ an,(show 0<sizeLine by decide),?_⟩
  have KH:∀b u,b≠p->H b=some u->(upd T f (.lst<|[]++[v])) b=some u:=λb u hb q=>by
   have ao:b≠f:=λz=>by rw [z,af] at q;cases q
   rw [aD ao];refine U _ _ ?_;rw [aD hb];exact m _ _<|x _ _ q
  have eb:but (upd T f (.lst<|[]++[v])) (f::(g++p::M))=but T (f::(g++p::M)):=dN Mc;have bt:ab (but H (g++p::M)) (but (upd T f (.lst<|[]++[v])) (f::(g++p::M))):=by rw [eb];exact SB.trans<|U.but _
  have eK:∀c,bZ c->br (cf d (cc key) (.ref f)) (cc c)=if c=key then some (.ref f) else br d (cc c):=λc i=>by
   rw [xf];by_cases z:c=key
   .rw [Mp z,Mp (by rw [z])]
   .rw [Mj z,Mj λw=>z<|qo i hk w]
  refine k (f::g) _ (λa r=>?_) (λa r=>L8 _ r) (λb u hb bc q=>KH b u hb q) (l4.same U).upd ⟨⟨cf d (cc key) (.ref f),?_,?_,?_,λc i=>⟨λL=>?_,λv' j=>?_⟩,λk1 k2 N a1 a2 b1 b2=>?_⟩,λa r=>?_,?_⟩
  .rcases Mn.mp r with z|z
   .exact .inr (by rw [z];exact af)
   .exact .inl z
  .rw [aD n]
   refine U _ _ ?_;exact aO
  .have:=mT d (cc key) (.ref f);rw [Mv,Nv];omega
  .constructor
   .intro z;have:=eK key hk;rw [z,Mp rfl] at this;cases this
   .intro z;exact absurd z Z8
  .rw [eK c i] at L
   by_cases z:c=key
   .rw [Mp z] at L;cases L
   .rw [Mj z] at L
    rw [tV O o λw=>z w.symm];exact (g3 c i).1 L
  .rw [eK c i] at j
   by_cases z:c=key
   .rw [Mp z] at j
    cases j;refine ⟨f,_,rfl,Mc,aO,?_⟩;rw [PL,eb,z];unfold iC;rw [Ch,aj];exact .cons r5 .nil
   .rw [Mj z] at j
    obtain ⟨N,Y,rfl,A,q2,q3⟩:=(g3 c i).2 v' j;refine ⟨N,Y,rfl,L8 _ A,KH _ _ (λw=>s.apart<|w▸A) q2,?_⟩;unfold iC;rw [tV O o λw=>z w.symm];exact q3.mono bt
  .rw [eK k1 a1] at b1
   rw [eK k2 a2] at b2;have no:∀kk,bZ kk->¬br d (cc kk)=some (.ref f):=λkk bx z=>by
    obtain ⟨N,Y,q0,A,_⟩:=(g3 kk bx).2 _ z;cases q0;exact a0 A
   by_cases z1:k1=key
   .by_cases z2:k2=key
    .rw [z1,z2]
    .rw [Mp z1] at b1
     rw [Mj z2] at b2;cases b1;exact absurd b2<|no k2 a2
   .rw [Mj z1] at b1
    by_cases z2:k2=key
    .rw [Mp z2] at b2
     cases b2;exact absurd b1<|no k1 a1
    .rw [Mj z2] at b2
     exact g4 k1 k2 N a1 a2 b1 b2
  .rcases Mn.mp r with z|z
   .exact ⟨_,by rw [z];exact aO⟩
   .obtain ⟨Y,q⟩:=s.lists a z;exact ⟨Y,KH _ _ (λw=>s.apart<|w▸z) q⟩
  .intro z;rcases Mn.mp z with z|z
   .exact n z
   .exact s.apart z
end
end FL
namespace L2
open PySem PySem.Spec PyProof.Rows
def JA (x d:Value):argsOk "max" ⟨[x],[("default",d)]⟩:=by unfold argsOk;kernel_rfl
def pK:Option Value->Array Value
 |none=> #[]
 |some v=> #[v,v]
section
variable {prog:Program}{w:World}{A:Around}{R:Result->Shared->Prop}{I:Addr}{fp wr:List Addr}{n:Nat}{P:Nat->Value->Prop}{St:Nat->Heap->Prop}
def JX (W:Walks prog w A.in1 I fp wr n P St)(u:Nat->Nat->Bool)(J:CmpOf prog w A.in1 .Gt P u)(S:Addr)(y:S∉fp)(d:Value):
  ∀(k j:Nat) (s:Shared) (B:Option Value) (c:Nat),n-j=k->j<=n->St j s.heap->(B=none->j=0)->(∀l,B=some l->0<j/\P (argBest u (j-1)) l)->
  s.heap.get? S=some {cls:=.type "list",dict:=none,data:=.seq (pK B) c,slots:= #[]}->
  (∀v C E,(n=0->v=d)->(0<n->P (argBest u (n-1)) v)->(∀b o,b∉wr->b≠S->s.heap.get? b=some o->C.get? b=some o)->R (.ok (.ret v)) {s with heap:=C,toks:=E})->
  codeAny (model prog w) A (.builtin "max.loop" ⟨[.ref I,.none,.ref S],[("default",d)]⟩) R s:=by
 have G:S∉wr:=λh=>y<|W.sub _ h
 have Y:(toString "max"++toString ".loop":String)="max.loop":=by decide
 intro k;induction k with
 |zero=>
  intro j s B c hk hj p h0 h1 x H;have ac:j=n:=by omega
  subst ac;refine O6 F.entry_max_loop ?_;rw [OK Ot _];cases B with
  |none=>
   have z:=h0 rfl;refine L9<|Nj (items:=pK none) (n:=c) (o:=_) x rfl ?_
   refine L9<|OL<|W.done s _ _ p λC E a=>?_
   refine L9<|Pd<|Mt ?_
   exact H d C E (λ_=>rfl) (λq=>by omega) λb o f _ e=>a b o f e
  |some l=>
   obtain ⟨z1,T⟩:=h1 l rfl;refine L9<|Nj (items:=pK<|some l) (n:=c) (o:=_) x rfl ?_;refine L9<|OL<|W.done s _ _ p λC E a=>?_;have i:=a S _ G x;refine L9<|PU (hz:=show 2<=sizeLine from by decide) i rfl<|L9<|OJ<|Mt ?_;exact H l _ E (λq=>by omega) (λ_=>T) λb o f g e=>(NG _ _<|M6 g).trans<|a b o f e
 |succ k ih=>
  intro j s B c hk hj p h0 h1 x H;have r:j<n:=by omega
  refine O6 F.entry_max_loop ?_;rw [OK Ot _];cases B with
  |none=>
   have z:=h0 rfl;subst z;refine L9<|Nj (items:=pK none) (n:=c) (o:=_) x rfl ?_
   refine L9<|OL<|W.item 0 s _ _ r p λv C E U m a=>?_
   have i:=a S _ G x;refine L9<|Mt<|L9<|PU i rfl ?_
   rw [Y];refine Mt ⟨OZ Ot _,ih 1 _ (some v) _ Z4 r (W.frame _ _ _ m λb f o e=>?_) (λq=>nomatch q) (λl q=>by cases q;exact ⟨by decide,U⟩) (OG _ i rfl) λL M t N O Q=>?_⟩
   .exact (NG _ _ λq:S=b=>y (by rw [q];exact f)).trans e
   .exact H L M t N O λb o f g e=>Q b o f g<|(NG _ _<|M6 g).trans<|a b o f e
  |some l=>
   obtain ⟨z1,T⟩:=h1 l rfl;refine L9<|Nj (items:=pK<|some l) (n:=c) (o:=_) x rfl ?_;refine L9<|OL<|W.item j s _ _ r p λv C E U m a=>?_;have i:=a S _ G x;have ej:j=(j-1)+1:=by omega
   have nx:argBest u j=if u j (argBest u<|j-1) then j else argBest u (j-1):=by
    conv=>lhs;rw [ej]
    rw [argBest,<-ej]
   refine L9<|Mt<|L9<|OL<|NQ<|L9<|J j (argBest u<|j-1) v l _ _ _ U T ?_
   refine L9<|NQ<|Nz ?_
   refine L9<|OJ<|Mt ?_
   cases f:u j (argBest u<|j-1) with
   |true=>
    rw [f,Mp rfl] at nx;refine L9<|PU (hz:=show 2<=sizeLine from by decide) i rfl<|L9<|OJ ?_
    rw [Y];refine Mt ⟨OZ Ot _,ih (j+1) _ (some v) _ Z4 r (W.frame _ _ _ m λb f o e=>?_) (λq=>nomatch q) (λl q=>by cases q;exact ⟨by omega,by rw [Pf,nx];exact U⟩) (OG _ i rfl) λL M t N O Q=>?_⟩
    .exact (NG _ _ λq:S=b=>y (by rw [q];exact f)).trans e
    .exact H L M t N O λb o f g e=>Q b o f g<|(NG _ _<|M6 g).trans<|a b o f e
   |false=>
    rw [f,Mj Mm] at nx;refine L9<|OJ ?_
    rw [Y];refine Mt ⟨OZ Ot _,ih (j+1) _ (some l) c Z4 r m (λq=>nomatch q) (λl q=>by cases q;exact ⟨by omega,by rw [Pf,nx];exact T⟩) i λL M t N O Q=>?_⟩;exact H L M t N O λb o f g e=>Q b o f g<|a b o f e
end
section
variable {prog:Program}{w:World}{A:Around}{E:Value->Shared->Prop}{s:Shared}
def zR{Q:ZT}
  (h:wpAny (model prog w) A.in1 (pyIter x) (λr a=>∃I f j n P St g,r=.ref I/\Walks prog w A.in1 I f j n P St/\St 0 a.heap/\(∀b∈f,b<a.heap.objs.size)/\CmpOf prog w A.in1 .Gt P g/\
   ∀v i k,(n=0->v=d)->(0<n->P (argBest g (n-1)) v)->(∀b o,b∉j->a.heap.get? b=some o->i.get? b=some o)->Q v {a with heap:=i,toks:=k}) E s):
  wpAny (model prog w) A (call (.builtin "max") [x] [("default",d)]) Q E s:=by
 have t:(toString "max"++toString ".loop":String)="max.loop":=by decide
 refine kmk_tree F.kind_max F.plain_max F.entry_max (JA x d) ?_;refine L9<|QQ (show Builtin.Builtins.bindParams "max" ["key","default"] 0 ⟨[],[("default",d)]⟩=pure [none,some d] from rfl) ?_
 refine L9<|Mt<|L9<|NB h (λr a u=>?_) λ_ _ e=>e
 obtain ⟨I,f,j,n,P,St,g,rfl,W,l,m,c,y⟩:=u;refine L9<|NF ?_;have p:a.heap.objs.size∉f:=λz=>Nr _<|m _ z;rw [t];refine Mt ⟨OZ Ot _,JX W g c a.heap.objs.size p d n 0 _ none 0 (QY n) (MI n) (W.frame _ _ _ l λb _ o e=>Mf _ e) (λ_=>rfl) (λJ q=>nomatch q) (Mz _ rfl) λv i k B C G=>?_⟩;exact y v i k B C λb o H e=>G b o H (MM<|MA e)<|Mf _ e
end
def dM (is:List Int)(n:Int):Int:=match is with
 |[]=>n
 |i::r=>r.foldl max i
theorem z8 (f:Nat->Int):∀k,f (argBest (λi j=>decide (f i>f j)) k)=((List.range k).map λi=>f (i+1)).foldl max (f 0)
 |0=>rfl
 |k+1=>by
  have a:=z8 f k;rw [List.range_succ,MK,Nx,<-a];show f (if decide (f (k+1)>f (argBest _ k))=true then k+1 else argBest _ k)=max (f<|argBest _ k) (f<|k+1);by_cases h:f (k+1)>f (argBest (λi j=>decide<|f i>f j) k)
  .rw [Mp<|My h];omega
  .rw [Mj (by simpa using h)];omega
def Cm{is:List Int}(h:0<is.length):dM is n=is.getD (argBest (λi j=>decide (is.getD i 0>is.getD j 0)) (is.length-1)) 0:=by
 have:=z8 (λi=>is.getD i 0)<|is.length-1
 rw [this];cases is with
 |nil=>simp at h
 |cons i r=>
  show r.foldl max i=_;have e:(List.range<|(i::r).length-1).map (λk=>(i::r).getD (k+1) 0)=r:=by
   refine List.ext_getElem Z8 λk b a=>?_;simp [List.getD,a]
  rw [e];rfl
section
variable {X:Cx}
def Aq (K:PySem.W.Frag)(x y:V)(H:Hp)(Q:VK):Prop:=∃a is n,x=.ref a/\y=.int n/\(aN K H a (is.map V.int)\/bz K H a (is.map V.int))/\Q (.int (dM is n)) H
def wC (K:PySem.W.Frag)(te td:TE):TE:=λσ H Q=>bu te bL σ H λvs H1=>bu td bL σ H1 λzs H2=>∃x y,vs=[x]/\zs=[y]/\Aq K x y H2 Q
def FU(T:X.calm=true)(I:Inv X l N H s)(U:RelV x u)(Y:RelV y v)(h:Aq X.K x y H Q):wpAny (model X.prog X.w) X.A (call (.builtin "max") [u] [("default",v)]) (EP X l N Q) X.xe s:=by
 obtain ⟨a,is,n,rfl,rfl,m,q⟩:=h;cases U;obtain ⟨r,rfl⟩:=Y;have t:∀{c:List Value} (d:be (is.map V.int) c) {P:Nat->Value->Prop},(∀i w,P i w↔c.toArray[i]?=some w)->CmpOf X.prog X.w X.A.in1 .Gt P (λi j=>decide<|is.getD i 0>is.getD j 0):=λ{c} d {P} hP=>CmpOf.ints_gt (λi=>is.getD i 0) λi w f=>by
  have f:=(hP i w).mp f;have f:c[i]?=some w:=by simpa using f
  have hi:i<c.length:=(Ma.mp f).1;have B:=d.length;rw [Md] at B;have k:(is.map V.int)[i]?=some (.int<|is.getD i 0):=by
   rw [Mo,Mb Z4,List.getD,Mb Z4];rfl
  obtain ⟨w',C,E⟩:=d.get k;rw [f] at C;cases C;exact E
 have done:∀{c:List Value} (d:be (is.map V.int) c) {w:Value},(c.toArray.size=0->w=.int n r)->(0<c.toArray.size->c.toArray[argBest (λi j=>decide<|is.getD i 0>is.getD j 0)<|c.toArray.size-1]?=some w)->RelV (.int<|dM is n) w:=λ{c} d {w} h0 h1=>by
  have B:=d.length;rw [Md] at B;by_cases z:is.length=0
  .have:is=[]:=NT z;subst this;rw [h0 (by rw [Mw];exact B.symm)];exact ⟨r,rfl⟩
  .have f:=h1 (by simp;omega);have f:c[argBest (λi j=>decide<|is.getD i 0>is.getD j 0)<|is.length-1]?=some w:=by
    rw [Mw,<-B] at f;simpa using f
   have hi:=(Ma.mp f).1;have k:(is.map V.int)[argBest (λi j=>decide<|is.getD i 0>is.getD j 0)<|is.length-1]?=some (.int<|dM is n):=by
    rw [Cm Z4,Mo,Mb Z4,List.getD,Mb Z4];rfl
   obtain ⟨w',C,E⟩:=d.get k;rw [f] at C;cases C;exact E
 have O:X.A.in1.handled=none:=I.ok.hd T;rcases m with m|m
 .obtain ⟨c,d,p,hz⟩:=I.list m;have g:a<s.heap.objs.size:=by obtain ⟨_,e,_⟩:=p.isList;exact MA e
  refine zR<|NE p.isList ?_
  refine ⟨s.heap.objs.size,_,_,c.toArray.size,_,_,_,rfl,Walks.list (A:=X.A.in1) O _ a (MM g) c.toArray,⟨⟨_,Mz _ rfl,rfl,rfl⟩,p.isList.push _⟩,λb k=>?_,t d λi w=>Iff.rfl,λw h' G J L M=>?_⟩
  .show b<(s.heap.push _).objs.size;rw [Nq];simp only [Mn,MR,M9] at k;rcases k with rfl|rfl
   .exact NC _
   .exact NW g
  .refine ⟨.int<|dM is n,H,I.kept (t':=G) λb o e=>M b o (λz=>?_)<|Mf _ e,done d J L,q⟩
   have:b=s.heap.objs.size:=by simpa using z
   exact absurd (MA e) (by rw [this];exact Nr _)
 .obtain ⟨c,d,p,hz⟩:=I.tuple m;have g:a<s.heap.objs.size:=by obtain ⟨_,e,_⟩:=p;exact MA e
  refine zR<|Pa p ?_
  refine ⟨s.heap.objs.size,_,_,c.toArray.size,_,_,_,rfl,Walks.tuple (A:=X.A.in1) O _ a (MM g) c.toArray,⟨⟨_,Mz _ rfl,rfl,rfl⟩,p.push _⟩,λb k=>?_,t d λi w=>Iff.rfl,λw h' G J L M=>?_⟩
  .show b<(s.heap.push _).objs.size;rw [Nq];simp only [Mn,MR,M9] at k;rcases k with rfl|rfl
   .exact NC _
   .exact NW g
  .refine ⟨.int<|dM is n,H,I.kept (t':=G) λb o e=>M b o (λz=>?_)<|Mf _ e,done d J L,q⟩
   have:b=s.heap.objs.size:=by simpa using z
   exact absurd (MA e) (by rw [this];exact Nr _)
def ye(n:X.mg "max"=none)(o:PE X e g)(q:PE X d i)(r:X.calm=true:=by rfl)(t:Gl X "max":=by rfl)(j:starEach [e] X.env=(false,eval e X.env)::starEach [] X.env:=by rfl)(f:starEach [] X.env=[]:=by rfl):
  PE X (.Call (.Name "max" p) [e] [⟨some "default",d,a⟩] c) (wC X.K g i):=by
 intro b s m H Q I h;refine N5<|jA I t n QM ?_ Z1 Z1
 have k:PA X [e] (bu g bL):=ai o ap j;have l:PK X [⟨some "default",d,a⟩] (bu i bL):=Bq q C9;refine PyProof.Rows.callWith_kw (aP (k c b s m H _ I h) λU w ⟨Y,z,A,B,C⟩=>?_) (by rw [j,f];rfl) (by rw [j,f];rfl);refine aP (l c b w m z _ A C) λws s2 E=>?_;obtain ⟨zs,H2,G,J,x,y,L,M,N⟩:=E;subst L M;obtain ⟨u,rfl,O⟩:=Qk B;obtain ⟨v,rfl,T⟩:=Qk J;exact FU r G O T N
end
end L2
namespace FL
open PySem L2
section
variable {G:Hp}{σ:St}{ta tb:TE}{K:PySem.W.Frag}{is:List Int}{n:Int}
theorem rN:∀{H:Hp} {a:List V} {is:List Int},aE H a (is.map D.int)->a=is.map V.int
 |H,_,[],.nil=>rfl
 |H,_,i::r,.cons q t=>by rw [q.eM,rN t];rfl
def KC (d:ae ta G σ (.lst (is.map D.int)))(f:ae tb G σ (.int n)):ae (wC K ta tb) G σ (.int (dM is n)):=
 λM H s l Q k=>d M H s l _ λv g b h=>f M g (s.trans<|b.but M) (l.same b) _ λy i c j=>by
  obtain ⟨a,p,rfl,m,o⟩:=h.dX;have e:=rN o;subst e;exact ⟨.ref a,y,rfl,rfl,a,is,n,rfl,j.eM,.inl<|aN.of<|c _ _ (aw m).2,k _ i (b.trans c) (.int _)⟩
def HB (d:ae ta G σ (.tup (is.map D.int)))(f:ae tb G σ (.int n)):ae (wC K ta tb) G σ (.int (dM is n)):=
 λM H s l Q k=>d M H s l _ λv g b h=>f M g (s.trans<|b.but M) (l.same b) _ λy i c j=>by
  obtain ⟨a,p,rfl,m,o⟩:=h.fb;have e:=rN o;subst e;exact ⟨.ref a,y,rfl,rfl,a,is,n,rfl,j.eM,.inr<|bz.of<|c _ _ (aw m).2,k _ i (b.trans c) (.int _)⟩
end
end FL
namespace L2
open PySem PySem.Spec PyProof.Rows
open AutoSeq1 (wpAny_loadPart')
abbrev nU (it:Addr)(n:Int):Obj:={cls:=.type "enumerate",data:=.fields #[.none,.bool false,.ref it,rawInt n,.none,.none]}
abbrev lP (l:Addr):Obj:={cls:=.type "list_iterator",data:=.fields #[.ref l,.int 0 0]}
set_option maxHeartbeats 2000000 in
def DM (l:Addr)(a:Array Value)(k:Nat)(e:Option Addr)(m:Array (Option Value))(n:Int)(t:Tok)(q:Builtin.SmallTypes.fitsIndex n=true):
  Meets (Builtin.«enumerate.__new__» ⟨[.type "enumerate",.ref l],[("start",.int n t)]⟩) (λ_ R s=>s.heap.get? l=some {cls:=.type "list",dict:=e,data:=.seq a k,slots:=m}/\
   R (.ok (.ret (.ref (s.heap.push (lP l)).objs.size))) {s with heap:=(s.heap.push (lP l)).push (nU s.heap.objs.size n)}):=
 .of_wp λi w A R s h=>by
  obtain ⟨o,g,d,p,os⟩:=s;obtain ⟨b,h⟩:=h;have j:=sub_enumerate;have f:Heap.IsList (Shared.heap ⟨o,g,d,p,os⟩) l a:=⟨_,b,rfl,k,rfl⟩
  wp_walk using wpAny_loadPart' b;refine wpAny_stack_any λst=>Mt ?_;split
  .rename_i c _ _ _ _ _
   cases (c==Value.type "enumerate")
   .wp_walk using wpAny_loadPart' b,NE f;exact ⟨_,rfl,h⟩
   .wp_walk using wpAny_loadPart' b,NE f;exact ⟨_,rfl,h⟩
  .wp_walk using wpAny_loadPart' b,NE f;exact ⟨_,rfl,h⟩
def Ft (a b:Value):checkTypeCall "enumerate" ⟨[a],[("start",b)]⟩=pure ():=by kernel_rfl
def Gz (a b:Value):checkBuiltinCall "enumerate.__new__" ⟨[.type "enumerate",a],[("start",b)]⟩=pure ():=by kernel_rfl
def Jt (c a b:Value):argsOk "object.__init__" ⟨[c,a],[("start",b)]⟩:=by unfold argsOk;kernel_rfl
section
variable {prog:Program}{w:World}{A:Around}{E:Value->Shared->Prop}{s:Shared}
def EI:Meets (Builtin.«object.__init__» ⟨[c,a],[("start",b)]⟩) (λ_ R s=>s.TypeIs c "enumerate"/\R (.ok (.ret .none)) s):=by
 refine Meets.of_wp λd w A R s e=>?_;obtain ⟨h,f⟩:=e;have i:=Qe.init.lookup;have j:=Qe.made;have g:(some "enumerate.__new__" !=some "object.__new__")=true:=by decide
 repeat (any_goals (first|(assumption)|wp_step))
 exact ⟨_,rfl,f⟩
def K5{Q:ZT}(L:s.heap.IsList l a)(M:Builtin.SmallTypes.fitsIndex n=true)
  (h:∀i,IsEnum i (s.heap.objs.size+1) s.heap.objs.size n .none->i.IsListIter s.heap.objs.size l 0->i.objs.size=s.heap.objs.size+2->(∀b o,s.heap.get? b=some o->i.get? b=some o)->Q (.ref (s.heap.objs.size+1)) {s with heap:=i}):
  wpAny (model prog w) A (call (.type "enumerate") [.ref l] [("start",.int n t)]) Q E s:=by
 obtain ⟨⟨c,m,dt,N⟩,O,y,k,z⟩:=L;simp only at y z;subst y z;have d:=Qe;obtain ⟨c0,tl,B⟩:=d.mro;have p:=d.made;have C:=d.sub;have T:=Ft (.ref l) (.int n t);refine wpAny_call<|codeAny_of_tree ?_;show wpAny _ _ (callAny (.type "enumerate") _) _ _ _;refine Mt ⟨Code.quiet_builtin _ Z9,O6 F.entry_type_call ?_⟩;rw [Around.under_plain (weight_type_call_type "enumerate" [.ref l] [("start",.int n t)])<|units_type_call_type "enumerate" [.ref l] [("start",.int n t)]];have h1:=d.notType;have h2:=d.canCreate
 repeat (any_goals (first|(assumption)|wp_step))
 have g:=DM l a k m N n t M;have q:(s.heap.push<|lP l).objs.size=s.heap.objs.size+1:=Nq ..;have G:IsEnum ((s.heap.push<|lP l).push<|nU s.heap.objs.size n) (s.heap.objs.size+1) s.heap.objs.size n .none:=by
  have:=Mz (s.heap.push<|lP l) (o:=nU s.heap.objs.size n) rfl;rw [q] at this;exact this
 refine Pk (codeAny_call_builtin d.plain F.entry_enumerate_new<|QQ (Gz _ _)<|g prog w A.in1 (wants (λj H=>j=.ref (s.heap.objs.size+1)/\H={s with heap:=(s.heap.push<|lP l).push (nU s.heap.objs.size n)}) E) s ⟨O,⟨by rw [q],rfl⟩⟩) λr H u=>?_;cases r with
 |error e=>exact u
 |ok U=>
  cases U with
  |ret j=>
   obtain ⟨rfl,rfl⟩:=u;have I:({s with heap:=(s.heap.push<|lP l).push (nU s.heap.objs.size n)}:Shared).TypeIs (.ref<|s.heap.objs.size+1) "enumerate":=⟨_,G,rfl⟩
   have Y:=d.init.lookup;have ac:=d.init.bind (.ref<|s.heap.objs.size+1)
   repeat (any_goals (first|(assumption)|wp_step))
   refine Pk (codeAny_call_builtin d.init.plain F.entry_object_init<|d.init.check _ _ _ _ _ _ _ _ I (Jt _ _ _)<|EI prog w A.in1 (wants (λr J=>r=.none/\J={s with heap:=(s.heap.push<|lP l).push (nU s.heap.objs.size n)}) E) _ ⟨I,rfl,rfl⟩) λr2 J f=>?_;cases r2 with
   |error e=>exact f
   |ok v=>
    cases v with
    |ret r=>
     obtain ⟨rfl,rfl⟩:=f
     repeat (any_goals (first|(assumption)|wp_step))
     exact h _ G ⟨_,Mf _<|Mz _ rfl,rfl,rfl⟩ (by rw [Nq,q]) λb o x=>Mf _<|Mf _ x
    |_=>exact f.elim
  |_=>exact u.elim
end
end L2
namespace L2
open PySem PySem.Spec PyProof.Rows
def JH {prog:Program}{w:World}{A:Around}{it:Addr}{fp:ZX}{m:Nat}{P:Nat->Value->Prop}{St:Nat->Heap->Prop}(D:Draws prog w A it fp m P St)(n:Nat):
  Draws prog w A it fp (n+m) (λi v=>P (i-n) v) (λi h=>n<=i/\St (i-n) h) where
 live:=λ_ h st=>D.live _ h st.2
 frame:=λ_ h h' st k=>⟨st.1,D.frame _ h h' st.2 k⟩
 item:=λi s Q E hi st k=>D.item (i-n) s Q E (by have:=st.1;omega) st.2 λx h' tk hx hst sb=>by
  have e:i+1-n=i-n+1:=by have:=st.1;omega
  exact k x h' tk hx ⟨by have:=st.1;omega,by rw [e];exact hst⟩ sb
 done:=λs Q E st k=>D.done s Q E (by have:=st.2;rwa [Ou] at this) k
def G0 {prog:Program}{w:World}{A:Around}(hh:A.handled=none)(it l:Addr)(hne:l≠it)(items:Array Value)(i:Nat)(hi:items[i]?=none):
  Draws prog w A it [it,l] i (λ_ _=>True) (λj h=>j=i/\h.IsListIter it l i/\h.IsList l items) where
 live:=λ_ _ st=>let ⟨o,ho,_⟩:=st.2.1;⟨o,ho⟩
 frame:=λ_ _ _ st k=>⟨st.1,st.2.1.at λo e=>k it Z8 o e,st.2.2.at λo e=>k l Z8 o e⟩
 item:=λj s Q E hj st k=>by have:=st.1;omega
 done:=λs Q E st k=>wpAny_nextOf_list_end hh st.2.1 st.2.2 hi k
def yB (K:PySem.W.Frag)(a:Addr)(n:Nat):It:=
 ⟨λi H=>∃xs x,aN K H a xs/\xs[i]?=some x,
  λi H v H'=>∃T x,H T=none/\v=.ref T/\H'=upd H T (.tup [.int ((n+i:Nat):Int),x])/\∀xs,aN K H a xs->xs[i]?=some x,
  λi H=>∃xs,aN K H a xs/\xs.length<=i⟩
def IV {P:Program}{w:World}{K:W.Frag}{es:List Expr}{kk:Nat}{tp:Pos}{e it a:Addr}(n:Nat)(hne:e≠it)(hea:e≠a)(hai:a≠it):
  jg P w K (.Tuple es kk tp) (yB K a n) [e,it] e (λi h=>(∃old,IsEnum h e it ((n+i:Nat):Int) old)/\h.IsListIter it a i) where
 mem:=by simp
 obj:=λi h q0 q hq=>by
  obtain ⟨⟨old,he⟩,⟨o1,e1,_,d1⟩⟩:=q0;simp only [Mn,MR,M9] at hq;rcases hq with rfl|rfl
  .exact ⟨_,he,λv z=>nomatch z⟩
  .exact ⟨_,e1,λv z=>by rw [d1] at z;cases z⟩
 keep:=λi h h' q1 k=>by obtain ⟨⟨old,he⟩,⟨o1,e1,r1⟩⟩:=q1;exact ⟨⟨old,k _ Z8 _ he⟩,⟨o1,k _ Z8 _ e1,r1⟩⟩
 item:=by
  intro X hP hw hK hc i pins s σ H E I hf st hg;subst hP hw hK;obtain ⟨xs,x,hq,hx⟩:=hg;obtain ⟨its,rv,p,hz⟩:=I.list hq;obtain ⟨u,hu,ru⟩:=rv.get hx;obtain ⟨⟨old,he⟩,hit⟩:=st;have hi:i<its.toArray.size:=by have:=(Ma.mp hu).1;simpa using this
  have D:=JH (Draws.list (prog:=X.prog) (w:=X.w) (A:=X.A.in1) (I.ok.hd hc) it a hai its.toArray) n;refine wpAny_pyNext_enum_itemD (i:=n+i) D he ⟨Nb _ _,by rw [Ou];exact ⟨hit,p.isList⟩⟩ Z4 hne (by simp [hne,hea]) λu' h' tk hu' heo st' hT hzz kp=>?_;have euu:u'=u:=by
   have h1:its.toArray[n+i-n]?=some u':=hu';rw [Ou] at h1;have h2:its[i]?=some u':=by simpa using h1
   rw [hu] at h2;exact (Mu h2).symm
  subst euu;have hit':h'.IsListIter it a (i+1):=by
   have:=st'.2.1;rw [show n+i+1-n=i+1 by omega] at this;exact this
  refine ⟨_,rfl,?_⟩;refine Qc (s:={s with heap:=h',toks:=tk+1}) heo λh2' he2 sb=>?_;have hTe:s.heap.objs.size≠e:=Ow<|MA he
  have hT2:h2'.get? s.heap.objs.size=some {cls:=.type "tuple",data:=.seq #[.int ((n+i:Nat):Int) tk,u']}:=(sb.2 _ hTe).trans hT;have kp2:∀c o,c∉[e,it]->s.heap.get? c=some o->h2'.get? c=some o:=λc o hc e'=>(sb.2 c λq=>hc (by simp [q])).trans<|kp c o (λq=>hc (by simp [q])) (λq=>hc (by simp [q])) e'
  have hTn:H s.heap.objs.size=none:=I.aA.fresh<|Mh _
  refine ⟨.ref s.heap.objs.size,upd H s.heap.objs.size (.tup [.int ((n+i:Nat):Int),x]),I.xm (t':=tk+1) hf (Mh _) kp2 ⟨by show 2<=sizeLine;decide,[.int ((n+i:Nat):Int) tk,u'],.cons ⟨_,rfl⟩ (.cons ru .nil),⟨_,hT2,rfl,_,rfl⟩⟩,rfl,⟨_,x,hTn,rfl,rfl,λys hy=>by rw [I.ub hy hq];exact hx⟩,⟨⟨u',by have:=he2;rw [show ((n+i:Nat):Int)+1=((n+(i+1):Nat):Int) by omega] at this;exact this⟩,hit'.extBut sb.extBut<|M6 hne⟩,λb' hb=>?_⟩;obtain ⟨ob,e',_⟩:∃ob,s.heap.get? b'=some ob/\True:=by
   simp only [Mn,MR,M9] at hb;obtain ⟨o1,e1,_⟩:=hit;rcases hb with rfl|rfl
   .exact ⟨_,he,trivial⟩
   .exact ⟨_,e1,trivial⟩
  rw [aD<|MM<|MA e'];exact (hf b' hb).1
 done:=by
  intro X hP hw hK hc i pins s σ H E I hf st hg;subst hP hw hK;obtain ⟨xs,hq,hx⟩:=hg;obtain ⟨its,rv,p,hz⟩:=I.list hq;obtain ⟨⟨old,he⟩,hit⟩:=st;have hl:=rv.length;exact wpAny_pyNext_enum_endD (G0 (prog:=X.prog) (w:=X.w) (A:=X.A.in1) (I.ok.hd hc) it a hai its.toArray i (by simp;omega)) he ⟨rfl,hit,p.isList⟩ λh' eb=>⟨rfl,I.wq (t':=s.toks) hf λc o hcc e=>eb c o (λq=>hcc (by simp [q])) e⟩
 self:=λA i s Q E st h=>let ⟨⟨_,he⟩,_⟩:=st;Po he h
def LS 
  (h:wpAny M A (spliced (backTo c (starEach (e::cm) b))) (λl g=>wpAny M A (evalAll ((backToKw c (keywordEach d b)).map (·.2)))
   (λm k=>wpAny M A (call (.type T) l (((backToKw c (keywordEach d b)).filterMap (·.1)).zip m)) Q E k) E g) E s)
  (n:backTo c (starEach (e::cm) b)=(false,eval e b)::backTo c (starEach cm b)) (i:(backTo c (starEach (e::cm) b)).any (·.1)=false)
  (f:(backToKw c (keywordEach d b)).all (·.1.isSome)=true:=by rfl) (j:(backToKw c (keywordEach d b)).any (·.1.isNone)=false:=by rfl):
  wpAny M A (callWith c (.type T) [] (backTo c (starEach (e::cm) b)) (backToKw c (keywordEach d b))) Q E s:=by
 have o:wpAny M A (evalArgs (.type T) true (backTo c<|starEach (e::cm) b)<|backToKw c<|keywordEach d b) (λa g=>wpAny M A (call (.type T) a.pos a.kw) Q E g) E s:=by
  rw [n] at h⊢;exact evalArgs_kwB f h
 unfold callWith;refine L9<|NQ<|NB o (λa g q=>L9<|Qn ?_) λ_ _ z=>z
 simp only [i,j,Qp];refine L9<|Mt<|L9<|NB q (λr k p=>L9<|NQ<|wpAny_point<|Mt p) λ_ _ z=>z
section
variable {X:Cx}
def Bp (K:PySem.W.Frag)(te tb:TE):TI:=λσ H R=>bu te bL σ H λvs H1=>bu tb bL σ H1 λzs H2=>∃a n,vs=[.ref a]/\zs=[.int ((n:Nat):Int)]/\n<2^62/\(∃xs,aN K H2 a xs)/\R (yB K a n) H2
def F5(N:X.mg "enumerate"=none)(O:PE X a o)(Q:PE X b r)(T:Gl X "enumerate":=by rfl)(t:starEach [a] X.env=(false,eval a X.env)::starEach [] X.env:=by rfl)(j:starEach [] X.env=[]:=by rfl):
  PI X (.Tuple J L M) (.Call (.Name "enumerate" p) [a] [⟨some "start",b,f⟩] i) (Bp X.K o r):=by
 intro d s w H R I h;have x:PA X [a] (bu o bL):=ai O ap t;have y:PK X [⟨some "start",b,f⟩] (bu r bL):=Bq Q C9;refine N5<|jA I T N P6 ?_ Z1 Z1
 refine LS (aP (x i d s w H _ I h) λus U ⟨vs,Y,I1,r1,q1⟩=>?_) (by rw [t,j];rfl) (by rw [t,j];rfl);refine aP (y i d U w Y _ I1 q1) λws g q0=>?_;obtain ⟨zs,z,m,rz,a,n,e1,e2,hn,⟨xs,hq⟩,q⟩:=q0;subst e1 e2;obtain ⟨u,rfl,ru⟩:=Qk r1;obtain ⟨v,rfl,A⟩:=Qk rz;cases ru;obtain ⟨tk,rfl⟩:=A;obtain ⟨ac,A,B,af⟩:=m.list hq;have k:a<g.heap.objs.size:=by obtain ⟨_,e,_⟩:=B.isList;exact MA e
 refine K5 B.isList (by unfold Builtin.SmallTypes.fitsIndex;simp;omega) λC E g2 hz kp=>?_;have I3:Inv X d w z {g with heap:=C}:=m.kept (t':=g.toks) kp;refine Po (s:={g with heap:=C}) E ?_;refine ⟨g.heap.objs.size+1,[g.heap.objs.size+1,g.heap.objs.size],_,_,z,rfl,I3,IV n (Nat.succ_ne_self _) (Ow<|NW k)<|MM k,⟨⟨_,E⟩,g2⟩,λc G=>?_,q⟩;have l:g.heap.objs.size<=c:=by
  simp only [Mn,MR,M9] at G;rcases G with rfl|rfl
  .exact Nb _ _
  .exact Mh _
 exact m.ig l<|m.aA.fresh l
end
end L2
namespace FL
open PySem L2
def lQ (n:Nat)(xs:List D):List D:=xs.zipIdx.map λp=>.tup [.int ((n+p.2:Nat):Int),p.1]
def Gn{j:Nat}(h:(lQ n a)[j]?=some d):∃x,a[j]?=some x/\d=.tup [.int ((n+j:Nat):Int),x]:=by
 unfold lQ at h;rw [Mo,QR] at h;cases e:a[j]? with
 |none=>rw [e] at h;cases h
 |some x=>rw [e] at h;exact ⟨x,rfl,by have:=Mu h;rw [<-this];simp⟩
def K4{K:W.Frag}(C:n<2^62)(h:ae r G m (.lst w))(E:ae t G m (.int ((n:Nat):Int))):Walk (Bp K r t) G m (lQ n w):=λM H s l R k=>h M H s l _ λv I o J=>E M I (s.trans<|o.but M) (l.same o) _ λz L p N=>by
 obtain ⟨a,c,rfl,b,f⟩:=J.dX;have b:=p.but M _ _ b;have f:=f.mono<|p.but M;refine ⟨a,n,rfl,by rw [N.eM],C,⟨c,aN.of (aw b).2⟩,k _ L (o.trans p) (λj d O Q U g q=>?_) λO Q g=>?_⟩
 .have i:=(aw<|g _ _ b).2;obtain ⟨x,Y,rfl⟩:=Gn U;obtain ⟨u,y,ru⟩:=f.get Y;refine ⟨⟨c,u,aN.of i,y⟩,λv ac q0=>?_⟩;obtain ⟨T,x',A,e,eH,hy⟩:=q0;have B:=hy c<|aN.of i
  rw [y] at B;cases B;subst e eH;refine ⟨da A _,?_⟩;exact oH q A (.cons (.int _) (.cons (ru.mono g) .nil))
 .have i:=(aw<|g _ _ b).2;refine ⟨c,aN.of i,?_⟩;rw [f.length];simp [lQ]
end FL
namespace L2
open PySem PySem.Spec PyProof.Rows
section
variable {X:Cx}{pins:List (Addr×Obj)}{σ:List (Option V)}{H H':Hp}{s:Shared}{h':Heap}
def Inv.J0{ch:ZX}(I:Inv X pins σ H s)
  (f:∀b∈ch,(b∈X.ex\/X.s₀.heap.get? b=none)/\b≠X.env.locals/\(∀x c,X.env.cells.lookup x=some c->c≠b)/\∀p∈X.pn++pins,p.1≠b)
  (keep:∀b o,b≠X.env.locals->b∉X.fs->b∉ch->s.heap.get? b=some o->H b=none->h'.get? b=some o)
  (y:∀b o,b≠X.env.locals->b∈X.fs->b∉ch->s.heap.get? b=some o->H b=none->∃O,h'.get? b=some {o with slots:=O}) (free:∀b o,b∉ch->s.heap.get? b=some o->H b=none->H' b=none)
  (B:∀b o,b∉ch->s.heap.get? b=some o->∃G,h'.get? b=some G)
  (iX:∀b A,H b=some (.tup A)->H' b=some (.tup A)) (iy:∀b o u,H b=some (.cW o u)->H' b=some (.cW o u)) (iI:∀b N,H b=some (.ky N)->∃J,H' b=some (.ky (N++J)))
  (ns:∀m,s.heap.Ns X.env.locals m->h'.Ns X.env.locals m) (aA:cZ X.prog X.w H' h') (hg:AllBare g'):
  Inv X pins σ H' {s with heap:=h',gens:=g',drawn:=d',toks:=t'}:=by
 have L:∀b o,X.s₀.heap.get? b=some o->b≠X.env.locals:=λb o e=>MM<|MS (MA e) I.ok.above
 have j:∀b o,X.s₀.heap.get? b=some o->b∉X.ex->b∉ch:=λb o e a C=>by
  rcases (f b C).1 with z|z
  .exact a z
  .rw [z] at e;cases e
 have g:∀x c,X.env.cells.lookup x=some c->∀v,s.heap.IsCell c v->h'.IsCell c v:=λx c e v q0=>by
  obtain ⟨o,E,Q⟩:=q0;have h:c∉ch:=λz=>(f c z).2.2.1 x c e rfl;by_cases U:c∈X.fs
  .obtain ⟨O,q⟩:=y c o (I.kh x c e) U h E (I.g9 x c e);exact ⟨_,q,Q⟩
  .exact ⟨o,keep c o (I.kh x c e) U h E<|I.g9 x c e,Q⟩
 refine ⟨I.ok,I.os,hg,⟨λb o e n C a=>?_,λb o e n C a=>?_,λb o e n a=>?_,λb o e a=>?_,λb A e=>iX b A<|I.base.iX b A e,λb o A e=>iy b o A<|I.base.iy b o A e,λb N e=>?_⟩,?_,λx c e=>?_,?_,λx c e=>?_,λp Y=>?_,aA,I.len⟩
 .exact keep b o (L b o e) C (j b o e a) (I.base.keep b o e n C a)<|I.base.free b o e n a
 .obtain ⟨O,t⟩:=I.base.slot b o e n C a;obtain ⟨T,M⟩:=y b _ (L b o e) C (j b o e a) t<|I.base.free b o e n a;exact ⟨T,M⟩
 .obtain ⟨G,t⟩:=I.base.there b o e a;exact free b G (j b o e a) t<|I.base.free b o e n a
 .obtain ⟨G,t⟩:=I.base.there b o e a;exact B b G (j b o e a) t
 .obtain ⟨m1,t⟩:=I.base.iI b N e;obtain ⟨m2,M⟩:=iI b _ t;exact ⟨m1++m2,by rw [M,Array.append_assoc]⟩
 .obtain ⟨m,hn,hl⟩:=I.loc;refine ⟨m,ns m hn,λi x v t M e3=>?_⟩;obtain ⟨u,r,l⟩:=hl i x v t M e3;refine ⟨u,r,?_⟩;rcases l with l|⟨k,c,e,z⟩
  .exact .inl l
  .exact .inr ⟨k,c,e,g x c e _ z⟩
 .obtain ⟨v,z⟩:=I.cell x c e;exact ⟨v,g x c e v z⟩
 .obtain ⟨m,⟨o,_,_,E,_⟩,_⟩:=I.loc;exact free _ o (λz=>(f _ z).2.1 rfl) E I.free
 .obtain ⟨v,o,E,Q⟩:=I.cell x c e;exact free c o (λz=>(f c z).2.2.1 x c e rfl) E<|I.g9 x c e
 .obtain ⟨e,n,ne,nf,d⟩:=I.pin p Y;have h:p.1∉ch:=λz=>(f p.1 z).2.2.2 p Y rfl;exact ⟨keep p.1 p.2 ne nf h e n,free p.1 p.2 h e n,ne,nf,d⟩
end
section
variable {X:Cx}{σ:St}{H:Hp}{s:Shared}{ea T:Addr}{cls fl:Value}{E:Value->St->Hp->Prop}
end
section
variable {P:Program}{w:World}{K:PySem.W.Frag}{mg:Str->Option Value}{base:Heap}
end
section
variable {X:Cx}{st:Stmt}{cm:List Stmt}{t u:TS}
end
section
variable {P:Program}{w:World}{K:PySem.W.Frag}{mg:Str->Option Value}{base:Heap}
end
end L2
namespace L2
open PySem PySem.Spec PyProof.Rows
section
variable {X:Cx}{pins:List (Addr×Obj)}{σ:St}{H:Hp}{s:Shared}
def Inv.freeze(I:Inv X pins σ H s)(e:H p=some (.dK a))(h:s.heap.get? p=some o):Inv X pins σ (upd H p (.cW o (.dK a))) s:=by
 have d:∀b u,H b=some u->u≠.dK a->b≠p:=λb u q i z=>by rw [z,e] at q;exact i (Mu q).symm
 refine I.J0 (h':=s.heap) (g':=s.gens) (d':=s.drawn) (t':=s.toks) (ch:=[]) (λb f=>nomatch f) (λb o _ _ _ q _=>q) (λb o _ _ _ q _=>⟨o.slots,q⟩) (λb o _ _ n=>?_) (λb o _ q=>⟨o,q⟩)
  (λb g q=>by rw [aD<|d b _ q (by intro z;cases z)];exact q) (λb o u q=>by rw [aD<|d b _ q (by intro z;cases z)];exact q) (λb k q=>⟨#[],by rw [aD<|d b _ q (by intro z;cases z),q];simp⟩) (λm j=>j) (λb u q=>?_) I.bare
 .rw [aD λz=>by rw [z,e] at n;cases n];exact n
 .by_cases f:b=p
  .subst f;rw [aO] at q;cases q;refine ⟨h,?_⟩;exact (I.aA b _ e).j6 (λc v _ q=>q) (λc q=>by rw [aD<|d c _ q (by intro z;cases z)];exact q) λc g q=>by rw [aD<|d c _ q (by intro z;cases z)];exact q
  .rw [aD f] at q
   exact (I.aA b u q).j6 (λc v _ q=>q) (λc q=>by rw [aD<|d c _ q (by intro z;cases z)];exact q) λc g q=>by rw [aD<|d c _ q (by intro z;cases z)];exact q
def Cj (te:TE):TE:=λσ H Q=>te σ H λx H1=>∃p kvs,x=.ref p/\H1 p=some (.dK kvs)/\∀o,Q x (upd H1 p (.cW o (.dK kvs)))
def LR(h:PE X e d):PE X e (Cj d):=by
 intro a s i H Q I j;refine aP (h a s i H _ I j) λu k l=>?_;obtain ⟨x,m,f,n,p,b,y,g,q⟩:=l;obtain ⟨_,_,z,_,r⟩:=(show ca X.prog X.w m k.heap p (.dK b) from f.aA p _ g)
 obtain ⟨t,c⟩:=r.dictAt;obtain ⟨o,A,v,_⟩:=c;exact ⟨x,_,f.freeze g v,n,q o⟩
def L0 {b:Type}{c:List (b×V)}{d:List (b×Value)}(h:KV c d):∀{i:Nat} {p:b×V},c[i]?=some p->∃q,d[i]?=some q/\p.1=q.1/\RelV p.2 q.2:=by
 unfold KV at h;induction h with
 |nil=>intro i p e;cases e
 |cons a t f=>
  intro i p e;cases i with
  |zero=>cases e;exact ⟨_,rfl,a⟩
  |succ i=>exact f e
def CJ (d:Addr)(o:Obj)(kvs:List (aM×V)):It:=
 ⟨λi H=>i<kvs.length/\H d=some (.cW o (.dK kvs)),λi H x H'=>H'=H/\(kvs[i]?).map (·.2)=some x,λi H=>kvs.length<=i/\H d=some (.cW o (.dK kvs))⟩
def xg(I:Inv X pins σ H s)(e:H d=some (.cW o (.dK a)))(j:o.data=.dict i g):∃f,KV a f/\s.heap.DictAt (dw X.prog X.w) d f g:=by
 obtain ⟨k,_,_,f,bE,l⟩:=(show ca X.prog X.w H s.heap d (.cW o (.dK a)) from I.aA d _ e)
 obtain ⟨m,b⟩:=l.dictAt;obtain ⟨p,n,c,q,h,r⟩:=id b;rw [k] at c;cases c;rw [j] at h;cases h;exact ⟨f,bE,b⟩
end
def Kq {P:Program}{w:World}{K:W.Frag}{tg:Expr}(d it:Addr)(o:Obj)(kvs:List (aM×V))(ep:Nat)(es:Array DictEntry)(hd:o.data=.dict es ep):jg P w K tg (CJ d o kvs) [it] it (λi h=>h.IsValIter it d i kvs.length ep) where
 mem:=by simp
 obj:=λi h st b hb=>by
  have e:b=it:=by simpa using hb
  subst e;obtain ⟨o,e,c,d⟩:=st;exact ⟨o,e,λv z=>by rw [d] at z;cases z⟩
 keep:=λi h h' st k=>let ⟨o,e,r⟩:=st;⟨o,k it Z8 o e,r⟩
 item:=by
  intro X hP hw hK hc i pins s σ H E I hf st hg;subst hP hw hK;obtain ⟨hi,hH⟩:=hg;obtain ⟨vs,bE,hat⟩:=xg I hH hd;have hl:=bE.length;have hx:kvs[i]?=some kvs[i]:=Mb hi;obtain ⟨q,hq,rq⟩:=L0 bE hx;obtain ⟨f0,f1,f2,f3,f4,f5⟩:=hf it Z8;rw [hl] at st;refine wpAny_pyNext_values_item (k:=q.1) (v:=q.2) st hat hq λh' st' sb=>?_;have I1:Inv X pins σ H {s with heap:=h'}:=I.turned (t':=s.toks) (λb o hb e=>(sb.2 b hb).trans e) f0 f1 f3 f4 f5;obtain ⟨o',e',c',d'⟩:=id st';rw [<-hl] at st';exact ⟨q.2,rfl,qu (s:={s with heap:=h'}) e' c' d' Z1 ⟨kvs[i].2,H,I1,rq.2,⟨rfl,by rw [hx];rfl⟩,st',λb hb=>(hf b hb).1⟩⟩
 done:=by
  intro X hP hw hK hc i pins s σ H E I hf st hg;subst hP hw hK;obtain ⟨hi,hH⟩:=hg;obtain ⟨vs,bE,hat⟩:=xg I hH hd;have hl:=bE.length;obtain ⟨f0,f1,f2,f3,f4,f5⟩:=hf it Z8;rw [hl] at st;exact wpAny_pyNext_values_end (I.ok.hd hc) st hat (M3 Z4) λh' eb=>⟨rfl,I.turned (t':=s.toks) (λb o hb e=>eb b o hb e) f0 f1 f3 f4 f5⟩
 self:=λ_ _ _ _ _ st h=>wpAny_pyIter_valiter st h
abbrev qG (p d:Addr):HO:=.ext λh=>h.IsValuesView p d
section
variable {X:Cx}
def yi:V->List V->Hp->VK->Prop:=λx xs H Q=>∃d kvs,x=.ref d/\xs=[]/\Rd H d (.dK kvs)/\∀p,H p=none->Q (.ref p) (upd H p (qG p d))
def LG:uA X "dict.values" yi:=by
 intro a s y H x A v B Q I f g h;obtain ⟨d,i,rfl,rfl,e,q⟩:=h;cases f;cases g;obtain ⟨z,j,l,bE,c⟩:=ie I.aA e;refine Oy Qr c.typeIs PySem.F.entry_dict_values (PySem.F.args_dict_values_1 _) (meets_dict_values (dw X.prog X.w) d j) ⟨⟨l,c⟩,?_⟩;have m:H s.heap.objs.size=none:=I.aA.fresh<|Mh _
 refine ⟨.ref s.heap.objs.size,upd H s.heap.objs.size<|qG s.heap.objs.size d,I.laid (t':=s.toks) (λb u q=>Mf _ q) (Mh _) ?_,rfl,q _ m⟩;have n:(s.heap.push {cls:=.type "dict_values",data:=.fields #[.ref d]}).IsValuesView s.heap.objs.size d:=⟨_,Mz _ rfl,rfl,rfl⟩
 exact ⟨n,⟨_,Mz _ rfl⟩,λC E p k=>by obtain ⟨o,r,t⟩:=p;exact ⟨o,k o r,t⟩⟩
def A4 (to:TE):TE:=λσ H Q=>to σ H λx H1=>(∃d,x=.ref d/\rK H1 d)/\yi x [] H1 Q
def JP{a b:Pos}(k:PE X o g)(e:attributeBase o "values" X.env (eval o X.env)=eval o X.env:=by rfl)(f:(a.endLine==b.line)=true:=by rfl):PE X (.Call (.Attribute o "values" a) [] [] b) (A4 g):=by
 intro c s i H Q I h;refine wpAny_Call_method0_late e f<|aP (k c s i H _ I h) λv l m=>?_
 obtain ⟨x,n,j,p,⟨d,q,r⟩,t⟩:=m;subst q;cases p;obtain ⟨u,w,_⟩:=u0 j r;exact ⟨"dict","dict.values",Ph,Qr,PySem.F.type_dict_values,u,w,NZ rfl<|PySem.evalArgs_none<|LG c l i n (.ref d) [] (.ref d) [] Q j rfl .nil t⟩
def B8 (tl:TE):TI:=λσ H R=>tl σ H λx H1=>∃p d o kvs,x=.ref p/\H1 p=some (qG p d)/\H1 d=some (.cW o (.dK kvs))/\R (CJ d o kvs) H1
def FS(B:PE X l r):PI X A l (B8 r):=by
 intro f s C H R I h;refine aP (B f s C H _ I h) λv a E=>?_;obtain ⟨x,m,c,t,G⟩:=E;obtain ⟨p,d,o,g,e,J,u,q⟩:=G;subst e;cases t;obtain ⟨L,_,_⟩:=(show ca X.prog X.w m a.heap p (qG p d) from c.aA p _ J)
 obtain ⟨M,_,_,N,y,O⟩:=(show ca X.prog X.w m a.heap d (.cW o (.dK g)) from c.aA d _ u)
 obtain ⟨Q,i⟩:=O.dictAt;obtain ⟨Y,T,j,t,z,r3⟩:=id i;rw [M] at j;cases j;obtain ⟨vs,bE,n⟩:=xg c u z;have k:=bE.length;refine wpAny_pyIter_values L n ?_;refine ⟨a.heap.objs.size,[a.heap.objs.size],_,_,m,rfl,c.kept (t':=a.toks) λb o e=>Mf _ e,Kq d _ o g Q T z,⟨_,Mz _ rfl,rfl,by rw [k];rfl⟩,λb U=>?_,q⟩;have e:b=a.heap.objs.size:=by simpa using U
 subst e;exact c.ig (Mh _)<|c.aA.fresh<|Mh _
end
end L2
namespace FL
open PySem L2
def nj (t:TE)(G:Hp)(σ:St)(a:Addr):Prop:=∀M H,ab G (but H M)->au M H->∀Q:VK,(∀H',ab H H'->Q (.ref a) H')->t σ H Q
def D8{i:Nat}(e:b[i]?=some (some (.ref a))):nj (aU i) G b a:=λM H s l Q k=>⟨.ref a,e,k H<|ab.refl _⟩
def FV{is:List Int}(z:nj t G r d)(h:G d=some (.cW o (.dK a)))(u:a.map (·.2)=is.map V.int):Walk (B8 (A4 t)) G r (is.map D.int):=λM H s l R k=>z M H s l _ λw f=>by
 have i:=(aw<|(s.trans<|f.but M) _ _ h).2;refine ⟨⟨d,rfl,.inl ⟨a,.inr ⟨o,i⟩⟩⟩,d,a,rfl,rfl,.inr ⟨o,i⟩,λp A=>?_⟩;have g:ab w (upd w p<|qG p d):=da A _;have y:a.length=is.length:=by have:=M7 List.length u;simpa using this
 refine ⟨p,d,o,a,rfl,aO,g _ _ i,k _ _ (f.trans g) (λj x B C c m E=>?_) λB C m=>?_⟩
 .have b:=(aw<|m _ _<|(s.trans<|(f.trans g).but M) _ _ h).2;have I:j<is.length:=by have:=(Ma.mp c).1;simpa using this
  refine ⟨⟨by omega,b⟩,λv J L=>?_⟩;obtain ⟨N,O⟩:=L;subst N;refine ⟨ab.refl _,?_⟩;have q:(a.map (·.2))[j]?=some v:=by rw [Mo];exact O
  rw [u,Mo] at q;rw [Mo] at c;cases e:is[j]? with
  |none=>rw [e] at c;cases c
  |some n=>
   rw [e] at q c;cases q;cases c;exact .int n
 .have b:=(aw<|m _ _<|(s.trans<|(f.trans g).but M) _ _ h).2;exact ⟨by simp;omega,b⟩
end FL
namespace FL
open PySem PySem.Spec PyProof.Rows L2
section
variable {X:Cx}{C:Addr}
def LD(q:PE X o j)(c:dq X.K C)(h:eB X.prog X.w X.K X.mg X.base n C m p i)(r:cT k X.A)(e:n<=k:=by decide)
  (s:eval (.Call (.Attribute o m a) [] [] d) X.env=(do
   let l<-eval o X.env
   standAt a.atName
   let (f,first)<-holding [l] (getMethod l m g)
   callWith d f first (backTo d (starEach [] X.env)) (backToKw d (keywordEach [] X.env))):=by rfl):
  PE X (.Call (.Attribute o m a) [] [] d) (lR C m i [] E0 j bL):=by
 obtain ⟨f,t,F,b,M⟩:=h.ex;exact Lf (pl:=g) q c M (F.mono e) r b .nil ui s
end
end FL
namespace FL
open PySem L2
def nV (wi:TI)(G:Hp)(σ:St)(n:Nat)(R:Nat->Hp->V->Prop):Prop:=∀M H,ab G (but H M)->au M H->∀S:It->Hp->Prop,
 (∀J H1,ab H H1->(∀(j:Nat) M' H',j<n->ab (but H1 M) (but H' M')->au M' H'->J.go j H'/\∀x H'',J.ox j H' x H''->ab H' H''/\R j (but H'' M') x)->(∀M' H',ab (but H1 M) (but H' M')->J.stop n H')->S J H1)->wi σ H S
def I0 (ds:List D):Nat->Hp->V->Prop:=λj G x=>∃d,ds[j]?=some d/\al G x d
def KO (us:List V):Nat->Hp->V->Prop:=λj _ x=>us[j]?=some x
def yS (us:List V):Nat->Hp->V->Prop:=λj G x=>∃T v,x=.ref T/\G T=some (.tup [.int (j:Nat),v])/\us[j]?=some v
section
variable {G:Hp}{σ:St}{wi:TI}{te:TE}{K:PySem.W.Frag}{a:Addr}{us:List V}
def IZ(h:Walk wi G σ c):nV wi G σ c.length (I0 c):=λM H s l S k=>h M H s l S λJ g i d b=>k J g i (λj m n f o r=>by
 obtain ⟨t,u⟩:=d j _ m n (Mb f) o r;exact ⟨t,λx e v=>let ⟨p,q⟩:=u x e v;⟨p,_,Mb f,q⟩⟩) b
def xl (h:nj te G σ a)(g:G a=some (.lst us)):nV (λσ H R=>jh K te σ H R\/nh K te σ H R) G σ us.length (KO us):=λM H s l S k=>.inl (h M H s l _ λi d=>by
 have b:=(s.trans<|d.but M) _ _ g;refine ⟨a,rfl,⟨us,aN.of (aw b).2⟩,k _ i d (λj m n o c r=>?_) λm n c=>?_⟩
 .have f:=(aw<|c _ _ b).2;refine ⟨⟨us,us[j],aN.of f,Mb o⟩,λx p ⟨e,q⟩=>?_⟩;subst e;exact ⟨ab.refl _,q us<|aN.of f⟩
 .exact ⟨us,aN.of (aw<|c _ _ b).2,Mh _⟩)
def A5 (h:nj te G σ a)(i:G a=some (.lst us)):nV (C3 K (bu te bL)) G σ us.length (yS us):=λM H s l S k=>h M H s l _ λm d=>by
 have b:=(s.trans<|d.but M) _ _ i;refine ⟨a,rfl,⟨us,aN.of (aw b).2⟩,k _ m d (λj n o p c q=>?_) λn o c=>?_⟩
 .have f:=(aw<|c _ _ b).2;refine ⟨⟨us,us[j],aN.of f,Mb p⟩,λv r ⟨T,t,g,e,u,w⟩=>?_⟩;subst e u;refine ⟨da g _,T,t,rfl,?_,w us<|aN.of f⟩;rw [bn<|q.fresh g,aO]
 .exact ⟨us,aN.of (aw<|c _ _ b).2,Mh _⟩
def tH{g:TG}{E:Ends}(y:nV wi (but H M) σ n R)(l:au M H)
  (k:∀q,ab H q->∃Pv:Nat->ZX->St->Hp->Prop,Pv 0 M σ q/\(∀j d b c,Pv j d b c->ab (but q M) (but c d)/\au d c)/\
   (∀(j:Nat) d x b c f,j<n->Pv j d b c->ab c f->R j (but f d) x->g x b f λr v=>u {E with nx:=λσ H=>∃M,Pv (j+1) M σ H,ct:=λσ H=>∃M,Pv (j+1) M σ H,bk:=E.nx} r v)/\∀d b c,Pv n d b c->E.nx b c):
  lw wi g u E σ H:=y M H (ab.refl _) l _ λJ q z t h=>by
 obtain ⟨Pv,A,B,i,s⟩:=k q z;refine ⟨λj m b c=>m=n-j/\j<=n/\∃d,Pv j d b c,⟨n,by simp,MI _,M,A⟩,?_⟩;rintro j m b c ⟨rfl,U,d,p⟩;obtain ⟨w,C⟩:=B j d b c p;by_cases o:j<n
 .obtain ⟨I,L⟩:=t j d c o w C;refine .inr ⟨I,λσ H=>∃M,Pv (j+1) M σ H,λr v N=>⟨n-(j+1),by omega,rfl,o,N⟩,λx f O=>?_⟩;obtain ⟨Q,T⟩:=L x f O;exact i j d x b c f o p Q T
 .have e:j=n:=by omega
  subst e;exact .inl ⟨h d c w,s d b c p⟩
def sN(m:Nat):(List.range (m+1)).filter p=(List.range m).filter p++(if p m=true then [m] else []):=by
 rw [List.range_succ,Nu];congr 1;by_cases b:p m=true
 .simp [b]
 .simp [b]
def Ek{caps:St->St}{p:Nat->Bool}{f:Nat->D}(hw:nV wi G σ n R)(hR:∀j G h v,ab G h->R j G v->R j h v)
  (ht:∀h v j,ab G h->j<n->R j h v->bg T h ((caps σ).set i (some v)) (p j))
  (he:∀h v j,ab G h->j<n->p j=true->R j h v->ae te h ((caps σ).set i (some v)) (f j)) (hz:n<sizeLine):
  ae (iU wi caps (cx i) T te) G σ (.lst (((List.range n).filter p).map f)):=λM H s l Q k=>hw M H s l _ λJ I L U z D N=>by
 have lf:D∉M:=(l.same L).fresh N;have Y:ab G (but I M):=s.trans<|L.but M
 refine ⟨λj m τ r=>m=n-j/\j<=n/\(∀v,τ.set i (some v)=(caps σ).set i (some v))/\ab I r/\∃q,r D=some (.lst q)/\aE (but r (D::M)) q (((List.range j).filter p).map f),
  ⟨n,by simp,MI _,λ_=>rfl,da N _,[],aO,by simpa using aE.nil⟩,?_⟩
 rintro j m τ r ⟨rfl,hj,ac,A,q,t,O⟩;have hs:ab (but I M) (but r (D::M)):=i6 N A;have hl:au (D::M) r:=((l.same L).same A).cons t;by_cases u:j<n
 .obtain ⟨go,gy⟩:=U j (D::M) r u hs hl;refine .inr ⟨go,λB d=>(∀v,B.set i (some v)=(caps σ).set i (some v))/\ab I d/\∃q,d D=some (.lst q)/\aE (but d (D::M)) q (((List.range<|j+1).filter p).map f),
   λB d q0=>by obtain ⟨a,b,c⟩:=q0;exact ⟨n-(j+1),by omega,rfl,u,a,b,c⟩,λx d hy=>?_⟩
  obtain ⟨y,rx⟩:=gy x d hy;have sG:ab G (but d (D::M)):=Y.trans<|hs.trans<|y.but _;have C:=hl.same y;show T (τ.set i<|some x) d _;rw [ac x];refine ht _ x _ sG u rx (D::M) d (ab.refl _) C _ λH4 w=>?_;have g:∀v,((caps σ).set i<|some x).set i (some v)=(caps σ).set i (some v):=λv=>by rw [QX]
  by_cases E:p j=true
  .rw [Mp E]
   refine he _ x _ (sG.trans<|w.but _) u E (hR _ _ _ _ (w.but _) rx) (D::M) H4 (ab.refl _) (C.same w) _ λv H5 s5 r5=>?_;have af:H5 D=some (.lst q):=s5 _ _<|w _ _<|y _ _ t
   have aj:=O.length;have am:(((List.range j).filter p).map f).length<=j:=by
    rw [Md];have:=MO p<|List.range j
    rw [OV] at this;omega
   refine ⟨q,af,by omega,g,?_,q++[v],aO,?_⟩
   .intro b o e;rw [aD<|dm e N];exact s5 _ _<|w _ _<|y _ _<|A _ _ e
   .rw [dN Mc,sN,Mp E,MK]
    exact (O.mono<|((y.trans w).trans s5).but _).snoc r5
  .rw [Mj E]
   refine ⟨g,A.trans<|y.trans w,q,w _ _<|y _ _ t,?_⟩;rw [sN,Mj E,MP];exact O.mono<|(y.trans w).but _
 .have e:j=n:=by omega
  subst e;exact .inl ⟨z (D::M) r hs,k _ r (L.trans A)<|me lf t O⟩
def Gq{caps:St->St}(ac:i≠j){p:Nat->Bool}{f:Nat->D}(hw:nV wi G σ n (yS us))
  (ht:∀B v m,ab G B->us[m]?=some v->bg tt B (((caps σ).set i (some (.int (m:Nat)))).set j (some v)) (p m))
  (he:∀B v m,ab G B->us[m]?=some v->p m=true->ae te B (((caps σ).set i (some (.int (m:Nat)))).set j (some v)) (f m)) (hz:n<sizeLine):
  ae (iU wi caps (lU K 2 (iV (cx i) (iV (cx j) oh))) tt te) G σ (.lst (((List.range n).filter p).map f)):=λM H s l Q k=>hw M H s l _ λJ O U af A D Y=>by
 have lf:D∉M:=(l.same U).fresh Y;have aj:ab G (but O M):=s.trans<|U.but M
 refine ⟨λm q τ r=>q=n-m/\m<=n/\(∀v w,(τ.set i<|some v).set j (some w)=((caps σ).set i<|some v).set j (some w))/\ab O r/\∃h,r D=some (.lst h)/\aE (but r (D::M)) h (((List.range m).filter p).map f),
  ⟨n,by simp,MI _,λ_ _=>rfl,da Y _,[],aO,by simpa using aE.nil⟩,?_⟩
 rintro m q τ r ⟨rfl,hj,am,C,h,t,ry⟩;have hs:ab (but O M) (but r (D::M)):=i6 Y C;have hl:au (D::M) r:=((l.same U).same C).cons t;by_cases E:m<n
 .obtain ⟨go,gy⟩:=af m (D::M) r E hs hl;refine .inr ⟨go,λI d=>(∀v w,(I.set i<|some v).set j (some w)=((caps σ).set i<|some v).set j (some w))/\ab O d/\∃h,d D=some (.lst h)/\aE (but d (D::M)) h (((List.range<|m+1).filter p).map f),
   λI d q0=>by obtain ⟨a,b,c⟩:=q0;exact ⟨n-(m+1),by omega,rfl,E,a,b,c⟩,λx d hy=>?_⟩
  obtain ⟨u,T,y,rfl,hT,hv⟩:=gy x d hy;have sG:ab G (but d (D::M)):=aj.trans<|hs.trans<|u.but _;have L:=hl.same u;refine ⟨T,_,rfl,bz.of (aw hT).2,rfl,.int (m:Nat),[y],rfl,y,[],rfl,rfl,?_⟩;show tt ((τ.set i<|some (.int (m:Nat))).set j<|some y) d _;rw [am (.int (m:Nat)) y];refine ht _ y _ sG hv (D::M) d (ab.refl _) L _ λH4 z=>?_;have g:∀v w,((((caps σ).set i<|some (.int (m:Nat))).set j<|some y).set i<|some v).set j (some w)=((caps σ).set i<|some v).set j (some w):=λv w=>by
   rw [List.set_comm (some y) (some v)<|M6 ac,QX,QX]
  by_cases N:p m=true
  .rw [Mp N]
   refine he _ y _ (sG.trans<|z.but _) hv N (D::M) H4 (ab.refl _) (L.same z) _ λv H5 s5 r5=>?_;have an:H5 D=some (.lst h):=s5 _ _<|z _ _<|u _ _ t
   have ao:=ry.length;have as:(((List.range m).filter p).map f).length<=m:=by
    rw [Md];have:=MO p<|List.range m
    rw [OV] at this;omega
   refine ⟨h,an,by omega,g,?_,h++[v],aO,?_⟩
   .intro b o e;rw [aD<|dm e Y];exact s5 _ _<|z _ _<|u _ _<|C _ _ e
   .rw [dN Mc,sN,Mp N,MK]
    exact (ry.mono<|((u.trans z).trans s5).but _).snoc r5
  .rw [Mj N]
   refine ⟨g,C.trans<|u.trans z,h,z _ _<|u _ _ t,?_⟩;rw [sN,Mj N,MP];exact ry.mono<|(u.trans z).but _
 .have e:m=n:=by omega
  subst e;exact .inl ⟨A (D::M) r hs,k _ r (U.trans C)<|me lf t ry⟩
end
end FL
namespace FL
open PySem L2
def A8{u:TS}{D:Ends}(h:t {D with nx:=u D} a H):ow t u D a H:=h
def CN{K:W.Frag}{g:TE}{D:Ends}(h:ae i (but H M) b d)(l:au M H)(k:∀v c,ab H c->al (but c M) v d->g b c λx j=>∃a C m e,x=.ref a/\j a=some (.ins C m e)/\dq K C/\bS K C f/\e.length<1000/\D.nx b (upd j a (.ins C m (c8 f v e)))):Bu K g i f D b H:=h M H (ab.refl _) l _ k
def ja (f:List D):Prop:=f≠[]/\bZ f
structure bh where
 cJ:List D
 shared:List (Str×Nat)
 gs:List (List D×List Nat)
 of:List dr
 newest:Int
def kN (g:List D×List Nat):D:=.tup [.tup g.1,.lst (g.2.map λn=>D.int (n:Nat))]
def fV (sh:List (Str×Nat)):List (aM×V):=sh.map λp=>(Sum.inr p.1,V.int (p.2:Nat))
abbrev jJ (v0:V)(sa:Addr)(v2:V)(ao:Addr)(n:Int):List (Str×V):=[("asker",v0),("shared",.ref sa),("guards",v2),("offers",.ref ao),("newest",.int n)]
def jZ (C:Addr)(G:Hp)(v:V)(s:bh):Prop:=∃a dx v0 sa v2 ao oS,v=.ref a/\G a=some (.ins C dx (jJ v0 sa v2 ao s.newest))/\al G v0 (.tup s.cJ)/\G sa=some (.cW oS (.dK (fV s.shared)))/\al G v2 (.lst (s.gs.map kN))/\ou G ao s.of
theorem jZ.mono(e:ab G b)(h:jZ C G v s):jZ C b v s:=by
 obtain ⟨a,c,d,f,g,i,j,k,l,m,n,o,p⟩:=h;exact ⟨a,c,d,f,g,i,j,k,e _ _ l,m.mono e,e _ _ n,o.mono e,p.mono e⟩
structure ln (K:PySem.W.Frag)(C:Addr):Prop where
 cl:dq K C
 nA:bS K C "asker"
 nS:bS K C "shared"
 nG:bS K C "guards"
 nO:bS K C "offers"
 nN:bS K C "newest"
structure g8 (C:Addr)(H:Hp)(Z:List Addr)(a:Addr)(os:List Addr)(s:bh):Prop where
 at_:∃dx v0 sa v2 ao ls oS,os=a::ao::ls/\H a=some (.ins C dx (jJ v0 sa v2 ao s.newest))/\al (but H Z) v0 (.tup s.cJ)/\but H Z sa=some (.cW oS (.dK (fV s.shared)))/\al (but H Z) v2 (.lst (s.gs.map kN))/\eU H Z ao ls s.of
def eU.weak{M:ZX}(h:eU H Z p c d)(g:∀x∈M,x∈Z):eU H M p c d:=by
 obtain ⟨b,i,j,k,e,m⟩:=h.kvs;refine ⟨⟨b,i,j,k,λa f=>⟨(e a f).1,λv n=>?_⟩,m⟩,h.lists,h.apart⟩;obtain ⟨l,o,q,r,s,t⟩:=(e a f).2 v n;refine ⟨l,o,q,r,s,t.mono<|eA λx u=>?_⟩;rcases MB.mp u with z|z
 .exact Ms _ z
 .rcases Mn.mp z with z|z
  .rw [z];exact Ml _ Mc
  .exact Ml _<|L8 _<|g x z
def tj{Z b:ZX}(c:p∈Z)(d:∀x∈b,x∈Z):∀a,a∈b++p::Z↔a∈Z:=λa=>by
 constructor
 .intro h;rcases MB.mp h with z|z
  .exact d a z
  .rcases Mn.mp z with z|z
   .rw [z];exact c
   .exact z
 .intro h;exact Ml _<|L8 _ h
def eU.frame{e:Hp}{Z':ZX}(h:eU H Z p a m)(s:p∈Z)(d:∀x∈a,x∈Z)(f:p∈Z')(g:∀x∈a,x∈Z')(k:∀b u,b∈p::a->H b=some u->e b=some u)(S:ab (but H Z) (but e Z')):eU e Z' p a m:=by
 obtain ⟨i,t,w,y,n,A⟩:=h.kvs;refine ⟨⟨i,k _ _ Mc t,w,y,λc o=>⟨(n c o).1,λv B=>?_⟩,A⟩,λl d=>?_,h.apart⟩
 .obtain ⟨l,j,C,q,E,r⟩:=(n c o).2 v B;refine ⟨l,j,C,q,k _ _ (L8 _ q) E,?_⟩;rw [jQ<|tj s d] at r;rw [jQ<|tj f g];exact r.mono S
 .obtain ⟨j,z⟩:=h.lists l d;exact ⟨j,k _ _ (L8 _ d) z⟩
theorem g8.rep{M:ZX}{os:ZX}(h:g8 C H Z a os s)(c:∀x∈M,x∈Z)(b:∀x∈os,x∉M):jZ C (but H M) (.ref a) s:=by
 obtain ⟨e,f,g,i,d,r,j,rfl,k,m,n,o,p⟩:=h.at_;have S:ab (but H Z) (but H M):=eA c;refine ⟨a,e,f,g,i,d,j,rfl,?_,m.mono S,S _ _ n,o.mono S,(p.weak c).rep (b d Z8) λl q=>b l (by simp [q])⟩;rw [bn<|b a Z8];exact k
theorem g8.frame{d:Hp}{Z':ZX}{os:ZX}(h:g8 C H Z a os s)(f:∀x∈os,x∈Z)(c:∀x∈os,x∈Z')(k:∀b u,b∈os->H b=some u->d b=some u)(S:ab (but H Z) (but d Z')):g8 C d Z' a os s:=by
 obtain ⟨g,i,j,l,m,n,o,rfl,p,r,t,v,w⟩:=h.at_;exact ⟨⟨g,i,j,l,m,n,o,rfl,k _ _ Z8 p,r.mono S,S _ _ t,v.mono S,w.frame (f _ Z8) (λx e=>f _ (by simp [e])) (c _ Z8) (λx e=>c _ (by simp [e])) (λb u y q=>k b u (L8 _ y) q) S⟩⟩
theorem g8.mono{os:ZX}(h:g8 C H Z a os s)(e:ab H b):g8 C b Z a os s:=by
 obtain ⟨c,d,f,g,i,j,k,rfl,l,m,n,o,p⟩:=h.at_;exact ⟨⟨c,d,f,g,i,j,k,rfl,e _ _ l,m.mono<|e.but Z,(e.but Z) _ _ n,o.mono<|e.but Z,p.same e⟩⟩
def uR {H d:Hp}{Z os a:ZX}(h:∀x∈a,x∈os\/H x=none)(i:∀x∈os,x∈Z)(k:∀b u,b∉os->H b=some u->d b=some u):ab (but H Z) (but d (a++Z)):=λb u e=>by
 obtain ⟨f,c⟩:=aw e;have g:b∉os:=λz=>f<|i b z;rw [bn]
 .exact k b u g c
 .intro z;rcases MB.mp z with z|z
  .rcases h b z with w|w
   .exact g w
   .rw [w] at c;cases c
  .exact f z
def fo (s:bh):List Str:=s.shared.map (·.1)
def cK (s:bh)(n:Nat)(g:List D):bh:=match bC s.cJ g [] with
 |some st=>{s with of:=s.of++[(dv (fo s) st,(n,restOf (fo s) st))],newest:=n}
 |none=>s
def lj:upd (upd H x o) x a=upd H x a:=by
 funext b;by_cases e:b=x
 .subst e;rw [aO,aO]
 .rw [aD e,aD e,aD e]
def JC(h:p≠x):upd (upd (upd H x o) p d) x c=upd (upd H p d) x c:=by
 funext b;by_cases e:b=x
 .subst e;rw [aO,aO]
 .rw [aD e,aD e]
  by_cases a:b=p
  .subst a;rw [aO,aO]
  .rw [aD a,aD a,aD e]
def zM (C:Addr):Sp:=λvs H Q _=>∃x dx v1 v2 v3,vs=[.ref x,v1,v2,v3]/\H x=some (.ins C dx [])/\
 ∀p,H p=none->p≠x->Q .av (upd (upd H p (.dT [])) x (.ins C dx [("asker",v1),("shared",v2),("guards",v3),("offers",.ref p),("newest",.int (-1))]))
def Ap (C:Addr):Sp:=λvs H Q _=>∃Z os s a n g v2,vs=[.ref a,.int ((n:Nat):Int),v2]/\au Z H/\g8 C H Z a os s/\(∀x∈os,x∈Z)/\al (but H Z) v2 (.tup g)/\dF s.cJ/\ja g/\s.of.length<1000/\
 ∀os' H',(∀x∈os',x∈os\/H x=none)->(∀x∈os,x∈os')->(∀b u,b∉os->H b=some u->H' b=some u)->au (os'++Z) H'->g8 C H' (os'++Z) a os' (cK s n g)->Q .av H'
section
variable {K:PySem.W.Frag}{G:Hp}{σ:St}{ty:TE}{i:Nat}{a C dx sa:Addr}{fs:List (Str×V)}{oS:Obj}{sh:List (Str×Nat)}{n:Str}
def gQ(T:dq K C)(n:bS K C x)(e:σ[i]?=some (some (.ref a)))(b:G a=some (.ins C dx fs))(c:fs.lookup x=some v)(r:al G v d):ae (lA K (aU i) x) G σ d:=
 λM H s l Q k=>⟨.ref a,e,a,C,dx,fs,v,rfl,(aw<|s _ _ b).2,T,n,c,k v H (ab.refl _)<|r.mono s⟩
def lC(T:dq K C)(n:bS K C x)(e:σ[i]?=some (some (.ref a)))(c:G a=some (.ins C dx fs))(d:fs.lookup x=some (.ref b)):nj (lA K (aU i) x) G σ b:=
 λM H s l Q k=>⟨.ref a,e,a,C,dx,fs,.ref b,rfl,(aw<|s _ _ c).2,T,n,d,k H<|ab.refl _⟩
theorem wX:∀(sh:List (Str×Nat)) (n:Str),(br (fV sh) (Sum.inr n)).isSome=decide (n∈sh.map (·.1))
 |[],n=>rfl
 |p::r,n=>by
  show (br ((Sum.inr p.1,V.int (p.2:Nat))::fV r)<|Sum.inr n).isSome=_;by_cases e:p.1=n
  .subst e;rw [ge rfl];simp
  .have b:¬(Sum.inr p.1:aM)=Sum.inr n:=λz=>e (QN z);have c:¬n=p.1:=λz=>e z.symm;rw [gk (by exact b),wX r n];simp [c]
def EK (T:dq K C)(f:bS K C "shared")(e:σ[i]?=some (some (.ref a)))(g:G a=some (.ins C dx fs))(j:fs.lookup ("shared":Str)=some (.ref sa))(m:G sa=some (.cW oS (.dK (fV sh))))(h:ae ty G σ (.str n)):bg (tB (qc ty (lA K (aU i) "shared"))) G σ (decide (n∈sh.map (·.1))):=λM H s l Q k=>h M H s l _ λv o b p=>by
 have q:=b _ _ (aw<|s _ _ g).2;have c:=b _ _ (aw<|s _ _ m).2;refine ⟨.ref a,e,a,C,dx,fs,.ref sa,rfl,q,T,f,j,sa,br (fV sh)<|Sum.inr n,rfl,.inl ⟨fV sh,Sum.inr n,.inr ⟨oS,c⟩,(fO (d:=.str n) rfl p).2,rfl⟩,_,rfl,?_⟩;rw [wX];exact k o b
def Fw (T:dq K C)(f:bS K C "shared")(e:σ[i]?=some (some (.ref a)))(g:G a=some (.ins C dx fs))(j:fs.lookup ("shared":Str)=some (.ref sa))(m:G sa=some (.cW oS (.dK (fV sh))))(h:ae ty G σ (.str n)):bg (tB (nP ty (lA K (aU i) "shared"))) G σ (!decide (n∈sh.map (·.1))):=λM H s l Q k=>h M H s l _ λv o b p=>by
 have q:=b _ _ (aw<|s _ _ g).2;have c:=b _ _ (aw<|s _ _ m).2;refine ⟨.ref a,e,a,C,dx,fs,.ref sa,rfl,q,T,f,j,sa,br (fV sh)<|Sum.inr n,rfl,.inl ⟨fV sh,Sum.inr n,.inr ⟨oS,c⟩,(fO (d:=.str n) rfl p).2,rfl⟩,_,rfl,?_⟩;rw [wX];exact k o b
end
theorem wt:∀(L:List (D×D)) (F G:aR),f7 F L=some G->(∀t∈F,t.2.sc=true)->(∀p∈L,p.2.sc=true)->∀t∈G,t.2.sc=true
 |[],F,G,h,a,_=>by
  have:F=G:=Mu h;rw [<-this];exact a
 |p::r,F,G,h,a,b=>by
  have h:(fW F p.1 p.2).bind (λf=>f7 f r)=some G:=h;unfold fW at h;have c:∀q∈r,q.2.sc=true:=λq g=>b q<|L8 _ g
  by_cases e:(aB p.1&& !ff F p.1)=true
  .rw [Mp e] at h
   exact wt r _ G h (xw a<|b p Mc) c
  .rw [Mj e] at h
   by_cases d:cj F p.1=p.2
   .rw [Mp d] at h
    exact wt r F G h a c
   .rw [Mj d] at h;cases h
def Cq{st:aR}(h:bC A g S=some st)(a:∀t∈S,t.2.sc=true)(b:bZ g):∀t∈st,t.2.sc=true:=by
 unfold bC at h;by_cases z:A.headD .av=g.headD .av/\A.length=g.length
 .rw [Mp z] at h
  exact wt _ S st h a λp c=>b _ (PR c).2
 .rw [Mj z] at h;cases h
def yP{st:aR}(h:bC A g []=some st):st.length<=A.length:=by
 obtain ⟨U,_,rfl,_⟩:=jb (V:=λ_=>.av) (B:=[]) eX h;unfold ar;rw [Md];have:=kj A [];rw [N6] at this;omega
def jF (st:aR):List (D×D):=st.map λq=>(.str q.1,q.2)
def zt (st:aR):(jF st).map (λq=>D.tup [q.1,q.2])=pairD st:=by
 unfold jF pairD;rw [MU];rfl
def G6 (st:aR)(a:ZY):((jF st).filter λq=>decide (q.1.name∈a)).map (λq=>q.2)=dv a st:=by
 unfold jF dv;rw [NK,MU];rfl
def FA (st:aR)(a:ZY):((jF st).filter λq=> !decide (q.1.name∈a)).map (λq=>D.tup [q.1,q.2])=pairD (restOf a st):=by
 unfold jF restOf pairD;rw [NK,MU];rfl
def Kf {st:aR}(h:∀t∈st,t.2.sc=true)(b:ZY):bZ (dv b st):=λx a=>by
 unfold dv at a;obtain ⟨t,c,rfl⟩:=Mx.mp a;exact h t (Mq.mp c).1
end FL
namespace FL
open PySem L2
def Ah (p:Str×D):D:=.tup [.str p.1,p.2]
def eo (S:aR)(is:List Nat):aR:=is.map λi=>S.getD i (("":Str),.av)
def fg (S:aR)(gs:List (List D×List Nat)):Bool:=gs.all λg=>holdsA (g.1.map (cj (eo S g.2)))
def qH (n:Nat)(g:List D×List Nat):Prop:=(∃r a b,g.1=[.str r,a,b]/\a.sc=true/\b.sc=true/\aB (.str r)=false)/\(∀i∈g.2,i<n)/\g.2.length<=100
def vo (C:Addr):Sp:=λvs H Q _=>∃M st S v0 v1,vs=[v0,v1]/\au M H/\jZ C (but H M) v0 st/\al (but H M) v1 (.lst (pairD S))/\(∀p∈S,p.2.sc=true/\aB (.str p.1)=true)/\(∀g∈st.gs,qH S.length g)/\∀H',ab H H'->Q (.bl (fg S st.gs)) H'
def By {S:aR}{is:List Nat}(h:∀p∈S,p.2.sc=true/\aB (.str p.1)=true)(a:∀i∈is,i<S.length):∀p∈eo S is,p.2.sc=true/\aB (.str p.1)=true:=λp b=>by
 obtain ⟨i,c,rfl⟩:=Mx.mp b;have:=a i c;rw [List.getD,Mb this];exact h _<|NJ this
def db (w:aH):D:=.tup [.lst (pairD w.1),.tup (w.2.map λn=>D.int (n:Nat))]
def f8 (S:aR)(is:List Nat):List D:=(eo S is).map (·.2)
def jL (ps:aR):Prop:=∀p∈ps,p.2.sc=true/\aB (.str p.1)=true
def gL (st:bh):List Nat:=st.shared.map (·.2)
structure kq (n:Nat)(st:bh):Prop where
 sh:∀i∈gL st,i<n
 shl:st.shared.length<=100
 of:∀o∈st.of,jL o.2.2/\o.2.2.length<=100/\∀g∈st.gs,qH (n+o.2.2.length) g
 uM:st.of.length<=900
abbrev fR (w:aH)(o:dr):aH:=(w.1++o.2.2,w.2++[o.2.1])
def fresh (lo:Int)(o:dr):Bool:=decide (lo<=((o.2.1:Nat):Int))
def fq (st:bh)(w:aH)(lo:Int):List aH:=(((fe st.of (f8 w.1 (gL st))).reverse.takeWhile (fresh lo)).map (fR w)).filter λx=>fg x.1 st.gs
def wa (C:Addr):Sp:=λvs H Q _=>∃M st w0 lo v0 v1,vs=[v0,v1,.int lo]/\au M H/\jZ C (but H M) v0 st/\al (but H M) v1 (db w0)/\jL w0.1/\w0.1.length<=500/\w0.2.length<=500/\kq w0.1.length st/\∀v H',ab H H'->al (but H' M) v (.lst ((fq st w0 lo).map db))->Q v H'
def Lp{is:List Nat}(a:jL S)(b:∀i∈is,i<S.length):bZ (f8 S is):=λx c=>by
 obtain ⟨p,d,rfl⟩:=Mx.mp c;exact (By a b p d).1
theorem BW{p:a->Bool}:∀{l:List a} {j:Nat} {y:a},(∀x∈l.take j,p x=true)->l[j]?=some y->p y=false->l.takeWhile p=l.take j
 |[],j,y,_,h,_=>by simp at h
 |x::r,0,y,_,h,b=>by
  simp at h;subst h;rw [Op,b];simp
 |x::r,j+1,y,c,h,b=>by
  have d:p x=true:=c x Z8;rw [Op,d];show x::r.takeWhile p=x::r.take j;rw [BW (l:=r) (j:=j) (λz e=>c z (by simp [e])) (by simpa using h) b]
theorem pR{p:a->Bool}:∀{l:List a},(∀x∈l,p x=true)->l.takeWhile p=l
 |[],_=>rfl
 |x::r,b=>by
  rw [Op,b x Z8];show x::r.takeWhile p=_;rw [pR λz c=>b z (by simp [c])]
section
variable {K:PySem.W.Frag}{G:Hp}{σ:St}{ty:TE}{i:Nat}{a C dx:Addr}{fs:List (Str×V)}{ao:Addr}{of:List dr}{key:List D}
def DK (T:dq K C)(n:bS K C "offers")(e:σ[i]?=some (some (.ref a)))(u:G a=some (.ins C dx fs))(w:fs.lookup ("offers":Str)=some (V.ref ao))(x:ou G ao of)(m:bZ key)(h:ae ty G σ (.tup key)):
  ae (pZ (lA K (aU i) "offers") ty (kn bL)) G σ (.lst (iC of key)):=λM H s l Q k=>by
 obtain ⟨d,y,E,p⟩:=x;have z:=(aw<|s _ _ u).2;have q:=(aw<|s _ _ y).2;refine ⟨.ref a,e,a,C,dx,fs,.ref ao,rfl,z,T,n,w,ao,rfl,.inr ⟨d,.inl q⟩,h M H s l _ λI J f A=>⟨MI _,λL g=>?_⟩⟩;obtain ⟨b,N,rfl,B,o⟩:=A.fb;have j:=(aw B).2;rw [mS m o] at j;have c:=da g (.lst []);have dz:=c _ _<|f _ _ q;refine ⟨br d<|cc key,c6.t dz<|c _ _ j,?_⟩;cases r:br d (cc key) with
 |none=>
  have:iC of key=[]:=by unfold iC;rw [(p key m).1 r];rfl
  rw [this] at k;exact k _ _ (f.trans c)<|oX (l.same f) g .nil
 |some v=>exact k _ _ (f.trans c)<|((p key m).2 v r).mono<|s.trans<|(f.trans c).but M
def GF {st:bh}{S:aR}{j:Nat}(e:σ[i]?=some (some (.ref a)))(hst:jZ C G (.ref a) st)(hS:jL S)(hg:∀g∈st.gs,qH S.length g)(h:ae (aU j) G σ (.lst (pairD S))):
  bg (tB (lR C "allows" (vo C) [] L2.E0 (aU i) (bu (aU j) bL))) G σ (fg S st.gs):=λM H s l Q k=>by
 obtain ⟨a',dx',v0,sa,v2,ao',oS,e1,g1,g2,g3,g4,g5⟩:=id hst;cases e1;refine ⟨.ref a,e,a,dx',_,rfl,(aw (s _ _ g1)).2,rfl,h M H s l _ λv H1 s1 r1=>?_⟩;exact ⟨M,st,S,.ref a,v,rfl,l.same s1,hst.mono (s.trans (s1.but M)),r1,hS,hg,λH2 s2=>⟨_,rfl,k H2 (s1.trans s2)⟩⟩
end
end FL
namespace FL
open PySem L2
def wI {a:List (aM×V)}{k:aM}{v:V}(h:br a k=none):cf a k v=a++[(k,v)]:=by
 unfold cf;rw [kI,h];rfl
theorem Cb:∀(b:aR) (a:List (aM×V)),(b.map (·.1)).Nodup->(∀p∈b,br a (Sum.inr p.1)=none)->b9 a (bI b)=a++bI b
 |[],a,_,_=>by rw [show bI []=[] from rfl,MP];rfl
 |p::r,a,c,d=>by
  rw [MW,Oi] at c;show b9 (cf a (Sum.inr p.1) p.2.toV) (bI r)=_;rw [wI<|d p Z8,Cb r _ c.2 ?_,M5]
  .rfl
  .intro x e;have f:¬(Sum.inr x.1:aM)=Sum.inr p.1:=λz=>c.1 (by rw [<-QN z];exact Mx.mpr ⟨x,e,rfl⟩);rw [<-wI (d p Z8),xf,Mj f];exact d x (by simp [e])
section
variable {σ:St}{δ:Dn}{M:List Addr}{H:Hp}{te:TE}{E:Ends}{K:PySem.W.Frag}
def Ht(l:au M H)(n:ax (but H M) σ δ)(B:i<δ.length)(h:ae te (but H M) σ (.lst (pairD ps)))(s:∀p∈ps,p.2.sc=true)(t:(ps.map (·.1)).Nodup)
  (k:∀p o b d,(∀j:Nat,j≠i->b[j]?=σ[j]?)->b[i]?=some (some (.ref p))->H p=none->p∉M->d p=some (.cW o (.dK (bI ps)))->ab H d->au M d->ax (but d M) b (δ.set i none)->E.nx b d):
  eF (Cj (cM (λw H Q=>∃a g e,w=[.ref a]/\aN K H a g/\Pairs K H g e/\∀p,H p=none->Q (.ref p) (upd H p (.dK (b9 [] e)))) (bu te bL))) (cx i) E σ H:=
 h M H (ab.refl _) l _ λv r f x=>by
  obtain ⟨a,g,rfl,y,z⟩:=x.dX;refine ⟨a,g,bI ps,rfl,aN.of (aw y).2,uD s z,λp c=>⟨p,_,rfl,aO,λo=>?_⟩⟩;rw [lj,Cb ps [] t λp _=>rfl,OC];have C:=n.len;have m:ab r (upd r p (.cW o (.dK<|bI ps))):=da c _;refine k p o _ _ (λj A=>Me<|M6 A) (Mr Z4) ?_ ((l.same f).fresh c) aO (f.trans m) ((l.same f).same m)<|(n.same<|f.trans m).off i _;cases q:H p with
  |none=>rfl
  |some u=>rw [f _ _ q] at c;cases c
end
theorem wV{H:Hp}:∀{os:ZX},(∀x∈os,∃o,H x=some o/\Seen o=false)->al (but H M) v d->al (but H (os++M)) v d
 |[],_,r=>r
 |x::os,h,r=>by
  obtain ⟨o,a,b⟩:=h x Z8;exact al.fi (M:=os++M) a b<|wV (λy c=>h y (by simp [c])) r
structure qD (C:Addr)(G:Hp)(us:List V)(ss:List bh):Prop where
 len:us.length=ss.length
 get:∀(j:Nat) s,ss[j]?=some s->∃v,us[j]?=some v/\jZ C G v s
theorem qD.mono(h:qD C G d f)(e:ab G c):qD C c d f:=⟨h.len,λj s q=>let ⟨v,a,b⟩:=h.get j s q;⟨v,a,b.mono e⟩⟩
structure eG (C:Addr)(H:Hp)(Z:List Addr)(us:List V)(oss:List (List Addr))(ss:List bh):Prop where
 l1:us.length=ss.length
 l2:oss.length=ss.length
 get:∀(j:Nat) s,ss[j]?=some s->∃a os,us[j]?=some (.ref a)/\oss[j]?=some os/\g8 C H Z a os s/\∀x∈os,x∈Z
 apart:∀(i j:Nat) oi oj,i≠j->oss[i]?=some oi->oss[j]?=some oj->∀x∈oi,x∉oj
theorem eG.mono(h:eG C H Z d b f)(e:ab H c):eG C c Z d b f:=⟨h.l1,h.l2,λj s q=>let ⟨a,os,g,i,k,l⟩:=h.get j s q;⟨a,os,g,i,k.mono e,l⟩,h.apart⟩
theorem eG.rep{M:ZX}(h:eG C H Z c b d)(e:∀x∈M,x∈Z)(f:∀os∈b,∀x∈os,x∉M):qD C (but H M) c d:=⟨h.l1,λj s q=>by
 obtain ⟨a,os,g,i,k,l⟩:=h.get j s q;exact ⟨_,g,k.rep e<|f os<|Mi i⟩⟩
theorem eG.frame{d:Hp}{Z':ZX}(h:eG C H Z g c i)(l:∀x∈Z,x∈Z')(k:∀b u,(∃os∈c,b∈os)->H b=some u->d b=some u)(S:ab (but H Z) (but d Z')):eG C d Z' g c i:=⟨h.l1,h.l2,λj s q=>by
 obtain ⟨a,os,n,m,o,e⟩:=h.get j s q;exact ⟨a,os,n,m,o.frame e (λx f=>l x<|e x f) (λb u p=>k b u ⟨os,Mi m,p⟩) S,λx f=>l x<|e x f⟩,h.apart⟩
def eG.zY{d:Hp}{e:ZX}(h:eG C H Z g c i)(l:∀os∈c,∀x∈os,x∈e)(k:∀b u,(∃os∈c,b∈os)->H b=some u->d b=some u)(S:ab (but H Z) (but d e)):eG C d e g c i:=⟨h.l1,h.l2,λj s q=>by
 obtain ⟨a,os,n,m,o,p⟩:=h.get j s q;have f:=Mi m;exact ⟨a,os,n,m,o.frame p (l os f) (λb u r=>k b u ⟨os,f,r⟩) S,l os f⟩,h.apart⟩
theorem eU.fi(h:eU H Z p c e)(i:H x=some o)(j:Seen o=false):eU H (x::Z) p c e:=by
 obtain ⟨d,k,m,n,f,q⟩:=h.kvs;refine ⟨⟨d,k,m,n,λb g=>⟨(f b g).1,λv r=>?_⟩,q⟩,h.lists,h.apart⟩;obtain ⟨l,s,t,u,w,y⟩:=(f b g).2 v r;refine ⟨l,s,t,u,w,?_⟩;have A:=aE.fi i j y;rwa [jQ (M':=c++p::x::Z) λa=>by
  simp only [Mn,MB];constructor
  .rintro (z|z|z|z)
   .exact .inr (.inr (.inl z))
   .exact .inl z
   .exact .inr (.inl z)
   .exact .inr (.inr (.inr z))
  .rintro (z|z|z|z)
   .exact .inr (.inl z)
   .exact .inr (.inr (.inl z))
   .exact .inl z
   .exact .inr (.inr (.inr z))] at A
theorem eG.fi(h:eG C H Z g b i)(d:H x=some (.ins k c l))(e:Seen (.ins k c l)=false):eG C H (x::Z) g b i:=⟨h.l1,h.l2,λj s q=>by
 obtain ⟨a,os,n,o,p,r⟩:=h.get j s q;refine ⟨a,os,n,o,?_,λy t=>L8 _<|r y t⟩;obtain ⟨u,v,m,w,A,B,E,G,I,J,L,M,N⟩:=p.at_;refine ⟨⟨u,v,m,w,A,B,E,G,I,al.fi d e J,?_,al.fi d e M,N.fi d e⟩⟩;obtain ⟨O,f⟩:=aw L;have Q:m≠x:=λz=>by rw [z,d] at f;cases f
 rw [bn (by simp only [Mn,Q2];exact ⟨Q,O⟩)];exact f,h.apart⟩
def eG.put{G:Hp}{j:Nat}{os c:ZX}(h:eG C H Z I f y)(l:au Z H)(Y:y[j]?=some s)(ha:I[j]?=some (.ref a))(J:f[j]?=some os)
  (n:∀x∈c,x∈os\/H x=none) (k:∀b u,b∉os->H b=some u->G b=some u) (L:∀x∈os,x∈Z) (A:g8 C G (c++Z) a c Q):eG C G (c++Z) I (f.set j c) (y.set j Q):=by
 have S:=uR n L k;have M:=(Ma.mp Y).1;have ac:=h.l2;have o:j<f.length:=by omega
 refine ⟨by rw [NH];exact h.l1,by rw [NH,NH];exact h.l2,λi t q=>?_,λi m T r g v p x d=>?_⟩
 .by_cases e:j=i
  .subst e;rw [Mr M] at q;cases q;exact ⟨a,c,ha,Mr o,A,λx d=>Ms _ d⟩
  .rw [Me e] at q
   obtain ⟨a2,N,h1,B,h3,E⟩:=h.get i t q;refine ⟨a2,N,h1,by rw [Me e];exact B,h3.frame E (λx d=>Ml _<|E x d) (λb u hb=>k b u λz=>h.apart j i os N e J B b z hb) S,λx d=>Ml _<|E x d⟩
 .have fL:∀{m:Nat} {r:ZX} {x:Addr},f[m]?=some r->x∈r->x∈Z:=λ{m r x} q d=>by
   have hm:=(Ma.mp q).1;have O:m<y.length:=by omega
   obtain ⟨_,N,_,B,_,E⟩:=h.get m y[m]<|Mb O;rw [q] at B;cases B;exact E x d
  by_cases e:j=i
  .subst e;rw [Mr o] at v;cases v;rw [Me g] at p;rcases n x d with z|z
   .exact h.apart j m os r g J p x z
   .intro w;exact l x (fL p w) z
  .rw [Me e] at v
   by_cases U:j=m
   .subst U;rw [Mr o] at p;cases p;intro w;rcases n x w with z|z
    .exact h.apart i j T os g v J x d z
    .exact l x (fL v d) z
   .rw [Me U] at p
    exact h.apart i m T r g v p x d
def qd (C:Addr)(G:Hp)(v:V)(os:List Addr)(s:bh):Prop:=∃a dx v0 sa v2 ao oS,v=.ref a/\os=[a,ao]/\G a=some (.ins C dx (jJ v0 sa v2 ao s.newest))/\al G v0 (.tup s.cJ)/\G sa=some (.cW oS (.dK (fV s.shared)))/\al G v2 (.lst (s.gs.map kN))/\G ao=some (.dT [])/\s.of=[]
theorem qd.mono{os:ZX}(e:ab G b)(h:qd C G v os s):qd C b v os s:=by
 obtain ⟨a,c,d,f,g,i,j,k,l,m,n,o,p,q,r⟩:=h;exact ⟨a,c,d,f,g,i,j,k,l,e _ _ m,n.mono e,e _ _ o,p.mono e,e _ _ q,r⟩
structure gM (C:Addr)(G:Hp)(us:List V)(oss:List (List Addr))(ss:List bh):Prop where
 l1:us.length=ss.length
 l2:oss.length=ss.length
 get:∀(j:Nat) s,ss[j]?=some s->∃v os,us[j]?=some v/\oss[j]?=some os/\qd C G v os s
 apart:∀(i j:Nat) oi oj,i≠j->oss[i]?=some oi->oss[j]?=some oj->∀x∈oi,x∉oj
def gM.nil:gM C G [] [] []:=⟨rfl,rfl,λj s q=>by simp at q,λi j a b _ q=>by simp at q⟩
theorem gM.mono(h:gM C G c a d)(e:ab G b):gM C b c a d:=⟨h.l1,h.l2,λj s q=>let ⟨v,os,f,g,i⟩:=h.get j s q;⟨v,os,f,g,i.mono e⟩,h.apart⟩
def gM.seen(h:gM C G i b c){j:Nat}{os:ZX}(e:b[j]?=some os):∀x∈os,∃o,G x=some o/\Seen o=false:=λx f=>by
 have p:=(Ma.mp e).1;have q:=h.l2;have d:j<c.length:=by omega
 obtain ⟨v,r,_,g,a,s,t,u,w,k,y,A,l,m,B,E,H,n,I⟩:=h.get j c[j]<|Mb d;rw [e] at g;cases g;rw [l] at f;rcases Mn.mp f with z|z
 .rw [z];exact ⟨_,m,rfl⟩
 .have:x=k:=by simpa using z
  rw [this];exact ⟨_,n,rfl⟩
def gM.snoc{os:ZX}(h:gM C G u c A)(J:qd C G v os s)(B:∀o∈c,∀x∈o,x∉os):gM C G (u++[v]) (c++[os]) (A++[s]):=by
 have f:=h.l1;have g:=h.l2;have a:∀{p:Type} {l:List p} {x y:p} {j:Nat},(l++[x])[j]?=some y->(j<l.length/\l[j]?=some y)\/(j=l.length/\y=x):=λ{p l x y j} q=>by
  by_cases r:j<l.length
  .rw [ME r] at q;exact .inl ⟨r,q⟩
  .rw [MJ<|MV r] at q
   have:j-l.length=0:=by
    have:=(Ma.mp q).1;simp at this;exact this
   rw [this] at q;exact .inr ⟨by omega,by simpa using q.symm⟩
 refine ⟨by simp [f],by simp [g],λj t q=>?_,λi j E H k L I x m=>?_⟩
 .rcases a q with ⟨d,b⟩|⟨d,b⟩
  .obtain ⟨w,M,N,O,Q⟩:=h.get j t b;exact ⟨w,M,by rw [ME Z4];exact N,by rw [ME Z4];exact O,Q⟩
  .subst b;refine ⟨v,os,?_,?_,J⟩
   .rw [d,<-f,MJ<|Mh _];simp
   .rw [d,<-g,MJ<|Mh _];simp
 .rcases a L with ⟨d,b⟩|⟨d,b⟩
  .rcases a I with ⟨n,e⟩|⟨n,e⟩
   .exact h.apart i j E H k b e x m
   .rw [e];exact B E (Mi b) x m
  .rcases a I with ⟨n,e⟩|⟨n,e⟩
   .rw [b] at m
    exact λz=>B H (Mi e) x z m
   .exact absurd (d.trans n.symm) k
def gM.own(h:gM C (but H M) y b g):eG C H (b.flatten++M) y b g:=by
 have c:∀x∈b.flatten,∃o,H x=some o/\Seen o=false:=λx e=>by
  obtain ⟨os,G,e⟩:=M1.mp e;obtain ⟨j,I⟩:=MY.mp G;obtain ⟨o,m,k⟩:=h.seen I x e;exact ⟨o,(aw m).2,k⟩
 refine ⟨h.l1,h.l2,λj s q=>?_,h.apart⟩;obtain ⟨v,os,m,k,a,J,L,A,N,O,Q,rfl,T,U,Y,q5,q6,q7,q8⟩:=h.get j s q;have n:∀x∈os,x∈b.flatten++M:=λx e=>Ms _<|M1.mpr ⟨os,Mi k,e⟩
 refine ⟨a,os,m,k,⟨⟨J,L,A,N,O,[],Q,T,(aw U).2,wV c Y,?_,wV c q6,?_⟩⟩,n⟩
 .obtain ⟨r1,d⟩:=aw q5;rw [bn]
  .exact d
  .intro z;rcases MB.mp z with z|z
   .obtain ⟨ac,p,f⟩:=M1.mp z;obtain ⟨i,B⟩:=MY.mp p;have r:i<g.length:=by have:=(Ma.mp B).1;have:=h.l2;omega
    obtain ⟨v',o2,_,E,a',af,aj,am,an,t,as,e1,e2,e3,e4,e5,e6,e7,e8⟩:=h.get i g[i]<|Mb r;rw [B] at E;cases E;rw [e2] at f;rcases Mn.mp f with w|w
    .rw [w] at d;rw [(aw e3).2] at d;cases d
    .have w:A=t:=by simpa using w
     rw [w,(aw e7).2] at d;cases d
   .exact r1 z
 .rw [q8]
  exact ⟨⟨[],(aw q7).2,Mh _,⟨λ_=>rfl,λ_=>rfl⟩,λa0 hk=>⟨λ_=>rfl,λv u=>by simp [br] at u⟩,λ_ _ _ _ _ u=>by simp [br] at u⟩,(λl hl=>nomatch hl),(λz=>nomatch z)⟩
def jt (a:List D)(B:List Str):List (Str×Nat):=((ak [] a).filter λb=>decide (b∈B)).map λb=>(b,B.idxOf b)
def oy (a:List D)(B:List Str)(W:List (List D)):bh:=⟨a,jt a B,(W.filter λg=>cz g (ak B a)).map λg=>(g,c7 g (ak B a)),[],-1⟩
def cP:List (List D)->List Str->List (List D)->List bh
 |[],_,_=>[]
 |a::r,B,W=>oy a B W::cP r (ak B a) (W.filter λg=> !cz g (ak B a))
def Je (B:ZY)(n:Str)(h:n∉B):cf (dZ B) (Sum.inr n) (V.int (B.length:Nat))=dZ (B++[n]):=by
 have a:=slot_get B n;rw [Mj h] at a;unfold cf;rw [kI,a];show dZ B++_=_;unfold dZ;rw [List.zipIdx_append,MK,Og];rfl
def yE (B:ZY):(dZ B).length=B.length:=by unfold dZ;rw [Md,Qf]
def IT{E:Ends}{i:Nat}(l:au M H)(y:ax (but H M) f w)(s:p∈M)(e:f[i]?=some (some (.ref p)))(t:H p=some (.dK (dZ B)))(z:B.length<sizeLine)(h:ae x (but H M) f (.str n))
  (k:∀g,(∀b o,b≠p->H b=some o->g b=some o)->au M g->g p=some (.dK (dZ (if n∈B then B else B++[n])))->ax (but g M) f w->E.nx f g):ki (uN (aU i) x (cM vc (bu (aU i) bL))) E f H:=by
 refine ⟨.ref p,e,p,rfl,.inl ⟨_,.inl t⟩,h M H (ab.refl _) l _ λv m c A=>⟨.ref p,e,.inl ⟨p,dZ B,rfl,.inl<|c _ _ t,?_⟩⟩⟩;have a:=c _ _ t;have u:=(fO (d:=.str n) rfl A).2;have r:=slot_get B n;by_cases j:n∈B
 .rw [Mp j] at r
  refine ⟨_,m,.inl ⟨by rw [u,<-r];exact c6.k a,rfl,_,a⟩,k m (λb o _ q=>c _ _ q) (l.same c) (by rw [Mp j];exact a)<|y.same c⟩
 .rw [Mj j] at r
  refine ⟨_,_,.inr ⟨by rw [u,<-r];exact c6.k a,rfl,by rw [u];exact gi.k (k:=Sum.inr n) a (by rw [yE];exact z)⟩,?_⟩;have C:but (upd m p (.dK<|cf (dZ B) (Sum.inr n) (.int ((dZ B).length:Nat)))) M=but m M:=dN s;refine k _ (λb o G q=>by rw [aD G];exact c _ _ q) (l.same c).upd ?_ (by rw [C];exact y.same c);rw [aO,yE,Je B n j,Mj j]
section
variable {H:Hp}{M:List Addr}{b p:Addr}{σ:St}{δ:Dn}{kvs:List (aM×V)}
def xn:ab (but H (b::p::M)) (but H (b::M)):=eA λx a=>by
 rcases Mn.mp a with z|z
 .rw [z];exact Mc
 .exact L8 _<|L8 _ z
def Lk:ab (but H (p::b::M)) (but H (b::p::M)):=eA λx a=>by
 rcases Mn.mp a with z|z
 .rw [z];exact L8 _ Mc
 .rcases Mn.mp z with z|z
  .rw [z];exact Mc
  .exact L8 _<|L8 _ z
def yz (h:ax (but H (b::M)) σ δ)(a:H p=some (.dK kvs)):ax (but H (b::p::M)) σ δ:=(h.fi a rfl).mono Lk
end
def Jk{a L:ZY}{k:Nat}(f:L.Nodup)(h:L[k]?=some n):(if n∈a++(L.take k).filter (λx=> !decide (x∈a)) then a++(L.take k).filter (λx=> !decide (x∈a)) else a++(L.take k).filter (λx=> !decide (x∈a))++[n])=a++(L.take (k+1)).filter (λx=> !decide (x∈a)):=by
 have d:n∉L.take k:=λz=>by
  obtain ⟨i,e⟩:=MY.mp z;have b:i<k:=by
   have:=(Ma.mp e).1;rw [MT] at this;omega
  rw [NP b] at e;exact MM b<|xS f e h
 rw [MX,h,Nu];by_cases c:n∈a
 .rw [Mp<|Ms _ c]
  simp [c]
 .rw [Mj (by
   intro z;rcases MB.mp z with z|z
   .exact c z
   .exact d (Mq.mp z).1),M5]
  simp [c]
def dj (g:List D):Bool:= !((ak [] g).map D.str).isEmpty
def pC (as:List (List D)):Prop:=(∀a∈as,dF a)/\as.length<=100
def eY (as:List (List D)):List bh:=cP (as.filter λa=> !aJ a) [] ((as.filter aJ).filter dj)
def zX (C:Addr):Sp:=λvs H Q _=>∃M as v0,vs=[v0]/\au M H/\al (but H M) v0 (cb as)/\pC as/\
 ∀p us oss H',ab H H'->but H' M p=some (.lst us)->gM C (but H' M) us oss (eY as)->(∀os∈oss,∀x∈os,H x=none)->H p=none->Q (.ref p) H'
def tm (q:D->Bool)(r:ZZ->Bool)(F:D->D)(c:ZZ->D)(b:ZW)(h:∀a∈b,q (.tup a)=r a)(d:∀a∈b,F (.tup a)=c a):((b.map D.tup).filter q).map F=(b.filter r).map c:=by
 rw [NK,MU];have e:b.filter (q∘D.tup)=b.filter r:=NR h;rw [e];exact ML λa f=>d a (Mq.mp f).1
def uv (r:List D->Bool):D->Bool
 |.tup a=>r a
 |_=>false
def yY (r:List D->D):D->D
 |.tup a=>r a
 |_=>.av
end FL
namespace FL
open PySem L2
structure bV where
 steps:List bh
 fE:Bool
 taken:Nat
 fresh:Nat
 last:Int
abbrev iO (sl:Addr)(b:Bool)(t f l:Int):List (Str×V):=[("steps",.ref sl),("is_barred",.bl b),("taken_in",.int t),("fresh",.int f),("last_fresh_step",.int l)]
structure lJ (K:PySem.W.Frag)(C:Addr):Prop where
 cl:dq K C
 nS:bS K C "steps"
 nB:bS K C "is_barred"
 nT:bS K C "taken_in"
 nF:bS K C "fresh"
 nL:bS K C "last_fresh_step"
def hU (C CL:Addr)(H:Hp)(Z:List Addr)(a:Addr)(oss:List (List Addr))(lm:bV):Prop:=∃dx sl us,H a=some (.ins CL dx (iO sl lm.fE lm.taken lm.fresh lm.last))/\but H Z sl=some (.lst us)/\eG C H Z us oss lm.steps/\a∈Z/\∀os∈oss,a∉os
def iJ (C CL:Addr)(G:Hp)(v:V)(lm:bV):Prop:=∃a dx sl us,v=.ref a/\G a=some (.ins CL dx (iO sl lm.fE lm.taken lm.fresh lm.last))/\G sl=some (.lst us)/\qD C G us lm.steps
theorem iJ.mono(h:iJ C b G v d)(e:ab G c):iJ C b c v d:=by
 obtain ⟨a,f,g,i,j,k,l,m⟩:=h;exact ⟨a,f,g,i,j,e _ _ k,e _ _ l,m.mono e⟩
theorem hU.rep{M:ZX}(h:hU C c H Z a b d)(e:∀x∈M,x∈Z)(f:a∉M)(g:∀os∈b,∀x∈os,x∉M):iJ C c (but H M) (.ref a) d:=by
 obtain ⟨i,j,k,l,m,n,o,p⟩:=h;exact ⟨a,i,j,k,rfl,by rw [bn f];exact l,(eA e) _ _ m,n.rep e g⟩
def k9 (as:List (List D)):Bool:= !((as.filter aJ).filter λg=> !dj g).all holdsA
def bR (as:List (List D)):bV:=⟨eY as,k9 as,0,0,-1⟩
def ti (as:List (List D)):Prop:=∀g∈as,aJ g=true->∃r a b,g=[.str r,a,b]
def xp (C CL:Addr):Sp:=λvs H Q _=>∃M as x dx v1,vs=[.ref x,v1]/\H x=some (.ins CL dx [])/\au M H/\al (but H M) v1 (cb as)/\pC as/\ti as/\
 ∀oss H',(∀b u,b≠x->H b=some u->H' b=some u)->(∀os∈oss,∀y∈os,H y=none)->au (oss.flatten++x::M) H'->hU C CL H' (oss.flatten++x::M) x oss (bR as)->Q .av H'
def ci (s:bh)(n:Nat)(facts:List (List D)):bh:=(facts.zipIdx n).foldl (λs p=>cK s p.2 p.1) s
def DP {s:bh}{n j:Nat}{a:ZW}{g:ZZ}(h:a[j]?=some g):ci s n (a.take (j+1))=cK (ci s n (a.take j)) (n+j) g:=by
 have c:j<a.length:=(Ma.mp h).1;unfold ci;rw [MX,h,List.zipIdx_append,Nx];have b:(a.take j).length=j:=by rw [MT];omega
 rw [b];rfl
def Ia (s:bh)(n:Nat)(g:ZZ):(cK s n g).of.length<=s.of.length+1:=by
 unfold cK;split
 .simp
 .omega
def KJ (s:bh)(n:Nat)(g:ZZ):(cK s n g).cJ=s.cJ:=by
 unfold cK;split<;>rfl
theorem xa (n:Nat)(s:bh):∀(l:List (ZZ×Nat)) (s:bh),((l.foldl (λs p=>cK s p.2 p.1) s).of.length<=s.of.length+l.length)/\(l.foldl (λs p=>cK s p.2 p.1) s).cJ=s.cJ
 |[],s=>⟨Mh _,rfl⟩
 |p::r,s=>by
  obtain ⟨b,a⟩:=xa n s r<|cK s p.2 p.1;have c:=Ia s p.2 p.1;refine ⟨?_,?_⟩
  .show (r.foldl _<|cK s p.2 p.1).of.length<=_;rw [MN];omega
  .show (r.foldl _<|cK s p.2 p.1).cJ=_;rw [a,KJ]
def ze (s:bh)(n:Nat)(a:ZW):(ci s n a).of.length<=s.of.length+a.length:=by
 have:=(xa n s (a.zipIdx n) s).1;rw [Qf] at this;exact this
def Fj (s:bh)(n:Nat)(a:ZW):(ci s n a).cJ=s.cJ:=(xa n s (a.zipIdx n) s).2
def kg (ss:List bh)(n:Nat):Int:=dM (((List.range ss.length).filter λj=>decide ((n:Int)<=(ss.getD j ⟨[],[],[],[],-1⟩).newest)).map λj=>((j:Nat):Int)) (-1)
def bX (lm:bV)(facts:List (List D)):bV:=⟨lm.steps.map λs=>ci s lm.taken facts,lm.fE,lm.taken+facts.length,lm.taken,kg (lm.steps.map λs=>ci s lm.taken facts) lm.taken⟩
def zc (C CL:Addr):Sp:=λvs H Q _=>∃Z oss lm facts a v1,vs=[.ref a,v1]/\au Z H/\hU C CL H Z a oss lm/\al (but H Z) v1 (.lst (facts.map D.tup))/\(∀g∈facts,ja g)/\(∀s∈lm.steps,dF s.cJ/\s.of.length+facts.length<1000)/\lm.steps.length<=100/\lm.taken+facts.length<2^60/\
 ∀oss' H',(∀os∈oss',∀x∈os,(∃o∈oss,x∈o)\/H x=none)->(∀b u,b≠a->(∀os∈oss,b∉os)->H b=some u->H' b=some u)->au (oss'.flatten++Z) H'->hU C CL H' (oss'.flatten++Z) a oss' (bX lm facts)->Q .av H'
structure iR (C:Addr)(us:List V)(H2:Hp)(Z2:List Addr)(oss:List (List Addr))(H':Hp)(Z':List Addr)(oss':List (List Addr))(ss':List bh):Prop where
 st:eG C H' Z' us oss' ss'
 own:∀os∈oss',∀x∈os,(∃o∈oss,x∈o)\/H2 x=none
 keep:∀b u,(∀os∈oss,b∉os)->H2 b=some u->H' b=some u
 live:au Z' H'
 sub:∀x∈Z2,x∈Z'
 sup:∀x∈Z',x∈Z2\/∃os∈oss',x∈os
section
variable {C:Addr}{us:List V}{H2 H' H'':Hp}{Z2 Z':List Addr}{oss oss':List (List Addr)}{ss':List bh}
def iR.same (h:iR C us H2 Z2 oss H' Z' oss' ss')(j:∀os∈oss,∀x∈os,x∈Z2):ab (but H2 Z2) (but H' Z'):=λb u e=>by
 obtain ⟨g,a⟩:=aw e;have i:∀os∈oss,b∉os:=λos c z=>g<|j os c b z;rw [bn]
 .exact h.keep b u i a
 .intro z;rcases h.sup b z with w|⟨os,c,w⟩
  .exact g w
  .rcases h.own os c b w with ⟨o,d,f⟩|f
   .exact i o d f
   .rw [f] at a;cases a
theorem iR.mono (h:iR C us H2 Z2 oss H' Z' oss' ss')(e:ab H' H''):iR C us H2 Z2 oss H'' Z' oss' ss':=⟨h.st.mono e,h.own,λb u a q=>e _ _<|h.keep b u a q,h.live.same e,h.sub,h.sup⟩
theorem iR.put{j:Nat}{os c:ZX}(h:iR C us H2 Z2 oss H' Z' oss' ss')(G:ss'[j]?=some s)(H:us[j]?=some (.ref a))(m:oss'[j]?=some os)(r:∀x∈os,x∈Z')
  (n:∀x∈c,x∈os\/H' x=none) (t:∀x∈os,x∈c) (k:∀b u,b∉os->H' b=some u->H'' b=some u) (l:au (c++Z') H'') (A:g8 C H'' (c++Z') a c B):iR C us H2 Z2 oss H'' (c++Z') (oss'.set j c) (ss'.set j B):=by
 have p:j<oss'.length:=(Ma.mp m).1;have mem_set:∀{o:ZX},o∈oss'.set j c->o=c\/o∈oss':=λ{o} q=>by
  rcases Oa q with z|z
  .exact .inr z
  .exact .inl z
 have g:∀{x:Addr},H' x=none->(∃o∈oss,x∈o)\/H2 x=none:=λ{x} e=>by
  by_cases z:∃o∈oss,x∈o
  .exact .inl z
  .cases q:H2 x with
   |none=>exact .inr rfl
   |some u=>
    have:=h.keep x u (λo d f=>z ⟨o,d,f⟩) q;rw [e] at this;cases this
 refine ⟨h.st.put h.live G H m n k r A,λo I x f=>?_,λb u E q=>?_,l,λx f=>Ml _<|h.sub x f,λx f=>?_⟩
 .rcases mem_set I with z|z
  .subst z;rcases n x f with w|w
   .exact h.own os (Mi m) x w
   .exact g w
  .exact h.own o z x f
 .have v:=h.keep b u E q;refine k b u (λz=>?_) v;rcases h.own os (Mi m) b z with ⟨o,d,w⟩|w
  .exact E o d w
  .rw [q] at w;cases w
 .rcases MB.mp f with z|z
  .exact .inr ⟨c,MY.mpr ⟨j,Mr p⟩,z⟩
  .rcases h.sup x z with w|⟨o,d,w⟩
   .exact .inl w
   .obtain ⟨i,y⟩:=MY.mp d;by_cases e:j=i
    .subst e;rw [m] at y;cases y;exact .inr ⟨c,MY.mpr ⟨j,Mr p⟩,t x w⟩
    .exact .inr ⟨o,MY.mpr ⟨i,by rw [Me e];exact y⟩,w⟩
end
end FL
namespace FL
open PySem L2
def eD (lm:bV):List aH:=if (lm.fE||(decide (lm.last<0)&&decide ((0:Int)<lm.fresh)))=true then [] else if (lm.steps.all λs=>decide ((0:Int)<=s.newest))=true then [([],[])] else []
def gT (lm:bV)(w:aH):Int:=if (decide (((w.2.length:Nat):Int)=lm.last)&&decide (dM (w.2.map λn=>((n:Nat):Int)) (-1)<lm.fresh))=true then lm.fresh else 0
def cn (lm:bV)(w:aH):List aH:=match lm.steps[w.2.length]? with
 |some st=>fq st w (gT lm w)
 |none=>[]
def cR (lm:bV):Nat->aH->List aH
 |0,w=>[w]
 |n+1,w=>(cn lm w).reverse.flatMap (cR lm n)
def dP (lm:bV):Nat->aH->Nat
 |0,_=>1
 |n+1,w=>1+((cn lm w).map (dP lm n)).sum
def zS (a:bV):∀(n:Nat) (w:aH),1<=dP a n w
 |0,_=>Mh _
 |n+1,w=>Nb _ _
def bT (lm:bV)(w:aH):Nat:=lm.steps.length-w.2.length
def jN(h:x∈cn lm w):x.2.length=w.2.length+1:=by
 unfold cn at h;split at h
 .unfold fq at h;obtain ⟨o,a,rfl⟩:=Mx.mp (Mq.mp h).1;show (w.2++[o.2.1]).length=_;rw [Mv];rfl
 .cases h
def EE {a:bV}{w:aH}(h:w.2.length<a.steps.length):cR a (bT a w) w=(cn a w).reverse.flatMap λx=>cR a (bT a x) x:=by
 have e:bT a w=bT a w-1+1:=by unfold bT;omega
 rw [e];show (cn a w).reverse.flatMap (cR a<|bT a w-1)=_;have:∀(L:List aH),(∀x∈L,x.2.length=w.2.length+1)->L.flatMap (cR a<|bT a w-1)=L.flatMap λx=>cR a (bT a x) x:=by
  intro L;induction L with
  |nil=>exact λ_=>rfl
  |cons x r c=>
   intro b;have d:bT a x=bT a w-1:=by have:=b x Mc;unfold bT;omega
   rw [Nf,Nf,c λy f=>b y<|L8 _ f,d]
 exact this _ λx b=>jN<|NU.mp b
def Ew {a:bV}{w:aH}(h:w.2.length<a.steps.length):dP a (bT a w) w=1+((cn a w).map λx=>dP a (bT a x) x).sum:=by
 have e:bT a w=bT a w-1+1:=by unfold bT;omega
 rw [e];show 1+((cn a w).map<|dP a<|bT a w-1).sum=_;congr 2;exact ML λx b=>by
  have c:bT a x=bT a w-1:=by have:=jN b;unfold bT;omega
  rw [c]
theorem vk (a:bV):∀(l:List aH),l.length<=(l.map λw=>dP a (bT a w) w).sum
 |[]=>Mh _
 |w::r=>by
  rw [MW,Qs,MN];have:=vk a r;have:=zS a (bT a w) w;omega
structure kL (sz:Nat->Nat)(ss:List bh):Prop where
 zero:sz 0=0
 st:∀k s,ss[k]?=some s->kq (sz k) s/\∀o∈s.of,sz k+o.2.2.length=sz (k+1)
 le:∀k,sz k<=500
 len:ss.length<=100
structure GoodW (sz:Nat->Nat)(ss:List bh)(w:aH):Prop where
 one:w.1.length=sz w.2.length
 two:w.2.length<=ss.length
 ok:jL w.1
def GoodW.nil(h:kL a b):GoodW a b ([],[]):=⟨h.zero.symm,MI _,λp c=>nomatch c⟩
def Bi{e:bV}(h:kL d e.steps)(g:GoodW d e.steps w):∀x∈cn e w,GoodW d e.steps x:=λx a=>by
 have b:=jN a;unfold cn at a;split at a
 .rename_i s i
  unfold fq at a;obtain ⟨o,j,rfl⟩:=Mx.mp (Mq.mp a).1;have f:o∈(fe s.of<|f8 w.1<|gL s).reverse:=(OE _).subset j;have c:o∈s.of:=(Mq.mp<|NU.mp f).1;obtain ⟨k,l⟩:=h.st _ s i;have m:=(Ma.mp i).1;refine ⟨?_,?_,λp n=>?_⟩
  .show (w.1++o.2.2).length=d (w.2++[o.2.1]).length;have b:(w.2++[o.2.1]).length=w.2.length+1:=b;rw [Mv,g.one,l o c,b]
  .have b:(fR w o).2.length=w.2.length+1:=b;rw [b];omega
  .rcases MB.mp n with z|z
   .exact g.ok p z
   .exact (k.of o c).1 p z
 .cases a
def CS (C CL:Addr):Sp:=λvs H Q _=>∃M lm v0,vs=[v0]/\au M H/\iJ C CL (but H M) v0 lm/\lm.steps.length<=100/\∀p us H',ab H H'->H p=none->H' p=some (.lst us)->aE (but H' (p::M)) us ((eD lm).map db)->Q (.ref p) H'
def vI (C CL:Addr):Sp:=λvs H Q _=>∃M lm w0 v0 v1,vs=[v0,v1]/\au M H/\iJ C CL (but H M) v0 lm/\al (but H M) v1 (db w0)/\∀H',ab H H'->Q (.bl (decide (w0.2.length=lm.steps.length))) H'
def uP (C CL:Addr):Sp:=λvs H Q _=>∃M lm w0 v0 v1 sz,vs=[v0,v1]/\au M H/\iJ C CL (but H M) v0 lm/\al (but H M) v1 (db w0)/\kL sz lm.steps/\GoodW sz lm.steps w0/\w0.2.length<lm.steps.length/\∀v H',ab H H'->al (but H' M) v (.lst ((cn lm w0).map db))->Q v H'
def fZ (as facts:List (List D)):List aH:=(eD (bX (bR as) facts)).flatMap λw=>cR (bX (bR as) facts) (bT (bX (bR as) facts) w) w
section
variable {K:PySem.W.Frag}{G:Hp}{σ:St}{te:TE}{a:Addr}{us:List V}
def Iz (h:nj te G σ a)(d:G a=some (.lst us)):ae (cM (λe H Q=>∃p b,e=[.ref p]/\(aN K H p b\/bz K H p b)/\Q (.int b.length) H) (bu te bL)) G σ (.int (us.length:Nat)):=
 λM H s l Q k=>h M H s l _ λf c=>⟨a,us,rfl,.inl<|aN.of<|c _ _ (aw<|s _ _ d).2,k _ f c (.int _)⟩
def yG{st:bh}{d:aH}{lo:Int}(h:nj te G σ a)(A:G a=some (.lst us))(B:ae (aU i) G σ (.int (m:Nat)))(E:us[m]?=some v)(j:jZ C G v st)(I:jL d.1)(o:d.1.length<=500)(p:d.2.length<=500)(J:kq d.1.length st)(L:ae (aU n) G σ (db d))(r:ae (aU q) G σ (.int lo)):
  ae (lR C "carry_on" (wa C) [] L2.E0 (bJ (d6 K) te (aU i)) (bu (aU n) (bu (aU q) bL))) G σ (.lst ((fq st d lo).map db)):=λM H s l Q k=>by
 refine h M H s l _ λN f=>B M N (s.trans<|f.but M) (l.same f) _ λy O w T=>.inl ⟨a,us,_,v,rfl,T.eM,aN.of<|w _ _<|f _ _ (aw<|s _ _ A).2,tR E,?_⟩;have b:=f.trans w;have c:=j.mono<|s.trans<|b.but M
 obtain ⟨x,t,w1,sa,w3,U,oS,rfl,Y,g2,g3,g4,g5⟩:=id c;refine ⟨x,t,_,rfl,(aw Y).2,rfl,L M O (s.trans<|b.but M) (l.same b) _ λu H2 e ru=>r M H2 (s.trans<|(b.trans e).but M) (l.same<|b.trans e) _ λz H3 g rz=>?_⟩;have ez:=rz.eM;subst ez;exact ⟨M,st,d,lo,.ref x,u,rfl,l.same<|b.trans<|e.trans g,c.mono<|(e.trans g).but M,ru.mono<|g.but M,I,o,p,J,λv' H4 s4 r4=>k v' H4 (b.trans<|e.trans<|g.trans s4) r4⟩
def Hy {C CL:Addr}{i j:Nat}{lm:bV}{w0:aH}(e:σ[i]?=some (some (.ref a)))(hL:iJ C CL G (.ref a) lm)(h:ae (aU j) G σ (db w0)):bg (tB (lR CL "is_whole" (vI C CL) [] L2.E0 (aU i) (bu (aU j) bL))) G σ (decide (w0.2.length=lm.steps.length)):=λM H s l Q k=>by
 obtain ⟨a',dx',sl,us,e1,g1,g2,g3⟩:=id hL;cases e1;refine ⟨.ref a,e,a,dx',_,rfl,(aw (s _ _ g1)).2,rfl,h M H s l _ λv H1 s1 r1=>?_⟩;exact ⟨M,lm,w0,.ref a,v,rfl,l.same s1,hL.mono (s.trans (s1.but M)),r1,λH2 s2=>⟨_,rfl,k H2 (s1.trans s2)⟩⟩
def FY {C CL:Addr}{i j:Nat}{lm:bV}{w0:aH}{sz:Nat->Nat}(e:σ[i]?=some (some (.ref a)))(hL:iJ C CL G (.ref a) lm)(hR:kL sz lm.steps)(hW:GoodW sz lm.steps w0)(hlt:w0.2.length<lm.steps.length)(h:ae (aU j) G σ (db w0)):ae (lR CL "carried_on" (uP C CL) [] L2.E0 (aU i) (bu (aU j) bL)) G σ (.lst ((cn lm w0).map db)):=λM H s l Q k=>by
 obtain ⟨a',dx',sl,us,e1,g1,g2,g3⟩:=id hL;cases e1;refine ⟨.ref a,e,a,dx',_,rfl,(aw (s _ _ g1)).2,rfl,h M H s l _ λv H1 s1 r1=>?_⟩;exact ⟨M,lm,w0,.ref a,v,sz,rfl,l.same s1,hL.mono (s.trans (s1.but M)),r1,hR,hW,hlt,λv2 H2 s2 r2=>k v2 H2 (s1.trans s2) r2⟩
def ib(s:ab H b)(h:b p=none):H p=none:=by
 cases q:H p with
 |none=>rfl
 |some u=>rw [s _ _ q] at h;cases h
def xq{E:Ends}(l:au M H)(h:dJ t (but H M) σ ds)(g:ds.length<=sizeLine)(k:∀p b c,ab H c->H p=none->c p=some (.lst b)->aE (but c (p::M)) b ds->E.rt (.ref p) c):pz (kn t) E σ H:=
 h M H (ab.refl _) l _ λb i e f=>⟨by rw [f.length];exact g,λp d=>k p b _ (e.trans<|da d _) (by
  cases q:H p with
  |none=>rfl
  |some u=>rw [e _ _ q] at d;cases d) aO<|tJ d f⟩
end
theorem wf:∀(b:ZW) (B:ZY) (W:ZW) (s:bh),s∈cP b B W->s.cJ∈b/\s.of=[]/\s.newest=-1
 |[],_,_,s,h=>by cases h
 |a::r,B,W,s,h=>by
  rcases Mn.mp h with z|z
  .subst z;exact ⟨Mc,rfl,rfl⟩
  .obtain ⟨c,d,e⟩:=wf r _ _ s z;exact ⟨L8 _ c,d,e⟩
theorem nk:∀(b:ZW) (B:ZY) (W:ZW),(cP b B W).length=b.length
 |[],_,_=>rfl
 |a::r,B,W=>M7 (· +1)<|nk r _ _
end FL
namespace O5
open PySem L2 FL
structure jK where
 shared:List Nat
 of:List dr
 gs:List (List D×List Nat)
structure kq (n:Nat)(st:jK):Prop where
 sh:∀i∈st.shared,i<n
 shl:st.shared.length<=100
 of:∀o∈st.of,jL o.2.2/\o.2.2.length<=100/\∀g∈st.gs,qH (n+o.2.2.length) g
 uM:st.of.length<=200
def iE (st:jK)(w:aH):List aH:=(oF st.of (f8 w.1 st.shared) w).filter λx=>fg x.1 st.gs
def cP (facts:List (List D)):List (List D)->List Str->List (List D)->List jK
 |[],_,_=>[]
 |a::r,B,W=>⟨c7 a B,eC a facts B,(W.filter λg=>cz g (ak B a)).map λg=>(g,c7 g (ak B a))⟩::cP facts r (ak B a) (W.filter λg=> !cz g (ak B a))
def eY (facts as:List (List D)):List jK:=cP facts (as.filter λa=> !aJ a) [] ((as.filter aJ).filter dj)
def hZ:List jK->aH->List aH
 |[],w=>[w]
 |s::r,w=>(iE s w).flatMap (hZ r)
def nodes:List jK->aH->Nat
 |[],_=>1
 |s::r,w=>1+((iE s w).map (nodes r)).sum
def sS (facts as:List (List D)):List aH:=if (((as.filter aJ).filter λg=> !dj g).all holdsA&&(eY facts as).all λs=> !s.of.isEmpty)=true then hZ (eY facts as) ([],[]) else []
structure kL (sz:Nat->Nat)(ss:List jK):Prop where
 zero:sz 0=0
 st:∀k s,ss[k]?=some s->kq (sz k) s/\∀o∈s.of,sz k+o.2.2.length=sz (k+1)
 le:∀k,sz k<=500
 len:ss.length<=100
def Fh (A:ZZ)(a:ZW)(b:ZY):(eC A a b).length<=a.length:=by
 unfold eC;have:=List.length_filterMap_le (λp:ZZ×Nat=>(bC A p.1 []).map λst=>(dv b st,(p.2,restOf b st))) a.zipIdx;rw [Qf] at this;exact this
def F7{V:Str->D}{B:ZY}(h:b∈B)(d:Str×D):(ar V B).getD (B.idxOf b) d=(b,V b):=by
 have a:=P7 h;unfold ar;rw [List.getD,Mo,Mb a];show (B[B.idxOf b],V B[B.idxOf b])=(b,V b)
 rw [List.getElem_idxOf a]
def yg (V:Str->D)(B:ZY)(g:ZZ):eo (ar V B) (c7 g B)=ar V ((ak [] g).filter λb=>decide (b∈B)):=by
 unfold eo c7;rw [MU];unfold ar;refine ML λb a=>?_;have:=MC (Mq.mp a).2;exact F7 this _
def An (V:Str->D)(B:ZY)(a:ZZ):f8 (ar V B) (c7 a B)=((ak [] a).filter λb=>decide (b∈B)).map V:=by
 unfold f8;rw [yg];unfold ar;rw [MU];rfl
def CT(h:cz g B=true):(ak [] g).filter (λb=>decide (b∈B))=ak [] g:=by
 have:=MC h;unfold c7 at this;rw [Md] at this;exact Nc.mpr<|List.length_filter_eq_length_iff.mp this
def wz{V:Str->D}(a:cB B)(h:∀b∈ak [] g,b∈B):g.map (cj (ar V B))=g.map (a6 V):=
 ML λx c=>kJ a λe=>h _<|mU c e
def il (W:List (List D))(B:List Str)(S:aR):Bool:=(W.filter λg=>cz g B).all λg=>holdsA (g.map (cj S))
def GY{V:Str->D}(W:ZW)(f:cB B):fg (ar V B) ((W.filter λg=>cz g B).map λg=>(g,c7 g B))=il W B (ar V B):=by
 unfold fg il;rw [Pp];have e:∀L:ZW,(∀g∈L,cz g B=true)->L.all ((λg=>holdsA<|g.1.map<|cj<|eo (ar V B) g.2)∘λg=>(g,c7 g B))=L.all λg=>holdsA (g.map<|cj<|ar V B):=by
  intro L;induction L with
  |nil=>exact λ_=>rfl
  |cons g r i=>
   intro h;rw [OO,OO,i λx j=>h x<|L8 _ j];congr 1;have c:=CT<|h g Mc
   show holdsA (g.map<|cj<|eo (ar V B)<|c7 g B)=holdsA (g.map<|cj<|ar V B);have a:∀b∈ak [] g,b∈B:=λb d=>by
    rw [<-c] at d;exact MC (Mq.mp d).2
   rw [yg,c,wz (iN eX) λb d=>d,wz f a]
 exact e _ λg c=>(Mq.mp c).2
def iu:List (List D)->List Str->List (List D)->List jM
 |[],_,_=>[]
 |a::r,B,W=>⟨a,il W (ak B a)⟩::iu r (ak B a) (W.filter λg=> !cz g (ak B a))
def wZ{V:Str->D}(e:cB B)(f:x∈ext b a (ar V B,d)):∃c,x.1=ar c (ak B a):=by
 obtain ⟨S,h⟩:=x;obtain ⟨i,g,_,j,_⟩:=lG.mp f;obtain ⟨c,_,k,_⟩:=jb e j;exact ⟨c,k⟩
theorem CM (b:ZW):∀(d:ZW) (B:ZY) (W:ZW) (V:Str->D) (f:List Nat),cB B->(∀a∈d,jp a)->hZ (cP b d B W) (ar V B,f)=fu b (iu d B W) [(ar V B,f)]
 |[],B,W,V,f,_,_=>rfl
 |a::r,B,W,V,f,k,p=>by
  have i:=iN (l:=a) k;have q:iE ⟨c7 a B,eC a b B,(W.filter λg=>cz g<|ak B a).map λg=>(g,c7 g<|ak B a)⟩ (ar V B,f)=oW b ⟨a,il W<|ak B a⟩ (ar V B,f):=by
   unfold iE oW;show (oF (eC a b B) (f8 (ar V B)<|c7 a B) (ar V B,f)).filter _=(ext b a (ar V B,f)).filter _;rw [An,xh k<|p a Mc];refine NR λx m=>?_;obtain ⟨j,e⟩:=wZ k m;rw [e];exact GY W i
  show (iE ⟨c7 a B,eC a b B,_⟩ (ar V B,f)).flatMap (hZ<|cP b r (ak B a) _)=fu b (iu r (ak B a) _) ([(ar V B,f)].flatMap<|oW b ⟨a,il W<|ak B a⟩);rw [q,NI,zd];have n:∀L:List aH,(∀x∈L,∃j,x.1=ar j (ak B a))->L.flatMap (hZ<|cP b r (ak B a)<|W.filter λg=> !cz g (ak B a))=L.flatMap λw=>fu b (iu r (ak B a)<|W.filter λg=> !cz g (ak B a)) [w]:=by
   intro L;induction L with
   |nil=>exact λ_=>rfl
   |cons x t s=>
    intro h;obtain ⟨j,e⟩:=h x Mc;obtain ⟨S,o⟩:=x;have e:S=ar j (ak B a):=e;subst e;rw [Nf,Nf,s λy u=>h y<|L8 _ u,CM b r (ak B a) _ j o i λc v=>p c<|L8 _ v]
  exact n _ λx m=>wZ k (Mq.mp m).1
def gN (gs:List (List D))(S:aR):Bool:=gs.all λg=>holdsA (g.map (cj S))
def vH:cz g B=true↔∀b∈ak [] g,b∈B:=by
 constructor
 .intro h b a;rw [<-CT h] at a;exact MC (Mq.mp a).2
 .intro h;unfold cz c7;rw [Md,Nc.mpr λb a=>My<|h b a];exact My rfl
theorem wW(p f:a->Bool):∀l:List a,l.all f=((l.filter p).all f&&(l.filter λx=> !p x).all f)
 |[]=>rfl
 |x::r=>by
  rw [OO,wW p f r,N4,N4];by_cases h:p x=true
  .rw [Mp h,Mj (by simp [h]),OO,Bool.and_assoc]
  .have b:p x=false:=by simpa using h
   rw [Mj h,Mp (by simp [b]),OO];cases f x<;>simp
theorem BH (S:aR):∀(c:ZW) (B:ZY) (W:ZW),(∀g∈W,cz g B=false)->(∀g∈W,∀b∈ak [] g,b∈a8 B c)->((iu c B W).all λs=>s.ok S)=gN W S
 |[],B,W,f,d=>by
  have:W=[]:=by
   cases W with
   |nil=>rfl
   |cons g r=>
    have a:=f g Mc;have b:=vH.mpr<|d g Mc
    rw [show cz g B=true from b] at a;cases a
  rw [this];rfl
 |a::r,B,W,f,d=>by
  show (il W (ak B a) S&&(iu r (ak B a) _).all λs=>s.ok S)=_;rw [BH S r (ak B a) _ (λg e=>by simpa using (Mq.mp e).2) λg e=>d g (Mq.mp e).1];unfold gN il;exact (wW (λg=>cz g<|ak B a) _ W).symm
theorem wG:∀(b:ZW) (B:ZY) (W:ZW),(iu b B W).map (·.atom)=b
 |[],_,_=>rfl
 |a::r,B,W=>by
  show a::(iu r _ _).map (·.atom)=a::r;rw [wG r]
theorem Ao:∀(b:ZW) (B:ZY) (W:ZW) (i:Nat) (s:jM),(iu b B W)[i]?=some s->∃c,s.ok=il c (a8 B (b.take (i+1)))
 |[],_,_,i,s,h=>by simp [iu] at h
 |a::r,B,W,0,s,h=>by
  have h:jM.mk a (il W<|ak B a)=s:=Mu h;refine ⟨W,?_⟩;rw [<-h];rfl
 |a::r,B,W,i+1,s,h=>by
  have h:(iu r (ak B a)<|W.filter λg=> !cz g (ak B a))[i]?=some s:=h;obtain ⟨c,e⟩:=Ao r _ _ i s h;exact ⟨c,by rw [e];rfl⟩
def JM(V a:Str->D)(C:ZY)(i:cB (B++C))(h:∀b∈B,a b=V b):il W B (ar a (B++C))=il W B (ar V B):=by
 unfold il;have c:∀L:ZW,(∀g∈L,cz g B=true)->L.all (λg=>holdsA<|g.map<|cj<|ar a<|B++C)=L.all λg=>holdsA (g.map<|cj<|ar V B):=by
  intro L;induction L with
  |nil=>exact λ_=>rfl
  |cons g r l=>
   intro j;rw [OO,OO,l λx d=>j x<|L8 _ d];congr 2;have m:=vH.mp<|j g Mc
   refine ML λx d=>?_;by_cases e:aB x=true
   .have f:=m _ (mU d e);have n:=nE (V:=a) (B:=B++C)<|Ms _ f
    have o:=nE (V:=V) f;rw [iD e,n,o,h _ f]
   .have k:aB x=false:=by simpa using e
    rw [kK<|oU i k,kK<|oU (λb p=>i b<|Ms _ p) k]
 exact c _ λg q=>(Mq.mp q).2
def HQ{c:ZW}{W:ZW}(j:∀a∈c,jp a)(k:∀g∈W,cz g []=false)(l:∀g∈W,∀b∈ak [] g,b∈a8 [] c):hZ (cP facts c [] W) ([],[])=(fw facts c [([],[])]).filter λw=>gN W w.1:=by
 have m:=CM facts c [] W (λ_=>.av) [] eX j;have d:=Ag facts (iu c [] W) [] [([],[])] eX (λw n=>⟨λ_=>.av,by rw [MG.mp n];rfl⟩) (λi s o V p C f h=>by
  obtain ⟨q,e⟩:=Ao c [] W i s o;rw [PF,wG] at f h⊢;rw [e];exact JM V p C f h)
 rw [wG] at d;refine (show hZ (cP facts c [] W) ([],[])=_ from m).trans<|d.trans ?_
 refine NR λw _=>?_;exact BH w.1 c [] W k l
theorem ym (b:ZW):∀(d:ZW) (B:ZY) (W:ZW) (i:List aH),cB B->(∀a∈d,jp a)->(∀w∈i,∃V,w.1=ar V B)->((cP b d B W).all λs=> !s.of.isEmpty)=false->fw b d i=[]
 |[],_,_,_,_,_,_,h=>by cases h
 |a::r,B,W,i,j,m,n,h=>by
  show fw b r (i.flatMap<|ext b a)=[]
  by_cases o:eC a b B=[]
  .have:i.flatMap (ext b a)=[]:=by
    rw [List.flatMap_eq_nil_iff];intro w f;obtain ⟨V,e⟩:=n w f;obtain ⟨S,p⟩:=w;have e:S=ar V B:=e;subst e;rw [<-xh j (m a Mc),o];rfl
   rw [this,yC]
  .refine ym b r (ak B a) (W.filter λg=> !cz g (ak B a)) _ (iN j) (λc q=>m c<|L8 _ q) (λx k=>?_) ?_
   .obtain ⟨w,f,k⟩:=Nm.mp k;obtain ⟨V,e⟩:=n w f;obtain ⟨S,p⟩:=w;have e:S=ar V B:=e;subst e;exact wZ j k
   .have h:((!(eC a b B).isEmpty)&&(cP b r (ak B a)<|W.filter λg=> !cz g (ak B a)).all λs=> !s.of.isEmpty)=false:=h;have l:(!(eC a b B).isEmpty)=true:=by
     cases t:eC a b B with
     |nil=>exact absurd t o
     |cons _ _=>rfl
    rw [l,PD] at h;exact h
def Hq{S:aR}(b:∀p∈S,aB (.str p.1)=true)(h:dj g=false):g.map (cj S)=g:=by
 have c:ak [] g=[]:=by
  unfold dj at h;cases e:ak [] g with
  |nil=>rfl
  |cons x r=>rw [e] at h;cases h
 have:∀x∈g,cj S x=x:=λx d=>by
  have a:aB x=false:=by
   cases e:aB x with
   |false=>rfl
   |true=>
    have:=mU (B:=[]) d e;rw [c] at this;cases this
  refine kK ?_;cases q:ff S x with
  |false=>rfl
  |true=>
   obtain ⟨p,f,e⟩:=Pj.mp q;have e:D.str p.1=x:=MC e;have:=b p f;rw [e,a] at this;cases this
 exact (ML this).trans<|OD g
def FC{as:ZW}(z:∀a∈as,aJ a=false->jp a)(A:∀g∈as,aJ g=true->∀b∈ak [] g,b∈a8 [] (as.filter λa=> !aJ a)):sS facts as=(fw facts (as.filter λa=> !aJ a) [([],[])]).filter λw=>gN (as.filter aJ) w.1:=by
 have d:∀a∈as.filter λa=> !aJ a,jp a:=λa v=>z a (Mq.mp v).1 (by simpa using (Mq.mp v).2);have l:∀g∈(as.filter aJ).filter dj,cz g []=false:=λg f=>by
  have m:=(Mq.mp f).2;cases e:cz g [] with
  |false=>rfl
  |true=>
   have:=vH.mp e;have n:ak [] g=[]:=by
    cases q:ak [] g with
    |nil=>rfl
    |cons x r=>have:=this x (by rw [q];exact Mc);cases this
   unfold dj at m;rw [n] at m;cases m
 have o:∀g∈(as.filter aJ).filter dj,∀b∈ak [] g,b∈a8 [] (as.filter λa=> !aJ a):=λg f=>by
  have:=(Mq.mp f).1;exact A g (Mq.mp this).1 (Mq.mp this).2
 have B:=HQ (facts:=facts) d l o;have t:∀w∈fw facts (as.filter λa=> !aJ a) [([],[])],∀p∈w.1,aB (.str p.1)=true:=λw i p C=>by
  obtain ⟨S,H⟩:=w;obtain ⟨V,rfl,_⟩:=(pp d).mp i;obtain ⟨b,n,rfl⟩:=Mx.mp C;exact jv eX b n
 have c:∀w∈fw facts (as.filter λa=> !aJ a) [([],[])],gN (as.filter aJ) w.1=(gN ((as.filter aJ).filter dj) w.1&&((as.filter aJ).filter λg=> !dj g).all holdsA):=λw i=>by
  unfold gN;rw [wW dj];congr 1;have:∀L:ZW,(∀g∈L,dj g=false)->(L.all λg=>holdsA<|g.map<|cj w.1)=L.all holdsA:=by
   intro L;induction L with
   |nil=>exact λ_=>rfl
   |cons g r E=>
    intro h;rw [OO,OO,E λx G=>h x<|L8 _ G,Hq (t w i)<|h g Mc]
  exact this _ λg f=>by simpa using (Mq.mp f).2
 rw [NR c];unfold sS;by_cases u:((as.filter aJ).filter λg=> !dj g).all holdsA=true
 .by_cases y:((eY facts as).all λs=> !s.of.isEmpty)=true
  .rw [Mp (by rw [u,y];rfl)]
   unfold eY;rw [B];refine NR λw _=>?_;rw [u,PB]
  .have j:((eY facts as).all λs=> !s.of.isEmpty)=false:=by simpa using y
   rw [Mj (by rw [j];simp),ym facts _ [] _ _ eX d (λw i=>⟨λ_=>.av,by rw [MG.mp i];rfl⟩) j];rfl
 .have k:((as.filter aJ).filter λg=> !dj g).all holdsA=false:=by simpa using u
  rw [Mj (by rw [k];simp),N0.mpr λw _=>by rw [k,QO];exact Mm]
def rJ (g:List D):Prop:=dF g/\∃r x y,g=[.str r,x,y]/\aB (.str r)=false
def zy:∀i∈c7 g B,i<B.length:=λi a=>by
 obtain ⟨b,c,rfl⟩:=Mx.mp a;exact P7<|MC (Mq.mp c).2
def As (g:ZZ)(B:ZY):(c7 g B).length<=g.length:=by
 unfold c7;rw [Md];have c:=MO (λb=>decide<|b∈B)<|ak [] g
 have a:=kj g [];rw [N6] at a;omega
def Fv{c:ZW}{B:ZY}{W:ZW}(v:∀g∈c,ja g)(w:c.length<=200)(s:dF a)(z:∀g∈W,rJ g):
  kq B.length ⟨c7 a B,eC a c B,(W.filter λg=>cz g (ak B a)).map λg=>(g,c7 g (ak B a))⟩/\∀o∈eC a c B,B.length+o.2.2.length=(ak B a).length:=by
 have k:∀o∈eC a c B,jL o.2.2/\o.2.2.length<=100/\B.length+o.2.2.length=(ak B a).length:=λo j=>by
  unfold eC at j;obtain ⟨⟨g,i⟩,m,e⟩:=Pb.mp j;have n:g∈c:=Mi<|OF.mp m
  cases l:bC a g [] with
  |none=>
   have e:(bC a g []).map (λst=>(dv B st,(i,restOf B st)))=some o:=e;rw [l] at e;cases e
  |some st=>
   have e:(bC a g []).map (λst=>(dv B st,(i,restOf B st)))=some o:=e;rw [l] at e;have e:=Mu e;rw [<-e];have cv:=Cq l (λt A=>nomatch A) (v g n).2;have C:=yP l;have E:=s.len;obtain ⟨U,_,d,_⟩:=jb (V:=λ_=>.av) (B:=[]) eX l;have d:st=ar U (ak [] a):=d;refine ⟨λp G=>?_,?_,?_⟩
   .have f:=(Mq.mp (show p∈restOf B st from G)).1;refine ⟨cv p f,?_⟩;rw [d] at f;obtain ⟨b,H,rfl⟩:=Mx.mp f;exact iN eX b H
   .have:=MO (λp:Str×D=> !decide (p.1∈B)) st;show (restOf B st).length<=100;unfold restOf;omega
   .show B.length+(restOf B st).length=_;have I:(restOf B st).length=((ak [] a).filter λb=> !decide (b∈B)).length:=by
     unfold restOf;rw [d,vC U _ λb=> !decide (b∈B)];unfold ar;rw [Md]
    rw [I,ng a B,Mv]
 refine ⟨⟨zy,MF (As a B) s.len,λo j=>?_,MF (Fh a c B) w⟩,λo j=>(k o j).2.2⟩;obtain ⟨J,L,M⟩:=k o j;refine ⟨J,L,λg m=>?_⟩;obtain ⟨u,q,rfl⟩:=Mx.mp m;obtain ⟨h,r,x,y,e,N⟩:=z u (Mq.mp q).1;refine ⟨⟨r,x,y,e,(h.sc x (by rw [e];simp)).1,(h.sc y (by rw [e];simp)).1,N⟩,?_,MF (As u _) h.len⟩;rw [M];exact zy
theorem zp {b:ZW}(i:∀g∈b,ja g)(j:b.length<=200):∀(d:ZW) (B:ZY) (W:ZW),(∀a∈d,dF a)->(∀g∈W,rJ g)->∀(k:Nat) (s:jK),(cP b d B W)[k]?=some s->
  kq (a8 B (d.take k)).length s/\∀o∈s.of,(a8 B (d.take k)).length+o.2.2.length=(a8 B (d.take (k+1))).length
 |[],_,_,_,_,k,s,h=>by simp [cP] at h
 |a::r,B,W,e,f,0,s,h=>by
  have h:=Mu h;rw [<-h];exact Fv i j (e a Mc) f
 |a::r,B,W,e,f,k+1,s,h=>by
  have h:(cP b r (ak B a)<|W.filter λg=> !cz g (ak B a))[k]?=some s:=h;exact zp i j r (ak B a) _ (λc l=>e c<|L8 _ l) (λg m=>f g (Mq.mp m).1) k s h
theorem nk (b:ZW):∀(c:ZW) (B:ZY) (W:ZW),(cP b c B W).length=c.length
 |[],_,_=>rfl
 |a::r,B,W=>M7 (· +1)<|nk b r _ _
def xI {b c:ZW}(e:∀g∈b,ja g)(f:b.length<=200)(i:∀a∈c,dF a)(j:c.length<=100)(l:∀g∈c,aJ g=true->rJ g)(m:∀k,(a8 [] ((c.filter λa=> !aJ a).take k)).length<=500):
  kL (λk=>(a8 [] ((c.filter λa=> !aJ a).take k)).length) (eY b c):=by
 refine ⟨rfl,λk s h=>?_,m,?_⟩
 .exact zp e f _ [] _ (λa n=>i a (Mq.mp n).1) (λg d=>l g (Mq.mp (Mq.mp d).1).1 (Mq.mp (Mq.mp d).1).2) k s h
 .unfold eY;rw [nk];exact MF (MO _ _) j
def pw (F:Nat):Nat->Nat
 |0=>1
 |n+1=>1+F*pw F n
theorem ya(f:a->Nat)(c:Nat):∀l:List a,(∀x∈l,f x<=c)->(l.map f).sum<=l.length*c
 |[],_=>MI _
 |x::r,h=>by
  rw [MW,Qs,MN,QF];have d:=ya f c r λy b=>h y<|L8 _ b
  have e:=h x Mc;omega
end O5
namespace FL
open PySem L2
def pP (a:List D)(B:List Str)(l:List (List D×Nat)):List dr:=l.filterMap λp=>(bC a p.1 []).map λst=>(dv B st,(p.2,restOf B st))
theorem zo:∀(l:List (ZZ×Nat)) (s:bh),let t:=l.foldl (λs p=>cK s p.2 p.1) s
  t.cJ=s.cJ/\t.shared=s.shared/\t.gs=s.gs/\t.of=s.of++pP s.cJ (fo s) l
 |[],s=>⟨rfl,rfl,rfl,(MP _).symm⟩
 |p::r,s=>by
  obtain ⟨a,b,c,d⟩:=zo r<|cK s p.2 p.1;have e:(cK s p.2 p.1).cJ=s.cJ/\(cK s p.2 p.1).shared=s.shared/\(cK s p.2 p.1).gs=s.gs/\(cK s p.2 p.1).of=s.of++(match bC s.cJ p.1 [] with|some st=>[(dv (fo s) st,(p.2,restOf (fo s) st))]|none=>[]):=by
   unfold cK;cases f:bC s.cJ p.1 [] with
   |none=>exact ⟨rfl,rfl,rfl,(MP _).symm⟩
   |some st=>exact ⟨rfl,rfl,rfl,rfl⟩
  have g:fo (cK s p.2 p.1)=fo s:=by unfold fo;rw [e.2.1]
  refine ⟨a.trans e.1,b.trans e.2.1,c.trans e.2.2.1,d.trans ?_⟩;rw [e.2.2.2,e.1,g,M5];congr 1;unfold pP;rw [NY];cases f:bC s.cJ p.1 [] with
  |none=>rfl
  |some st=>rfl
def pW (s:bh):Prop:=decide ((0:Int)<=s.newest)= !s.of.isEmpty
theorem AX:∀(l:List (ZZ×Nat)) (s:bh),pW s->pW (l.foldl (λs p=>cK s p.2 p.1) s)
 |[],s,h=>h
 |p::r,s,h=>by
  refine AX r (cK s p.2 p.1) ?_;unfold cK;cases a:bC s.cJ p.1 [] with
  |none=>exact h
  |some st=>
   show decide ((0:Int)<=((p.2:Nat):Int))= !(s.of++[_]).isEmpty;simp
def Li{st:aR}(h:bC a g []=some st):∀p∈st,p.1∈ak [] a:=λp c=>by
 obtain ⟨U,_,rfl,_⟩:=jb (V:=λ_=>.av) (B:=[]) eX h;obtain ⟨b,d,rfl⟩:=Mx.mp c;exact d
def Gh (a:ZZ)(B:ZY):(jt a B).map (·.1)=(ak [] a).filter λb=>decide (b∈B):=by
 unfold jt;rw [MU];exact OD _
def Ho (a:ZZ)(B:ZY):(jt a B).map (·.2)=c7 a B:=by
 unfold jt c7;rw [MU];rfl
def BE{B:ZY}(h:b∈ak [] a):decide (b∈(ak [] a).filter λb=>decide (b∈B))=decide (b∈B):=
 OU.mpr ⟨λw=>MC (Mq.mp w).2,λz=>Mq.mpr ⟨h,My z⟩⟩
def Hr (a:ZZ)(B:ZY)(c:ZW):pP a ((ak [] a).filter λb=>decide (b∈B)) (c.zipIdx 0)=eC a c B:=by
 unfold pP eC;have:∀l:List (ZZ×Nat),l.filterMap (λp=>(bC a p.1 []).map λst=>(dv ((ak [] a).filter λb=>decide<|b∈B) st,(p.2,restOf ((ak [] a).filter λb=>decide<|b∈B) st)))=l.filterMap λp=>(bC a p.1 []).map λst=>(dv B st,(p.2,restOf B st)):=by
  intro l;induction l with
  |nil=>rfl
  |cons p r f=>
   rw [NY,NY,f];cases g:bC a p.1 [] with
   |none=>rfl
   |some st=>
    have e:=Li g;have h:dv ((ak [] a).filter λb=>decide<|b∈B) st=dv B st:=by
     unfold dv;rw [NR λq d=>BE<|e q d]
    have i:restOf ((ak [] a).filter λb=>decide<|b∈B) st=restOf B st:=by
     unfold restOf;refine NR λq d=>?_;rw [BE<|e q d]
    show (_,_)::_=(_,_)::_;rw [h,i]
 exact this _
def dU (s:bh):O5.jK:=⟨gL s,s.of,s.gs⟩
def IB (a:ZZ)(B:ZY)(W facts:ZW):dU (ci (oy a B W) 0 facts)=⟨c7 a B,eC a facts B,(W.filter λg=>cz g (ak B a)).map λg=>(g,c7 g (ak B a))⟩/\pW (ci (oy a B W) 0 facts):=by
 obtain ⟨h1,h2,h3,h4⟩:=zo (facts.zipIdx 0) (oy a B W);refine ⟨?_,AX _ _ (show decide ((0:Int)<= -1)= !([]:List dr).isEmpty from rfl)⟩;have e:(ci (oy a B W) 0 facts).of=eC a facts B:=by
  unfold ci;rw [h4];show []++pP a ((jt a B).map (·.1)) _=_;rw [OC,Gh,Hr]
 unfold dU gL;rw [e];unfold ci;rw [h2,h3];show O5.jK.mk ((jt a B).map (·.2)) _ _=_;rw [Ho];rfl
theorem rE (facts:ZW):∀(asks:ZW) (B:ZY) (W:ZW),((cP asks B W).map λs=>ci s 0 facts).map dU=O5.cP facts asks B W/\∀s∈(cP asks B W).map λs=>ci s 0 facts,pW s
 |[],_,_=>⟨rfl,λs h=>nomatch h⟩
 |a::r,B,W=>by
  obtain ⟨h1,h2⟩:=rE facts r (ak B a) (W.filter λg=> !cz g (ak B a));obtain ⟨h3,h4⟩:=IB a B W facts;refine ⟨?_,λs hs=>?_⟩
  .show dU _::List.map dU (List.map _ (cP r _ _))=_::O5.cP facts r _ _;rw [h1,h3]
  .rcases Mn.mp hs with z|z
   .rw [z];exact h4
   .exact h2 s z
def Dc (s:bh)(w:aH):fq s w 0=(O5.iE (dU s) w).reverse:=by
 unfold fq O5.iE oF;rw [pR λo _=>(by unfold FL.fresh;exact My Z4),Qy,List.filter_reverse];rfl
def tw {a:bV}(h:a.fresh=0)(w:aH):gT a w=0:=by
 unfold gT;rw [h];split<;>rfl
theorem xj {lm:bV}(h:lm.fresh=0):∀(n:Nat) (w:aH),w.2.length+n=lm.steps.length->cR lm n w=O5.hZ ((lm.steps.map dU).drop w.2.length) w/\dP lm n w=O5.nodes ((lm.steps.map dU).drop w.2.length) w
 |0,w,hn=>by
  rw [Ps (by rw [Md];omega)];exact ⟨rfl,rfl⟩
 |n+1,w,hn=>by
  have hlt:w.2.length<lm.steps.length:=by omega
  have hs:=Mb hlt;have hc:cn lm w=(O5.iE (dU lm.steps[w.2.length]) w).reverse:=by
   unfold cn;rw [hs,tw h];exact Dc _ w
  have hl:∀x∈O5.iE (dU lm.steps[w.2.length]) w,x.2.length=w.2.length+1:=λx hx=>jN (lm:=lm) (by rw [hc];exact NU.mpr hx);have ed:(lm.steps.map dU).drop w.2.length=dU lm.steps[w.2.length]::(lm.steps.map dU).drop (w.2.length+1):=by
   rw [N9 (by rw [Md];exact hlt),List.getElem_map]
  rw [ed];constructor
  .show (cn lm w).reverse.flatMap (cR lm n)=(O5.iE _ w).flatMap (O5.hZ _);rw [hc,List.reverse_reverse];have:∀L:List aH,(∀x∈L,x.2.length=w.2.length+1)->L.flatMap (cR lm n)=L.flatMap (O5.hZ ((lm.steps.map dU).drop (w.2.length+1))):=by
    intro L;induction L with
    |nil=>exact λ_=>rfl
    |cons x r ih=>
     intro hx;have e:=hx x Mc;rw [Nf,Nf,ih λy hy=>hx y (L8 _ hy),(xj h n x Z4).1,e]
   exact this _ hl
  .show 1+((cn lm w).map (dP lm n)).sum=1+((O5.iE _ w).map (O5.nodes _)).sum;rw [hc,Qy,List.sum_reverse];congr 2;refine ML λx hx=>?_;rw [(xj h n x (by have:=hl x hx;omega)).2,hl x hx]
def Gw {ss:List bh}(h:∀s∈ss,pW s):(ss.all λs=>decide ((0:Int)<=s.newest))=(ss.map dU).all λs=> !s.of.isEmpty:=by
 induction ss with
 |nil=>rfl
 |cons s r a=>
  rw [OO,MW,OO,a λx b=>h x<|L8 _ b];congr 1;exact h s Mc
def Es (as facts:ZW):fZ as facts=O5.sS facts as:=by
 obtain ⟨h1,h2⟩:=rE facts (as.filter λa=> !aJ a) [] ((as.filter aJ).filter dj);have e1:(bX (bR as) facts).steps.map dU=O5.eY facts as:=h1;have e2:=Gw (ss:=(bX (bR as) facts).steps) h2;rw [e1] at e2;have hb:(bX (bR as) facts).fE=k9 as:=rfl;have hf:(bX (bR as) facts).fresh=0:=rfl;unfold fZ eD O5.sS;generalize bX (bR as) facts=lm at e1 e2 hb hf;rw [hb,hf,e2];unfold k9;generalize ((as.filter aJ).filter λg=> !dj g).all holdsA=c1;cases c1 with
 |false=>simp
 |true=>
  have e0:((!true)||(decide (lm.last<0)&&decide ((0:Int)<((0:Nat):Int))))=false:=by simp
  rw [Mj (by rw [e0];exact Mm),PD];split
  .rw [NI]
   have:=(xj hf (bT lm ([],[])) ([],[]) (by unfold bT;simp)).1;rw [this];show O5.hZ ((lm.steps.map dU).drop 0) _=_;rw [List.drop_zero,e1]
  .rfl
def Kr {facts as:ZW}(hF:∀g∈facts,ja g)(hz:facts.length<=200)(hA:∀a∈as,dF a)(hl:as.length<=100)(hg:∀g∈as,aJ g=true->O5.rJ g)(hb:∀k,(a8 [] ((as.filter λa=> !aJ a).take k)).length<=500):
  kL (λk=>(a8 [] ((as.filter λa=> !aJ a).take k)).length) (bX (bR as) facts).steps:=by
 obtain ⟨h1,_⟩:=rE facts (as.filter λa=> !aJ a) [] ((as.filter aJ).filter dj);have e1:(bX (bR as) facts).steps.map dU=O5.eY facts as:=h1;have R:=O5.xI hF hz hA hl hg hb;refine ⟨R.zero,λk s hs=>?_,R.le,?_⟩
 .have ho:(O5.eY facts as)[k]?=some (dU s):=by rw [<-e1,Mo,hs];rfl
  obtain ⟨q1,q2⟩:=R.st k _ ho;refine ⟨⟨q1.sh,?_,q1.of,MF q1.uM Z1⟩,q2⟩;have:=q1.shl;unfold dU gL at this;rw [Md] at this;exact this
 .have:=R.len;rw [<-e1,Md] at this;exact this
end FL
namespace L2
open PySem PySem.Spec PyProof.Rows
section
variable {X:Cx}
def AL:List V->Hp->VK->Prop:=λxs H Q=>∃a kvs,xs=[.ref a]/\Rd H a (.dK kvs)/\∀p,H p=none->Q (.ref p) (upd H p (.dK kvs))
def Jl:iw X (.type "dict") AL:=by
 intro f s l H m n Q I r h;obtain ⟨a,c,rfl,e,q⟩:=h;obtain ⟨u,rfl,g⟩:=Qk r;cases g;obtain ⟨z,i,p,bE,j⟩:=ie I.aA e;have t:=bE.length;refine kt_call_dict i j Z4 λv d k=>?_;refine ⟨.ref s.heap.objs.size,_,I.laid (a:=s.heap.objs.size) (o:=.dK c) (t':=s.toks) (λb o e=>?_) (Mh _)<|rD z (Nl.mpr<|M6<|MM I.sU) bE d,rfl,q _<|I.aA.fresh<|Mh _⟩;exact (k.2 b<|MM<|MA e).trans<|Mf _ e
end
end L2
namespace FL
open PySem L2
section
variable {X:Cx}{e:Expr}{te:TE}{p pos:Pos}
def Jn (B:Bl X.mg)(h:PE X e te)(b:Gl X "dict":=by rfl)(a:starEach [e] X.env=(false,eval e X.env)::starEach [] X.env:=by rfl):PE X (.Call (.Name "dict" p) [e] [] pos) (cM AL (bu te bL)):=
 qk Jl b B.dict QE (ai h ap a) (he:=a)
end
def cX:List D:=[.str "X",.str "Xy",.str "Z"]
structure CP (as:List (List D)):Prop where
 ne:∀a∈as,a≠[]/\aB (a.headD .av)=false
 sc:∀a∈as,∀x∈a,x.sc=true
 bl:∀a∈as,∀x∈a.tail,aB x=decide (x∈cX)
 dI:as.length<=100/\∀a∈as,a.length<=10
def Jr (B:ZY)(x:D)(c:x.sc=true):cu B x=if (aB x&& !decide (x∈B.map D.str))=true then B++[x.name] else B:=by
 unfold cu;have:decide (x∈B.map D.str)=decide (x.name∈B)\/aB x=false:=by
  by_cases e:aB x=true
  .left;rw [iD e];refine OU.mpr ⟨λh=>?_,λh=>Mx.mpr ⟨_,h,rfl⟩⟩;obtain ⟨y,a,b⟩:=Mx.mp h;have:y=x.name:=by injection b
   rw [<-this];exact a
  .right;simpa using e
 rcases this with e|e
 .rw [e]
 .simp [e]
def IU(b:ZW)(j:Nat)(h:b[j]?=some a):a8 [] (b.take (j+1))=ak (a8 [] (b.take j)) a:=by
 unfold a8;rw [MX,h,Nx];rfl
def Ky(h:a≠[])(b:aB (a.headD .av)=false):ak B a=ak B a.tail:=by
 cases a with
 |nil=>exact absurd rfl h
 |cons x r=>
  show ak (cu B x) r=ak B r;rw [wy (show aB x=false from b)]
def DJ {B:ZY}{l:ZZ}{j:Nat}{x:D}(h:l[j]?=some x):ak B (l.take (j+1))=cu (ak B (l.take j)) x:=by
 unfold ak;rw [MX,h,Nx];rfl
def pS {a b:ZZ}(j:∀x∈a,x.sc=true)(d:∀x∈b,x.sc=true):cw (.tup a) (.tup b)=true/\(D.tup a).cN<=40:=by
 have h:∀a b:ZZ,(∀x∈a,x.sc=true)->(∀x∈b,x.sc=true)->gg a b=true/\D.fy a<=0:=by
  intro a;induction a with
  |nil=>
   intro b _ _;cases b<;>exact ⟨rfl,Mh _⟩
  |cons x r k=>
   intro b f d;have g:=k b.tail (λy e=>f y<|L8 _ e) λy e=>d y<|QS e
   have c:=f x Mc;have l:x.cN=0:=by
    cases x with
    |int _=>rfl
    |str _=>rfl
    |_=>simp [D.sc] at c
   have i:D.fy (x::r)<=0:=by
    show Nat.max x.cN (D.fy r)<=0;rw [l];exact Nat.max_le.mpr ⟨Mh _,g.2⟩
   cases b with
   |nil=>exact ⟨rfl,i⟩
   |cons y t=>
    refine ⟨?_,i⟩;show (cw x y&&gg r t)=true;rw [(eO c<|d y Mc).1];exact g.1
 obtain ⟨m,n⟩:=h a b j d;exact ⟨m,MF (show (D.tup a).cN<=D.fy a+1 from Mh _) Z4⟩
def mM (pl:List Nat):D:=.tup (pl.map λn=>D.int (n:Nat))
def eE (S:aR)(a:List D):List D:=a.headD .av::a.tail.map (cj S)
def rp:List Da->D->Prop:=λxs d=>∃a S,xs=[.d (.tup a),.k (b9 [] (bI S))]/\a≠[]/\(∀x∈a,x.sc=true)/\(∀p∈S,p.2.sc=true)/\a.length<=10/\d=.tup (eE S a)
def fh (fs:List (List D))(a:List D):Bool:=if a.headD .av=.str "unlike" then (match a with|[_,x,y]=> !decide (x=y)|_=>false) else if a.headD .av=.str "less" then (match a with|[_,.int i,.int j]=>decide (i<j)|_=>false) else decide (a∈fs)
def Cp (a:List D):Prop:=a≠[]/\(∀x∈a,x.sc=true)/\(aJ a=true->∃r x y,a=[.str r,x,y])
structure gU (G:Hp)(us:List V)(cs:List aR):Prop where
 len:us.length=cs.length
 get:∀(j:Nat) c,cs[j]?=some c->∃a,us[j]?=some (.ref a)/\G a=some (.dK (b9 [] (bI c)))
def gU.mono(h:gU G d f)(e:ab G b):gU b d f:=⟨h.len,λj c q=>let ⟨a,g,i⟩:=h.get j c q;⟨a,g,e _ _ i⟩⟩
def gU.nil:gU G [] []:=⟨rfl,λj c q=>by simp at q⟩
def gU.snoc(h:gU G g f)(k:G a=some (.dK (b9 [] (bI c)))):gU G (g++[.ref a]) (f++[c]):=by
 have l:=h.len;refine ⟨by simp [l],λj d q=>?_⟩;by_cases i:j<f.length
 .rw [ME i] at q
  obtain ⟨b,m,n⟩:=h.get j d q;exact ⟨b,by rw [ME Z4];exact m,n⟩
 .rw [MJ<|MV i] at q
  have o:j-f.length=0:=by
   have:=(Ma.mp q).1;simp at this;exact this
  rw [o] at q;have e:c=d:=by simpa using q
  subst e;exact ⟨a,by rw [MJ Z4,show j-g.length=0 by omega];rfl,k⟩
theorem zW (a:ZZ)(b:Str):∀(l:ZY) (d:List aR),dy a (l++[b]) d=(dy a l d).flatMap λc=>a.map λt=>c++[(b,t)]
 |[],d=>rfl
 |x::r,d=>zW a b r _
theorem Bk (a:ZZ):∀(l:ZY) (b:List aR),(dy a l b).length=b.length*a.length^l.length
 |[],b=>by simp [dy]
 |x::r,b=>by
  show (dy a r _).length=_;rw [Bk a r,List.length_flatMap];have:(b.map λc=>(a.map λt=>c++[(x,t)]).length).sum=b.length*a.length:=by
   have e:(λc:aR=>(a.map λt=>c++[(x,t)]).length)=λ_=>a.length:=by funext c;exact Md _
   rw [e];induction b with
   |nil=>simp
   |cons m t d=>rw [MW,Qs,d,MN,QF,QZ]
  rw [this,MN,Nat.pow_succ,Nat.mul_assoc,Nat.mul_comm a.length]
theorem ro (a:ZZ):∀(l:ZY) (b:List aR) (c:aR),(∀x∈a,x.sc=true)->(∀m∈b,(∀p∈m,p.2.sc=true))->c∈dy a l b->∀p∈c,p.2.sc=true
 |[],b,c,_,d,h=>d c h
 |x::r,b,c,f,d,h=>by
  refine ro a r _ c f (λm e=>?_) h;obtain ⟨g,i,j⟩:=Nm.mp e;obtain ⟨t,k,rfl⟩:=Mx.mp j;exact xw (d g i)<|f t k
theorem yy (a:ZZ):∀(l:ZY) (b:List aR) (k:Nat),(∀m∈b,m.length=k)->∀c∈dy a l b,c.length=k+l.length
 |[],b,k,d,c,h=>d c h
 |x::r,b,k,d,c,h=>by
  have:=yy a r _ (k+1) (λm e=>by
   obtain ⟨f,g,i⟩:=Nm.mp e;obtain ⟨t,j,rfl⟩:=Mx.mp i;rw [Mv,d f g];rfl) c h
  rw [this,MN];omega
def qL:Sp:=λvs H Q _=>∃M Bs pool v0 v1,vs=[v0,v1]/\au M H/\al (but H M) v0 (fY Bs)/\al (but H M) v1 (.lst pool)/\(∀x∈pool,x.sc=true)/\Bs.length<=3/\pool.length<=10/\
 ∀p us H',ab H H'->but H' M p=some (.lst us)->gU (but H' M) us (dy pool Bs [[]])->Q (.ref p) H'
end FL
namespace FL
open PySem L2
def jz (pre:List D->Prop)(post:List D->D->Prop):Sp:=λvs H Q _=>∃M ds,au M H/\aE (but H M) vs ds/\pre ds/\∀d v H',post ds d->ab H H'->al (but H' M) v d->Q v H'
def tL{a:ZZ->Prop}(f:∀c,a c->c.length=n):∀d H Q E,jz a b d H Q E->d.length=n:=λd H Q E g=>by obtain ⟨M,c,l,r,e,k⟩:=g;rw [r.length];exact f c e
section
variable {σ:St}{δ:Dn}{M:List Addr}{H:Hp}{t:TA}{E:Ends}{ds:List D}
end
def GP (x:D):Prop:=x.sc=true/\ny x/\aB x=decide (x∈cX)
structure lI (a:List D):Prop where
 ne:a≠[]
 hd:aB (a.headD .av)=false
 ok:∀x∈a,x.sc=true/\ny x
 bl:∀x∈a.tail,aB x=decide (x∈cX)
 len:a.length<=10
def Ej{a:ZZ}(d:ny (.str r))(e:aB (.str r)=false)(b:∀x∈a,GP x)(f:a.length<=9):lI (.str r::a):=
 ⟨(λz=>nomatch z),e,(λx c=>by
  rcases Mn.mp c with z|z
  .rw [z];exact ⟨rfl,d⟩
  .exact ⟨(b x z).1,(b x z).2.1⟩),(λx c=>(b x c).2.2),(by rw [MN];omega)⟩
def lI.lM(h:lI a):dF a:=⟨h.ok,h.ne,by have:=h.len;omega⟩
def DH {c:ZW}(h:∀a∈c,lI a)(d:c.length<=100):CP c:=⟨λa b=>⟨(h a b).ne,(h a b).hd⟩,λa b x e=>((h a b).ok x e).1,λa b=>(h a b).bl,d,λa b=>(h a b).len⟩
def rX:GP (.str "X"):=⟨rfl,⟨by decide,_,_,rfl⟩,Z9⟩
def qK:GP (.str "Xy"):=⟨rfl,⟨by decide,_,_,rfl⟩,Z9⟩
def sZ:GP (.str "Z"):=⟨rfl,⟨by decide,_,_,rfl⟩,Z9⟩
def pY:∀x∈cX,GP x:=λx a=>by
 simp only [cX,Mn,MR,M9] at a;rcases a with rfl|rfl|rfl
 .exact rX
 .exact qK
 .exact sZ
def ue (i:Int):GP (.int i):=⟨rfl,trivial,by simp [cX,aB]⟩
structure rO (pool:List D):Prop where
 len:pool.length=3
 nodup:pool.Nodup
 gp:∀x∈pool,GP x
 nb:∀x∈pool,aB x=false
structure BI (base bs:List (List D)):Prop where
 ask:bs.filter (fun a=> !aJ a)=base
 at_:∀a∈bs,lI a
 gd:∀g∈bs,aJ g=true->(∃r x y,g=[.str r,x,y])/\∀b∈ak [] g,b∈a8 [] base
 nM:base.length<=3
def DQ{B:ZY}(g:aB (.str r)=false)(i:aB x=true->x.name∈B)(j:aB y=true->y.name∈B):∀b∈ak [] [.str r,x,y],b∈B:=λb d=>by
 have e:ak [] [.str r,x,y]=cu (cu (cu [] (.str r)) x) y:=rfl;rw [e,wy (B:=[]) g] at d;have a:∀{C:ZY} {z:D},b∈cu C z->b∈C\/(aB z=true/\b=z.name):=λ{C z} h=>by
  unfold cu at h;split at h
  .rename_i f
   rcases MB.mp h with w|w
   .exact .inl w
   .exact .inr ⟨by simp at f;exact f.1,by simpa using w⟩
  .exact .inl h
 rcases a d with w|⟨w,c⟩
 .rcases a w with w|⟨k,c⟩
  .cases w
  .rw [c];exact i k
 .rw [c];exact j w
def Hh{d:ZW}(h:∀a∈d,lI a)(g:b∈a8 [] d):D.str b∈cX/\aB (.str b)=true:=by
 rcases vp g with z|⟨a,i,x,f,c,rfl⟩
 .cases z
 .have A:=h a i;have e:=iD c;cases a with
  |nil=>cases f
  |cons y r=>
   rcases Mn.mp f with z|z
   .subst z;have:=A.hd;rw [show aB x=false from this] at c;cases c
   .have:=A.bl x z;rw [c] at this;rw [<-e];exact ⟨MC this.symm,c⟩
end FL
namespace FL
open PySem L2
theorem vg:∀{l:ZZ},(∀x∈l,x.fG=true)->D.jr l=true
 |[],_=>by simp [D.jr]
 |x::r,h=>by
  rw [D.jr,h x Mc,vg λy a=>h y<|L8 _ a];rfl
def og {d:D}(h:d.sc=true):d.fG=true:=by
 cases d<;>first|rfl|(simp [D.sc] at h)
def rh {l:ZZ}(h:∀x∈l,x.fG=true):(D.tup l).fG=true:=by rw [D.fG];exact vg h
def iW {l:ZZ}(h:∀x∈l,x.sc=true):(D.tup l).fG=true:=rh λx a=>og<|h x a
def oQ:HO->Bool
 |.lst _=>true|.dK _=>true|.dT _=>true|_=>false
mutual
theorem al.narrow {H:Hp}{M own:List Addr}(hk:∀a∈own,∃o,H a=some o/\oQ o=true):∀{v:V} {d:D},d.fG=true->al (but H M) v d->al (but H (own++M)) v d
 |_,_,_,.av=>.av
 |_,_,_,.bl b=>.bl b
 |_,_,_,.int b=>.int b
 |_,_,_,.str b=>.str b
 |_,_,hd,.tup (a:=c) h r=>by
  refine .tup ?_ (aE.narrow hk (by rw [D.fG] at hd;exact hd) r)
  obtain ⟨h1,h2⟩:=aw h
  rw [bn]
  ·exact h2
  ·intro z
   rcases mem_append.mp z with z|z
   ·obtain ⟨o,e,ko⟩:=hk c z
    rw [e] at h2;cases h2;cases ko
   ·exact h1 z
 |_,_,hd,.lst _ _=>by cases hd
theorem aE.narrow {H:Hp}{M own:List Addr}(hk:∀a∈own,∃o,H a=some o/\oQ o=true):∀{vs:List V} {ds:List D},D.jr ds=true->aE (but H M) vs ds->aE (but H (own++M)) vs ds
 |_,_,_,.nil=>.nil
 |_,_,hd,.cons h r=>by
  rw [D.jr,Bool.and_eq_true] at hd
  exact .cons (al.narrow hk hd.1 h) (aE.narrow hk hd.2 r)
end
inductive dW (G:Hp):List (List aM×V)->List (List D×D)->Prop
 |nil:dW G [] []
 |cons {v:V} {ks:List (List aM×V)} {ps:List (List D×D)} {key:List D} {d:D}:bZ key->al G v d->dW G ks ps->dW G ((cc key,v)::ks) ((key,d)::ps)
theorem dW.mono(e:ab G a):∀{b:List (List aM×V)} {c:List (ZZ×D)},dW G b c->dW a b c
 |_,_,.nil=>.nil
 |_,_,.cons h r t=>.cons h (r.mono e)<|t.mono e
theorem dW.length:∀{a:List (List aM×V)} {b:List (ZZ×D)},dW G a b->a.length=b.length
 |_,_,.nil=>rfl
 |_,_,.cons _ _ t=>M7 (· +1) t.length
def fU (ps:List (List D×D))(key:List D):Option D:=(ps.find? λp=>decide (p.1=key)).map (·.2)
def nY (ps:List (List D×D))(key:List D)(d:D):List (List D×D):=
 if (ps.any λp=>decide (p.1=key))=true then ps.map (λp=>if p.1=key then (p.1,d) else p) else ps++[(key,d)]
theorem dW.val(f:bZ a):∀{c:List (List aM×V)} {b:List (ZZ×D)},dW G c b->(br c (cc a)=none/\fU b a=none)\/∃v d,br c (cc a)=some v/\fU b a=some d/\al G v d
 |_,_,.nil=>.inl ⟨rfl,rfl⟩
 |_,_,.cons (v:=v) (ks:=c) (ps:=b) (key:=k) (d:=d) h r t=>by
  by_cases e:k=a
  .subst e;exact .inr ⟨v,d,ge rfl,by simp [fU],r⟩
  .have g:¬cc k=cc a:=λz=>e (qo h f z);have i:fU ((k,d)::b) a=fU b a:=by simp [fU,Nk,e]
   rw [gk (p:=(cc k,v)) g,i];exact t.val f
theorem dW.app:∀{a b:List (List aM×V)} {c d:List (ZZ×D)},dW G a c->dW G b d->dW G (a++b) (c++d)
 |_,_,_,_,.nil,s=>s
 |_,_,_,_,.cons h r t,s=>.cons h r<|t.app s
theorem dW.mO(b:bZ a)(r:al G v d):∀{f:List (List aM×V)} {g:List (ZZ×D)},dW G f g->dW G (f.map λc=>if c.1=cc a then (c.1,v) else c) (g.map λp=>if p.1=a then (p.1,d) else p)
 |_,_,.nil=>.nil
 |_,_,.cons (v:=j) (key:=k) (d:=l) h i t=>by
  rw [MW,MW];by_cases e:k=a
  .rw [Mp (by rw [e]),Mp e];exact .cons h r<|t.mO b r
  .rw [Mj λz=>e<|qo h b z,Mj e];exact .cons h i<|t.mO b r
theorem xF (a:ZZ):∀b:List (ZZ×D),(b.any λp=>decide (p.1=a))=(fU b a).isSome
 |[]=>rfl
 |p::r=>by
  rw [Pz,xF a r];by_cases e:p.1=a
  .simp [fU,Nk,e]
  .simp [fU,Nk,e]
def dW.put(b:bZ a)(r:al G v d)(t:dW G c f):dW G (cf c (cc a) v) (nY f a d):=by
 unfold cf nY;have e:(c.any λi=>decide<|i.1=cc a)=(f.any λp=>decide<|p.1=a):=by
  rw [kI,xF];rcases t.val b with ⟨g,h⟩|⟨v,d,g,h,_⟩<;>rw [g,h]<;>rfl
 rw [e];split
 .exact t.mO b r
 .exact t.app (.cons b r .nil)
def Jo(h:fU b a=none):nY b a d=b++[(a,d)]:=by
 unfold nY;rw [xF,h];rfl
theorem qS (a:ZZ):∀b:List (ZZ×D),(fU b a).isSome=decide (a∈b.map (·.1))
 |[]=>rfl
 |p::r=>by
  by_cases e:p.1=a
  .simp [fU,Nk,e]
  .have c:fU (p::r) a=fU r a:=by simp [fU,Nk,e]
   have d:¬a=p.1:=λz=>e z.symm;rw [c,qS a r];simp [d]
inductive Sl where
 |no
 |d (x:D)
 |l (xs:List D)
 |k (S:aR)
 |t (ps:List (List D×D))
 |kd (S:aR)
 |td (ps:List (List D×D))
def Sl.own:Sl->Bool
 |.l _=>true|.k _=>true|.t _=>true|_=>false
def Sl.ij:Sl->Option D
 |.d x=>some x|.l xs=>some (.lst xs)|_=>none
def Sl.dat:Sl->Option D
 |.d x=>some x|_=>none
def mi (G H:Hp)(own:List Addr)(o:Option (Option V)):Sl->Prop
 |.no=>True
 |.d x=>∃v,o=some (some v)/\al G v x
 |.l xs=>∃a us,o=some (some (.ref a))/\a∈own/\H a=some (.lst us)/\aE G us xs
 |.k S=>∃a,o=some (some (.ref a))/\a∈own/\H a=some (.dK (b9 [] (bI S)))/\∀p∈S,p.2.sc=true
 |.t ps=>∃a kvs,o=some (some (.ref a))/\a∈own/\H a=some (.dT kvs)/\dW G kvs ps
 |.kd S=>∃a,o=some (some (.ref a))/\G a=some (.dK (b9 [] (bI S)))/\∀p∈S,p.2.sc=true
 |.td ps=>∃a kvs,o=some (some (.ref a))/\G a=some (.dT kvs)/\dW G kvs ps
def jW (G:Hp)(o:Option (Option V)):Sl->Prop
 |.no=>True
 |.d x=>∃v,o=some (some v)/\al G v x
 |.l xs=>∃v,o=some (some v)/\al G v (.lst xs)
 |.k S=>∃a,o=some (some (.ref a))/\G a=some (.dK (b9 [] (bI S)))/\∀p∈S,p.2.sc=true
 |.t ps=>∃a kvs,o=some (some (.ref a))/\G a=some (.dT kvs)/\dW G kvs ps
 |.kd S=>∃a,o=some (some (.ref a))/\G a=some (.dK (b9 [] (bI S)))/\∀p∈S,p.2.sc=true
 |.td ps=>∃a kvs,o=some (some (.ref a))/\G a=some (.dT kvs)/\dW G kvs ps
theorem jW.mono(e:ab G c):∀{s:Sl},jW G o s->jW c o s
 |.no,_=>trivial
 |.d _,⟨v,h,r⟩=>⟨v,h,r.mono e⟩
 |.l _,⟨v,h,r⟩=>⟨v,h,r.mono e⟩
 |.k _,⟨a,h,r,z⟩=>⟨a,h,e _ _ r,z⟩
 |.t _,⟨a,b,h,r,z⟩=>⟨a,b,h,e _ _ r,z.mono e⟩
 |.kd _,⟨a,h,r,z⟩=>⟨a,h,e _ _ r,z⟩
 |.td _,⟨a,b,h,r,z⟩=>⟨a,b,h,e _ _ r,z.mono e⟩
structure bP (G:Hp)(σ:St)(δ:List Sl):Prop where
 len:σ.length=δ.length
 get:∀(i:Nat) (s:Sl),δ[i]?=some s->jW G σ[i]? s
theorem bP.mono(h:bP G b c)(e:ab G a):bP a b c:=⟨h.len,λi s q=>(h.get i s q).mono e⟩
def bP.env(h:bP G b a):ax G b (a.map Sl.ij):=by
 refine ⟨by rw [Md];exact h.len,λi d q=>?_⟩;rw [Mo] at q;cases e:a[i]? with
 |none=>rw [e] at q;cases q
 |some s=>
  rw [e] at q;have q:s.ij=some d:=Mu q;have w:=h.get i s e;cases s with
  |no=>cases q
  |d x=>cases q;exact w
  |l x=>cases q;exact w
  |k x=>cases q
  |t x=>cases q
  |kd x=>cases q
  |td x=>cases q
def bP.v{i:Nat}(h:bP G b a)(e:(a[i]?).bind Sl.ij=some d):ae (aU i) G b d:=by
 refine aI h.env (d:=d) ?_;rw [Mo];cases q:a[i]? with
 |none=>rw [q] at e;cases e
 |some s=>rw [q] at e;exact M7 some e
def ax.vd{a:List Sl}{i:Nat}(h:ax G b (a.map Sl.dat))(e:(a[i]?).bind Sl.dat=some d):ae (aU i) G b d:=by
 refine aI h (d:=d) ?_;rw [Mo];cases q:a[i]? with
 |none=>rw [q] at e;cases e
 |some s=>rw [q] at e;exact M7 some e
structure Bx (B:Hp)(M0 own:List Addr)(σ:St)(H:Hp)(δ:List Sl):Prop where
 len:σ.length=δ.length
 same:ab B H
 iq:au M0 B
 kind:∀a∈own,B a=none/\∃o,H a=some o/\oQ o=true
 slot:∀(i:Nat) (s:Sl),δ[i]?=some s->mi (but H (own++M0)) H own σ[i]? s
 apart:∀(i j:Nat) (s t:Sl) (a:Addr),i≠j->δ[i]?=some s->δ[j]?=some t->s.own=true->t.own=true->σ[i]?=some (some (.ref a))->σ[j]?=some (some (.ref a))->False
section
variable {B:Hp}{M0 own:List Addr}{σ:St}{H H':Hp}{δ:List Sl}
theorem mi.mono(e:ab G c)(k:∀a∈own,∀u,H a=some u->H' a=some u):∀{s:Sl},mi G H own o s->mi c H' own o s
 |.no,_=>trivial
 |.d _,⟨v,h,r⟩=>⟨v,h,r.mono e⟩
 |.l _,⟨a,f,h,m,q,r⟩=>⟨a,f,h,m,k a m _ q,r.mono e⟩
 |.k _,⟨a,h,m,q,z⟩=>⟨a,h,m,k a m _ q,z⟩
 |.t _,⟨a,b,h,m,q,z⟩=>⟨a,b,h,m,k a m _ q,z.mono e⟩
 |.kd _,⟨a,h,r,z⟩=>⟨a,h,e _ _ r,z⟩
 |.td _,⟨a,b,h,r,z⟩=>⟨a,b,h,e _ _ r,z.mono e⟩
def Bx.live (b:Bx B M0 own σ H δ):au M0 H:=b.iq.same b.same
def Bx.out(b:Bx B M0 own σ H δ)(h:a∈own):a∉M0:=λz=>b.iq a z (b.kind a h).1
def Bx.kd (b:Bx B M0 own σ H δ):∀a∈own,∃o,H a=some o/\oQ o=true:=λa h=>(b.kind a h).2
def Bx.gI (b:Bx B M0 own σ H δ):au (own++M0) H:=λa c=>by
 rcases MB.mp c with z|z
 .obtain ⟨o,e,_⟩:=b.kd a z;rw [e];exact λz=>nomatch z
 .exact b.live a z
def Bx.seen (b:Bx B M0 own σ H δ):ab (but H (own++M0)) (but H M0):=eA λa h=>Ml _ h
def Bx.wide (b:Bx B M0 own σ H δ):bP (but H M0) σ δ:=⟨b.len,λi s q=>by
 have w:=b.slot i s q;cases s with
 |no=>trivial
 |d x=>obtain ⟨v,h,r⟩:=w;exact ⟨v,h,r.mono b.seen⟩
 |l x=>obtain ⟨a,f,h,m,e,r⟩:=w;exact ⟨.ref a,h,.lst (by rw [bn<|b.out m];exact e)<|r.mono b.seen⟩
 |k x=>obtain ⟨a,h,m,e,r⟩:=w;exact ⟨a,h,by rw [bn<|b.out m];exact e,r⟩
 |t x=>obtain ⟨a,c,h,m,e,r⟩:=w;exact ⟨a,c,h,by rw [bn<|b.out m];exact e,r.mono b.seen⟩
 |kd x=>exact jW.mono (s:=.kd x) b.seen w
 |td x=>exact jW.mono (s:=.td x) b.seen w⟩
def Bx.jj (b:Bx B M0 own σ H δ):ax (but H (own++M0)) σ (δ.map Sl.dat):=by
 refine ⟨by rw [Md];exact b.len,λi d q=>?_⟩;rw [Mo] at q;cases e:δ[i]? with
 |none=>rw [e] at q;cases q
 |some s=>
  rw [e] at q;have q:s.dat=some d:=Mu q;have w:=b.slot i s e;cases s with
  |no=>cases q
  |d x=>cases q;exact w
  |l x=>cases q
  |k x=>cases q
  |t x=>cases q
  |kd x=>cases q
  |td x=>cases q
def Bx.grow (b:Bx B M0 own σ H δ)(s:ab H H'):Bx B M0 own σ H' δ:=
 ⟨b.len,b.same.trans s,b.iq,λa h=>⟨(b.kind a h).1,let ⟨o,e,k⟩:=b.kd a h;⟨o,s _ _ e,k⟩⟩,λi t q=>(b.slot i t q).mono (s.but _) λa _ u e=>s _ _ e,b.apart⟩
def Oh{l:List b}{j:Nat}(h:(l.set i x)[j]?=some s):(i=j/\s=x/\i<l.length)\/(i≠j/\l[j]?=some s):=by
 by_cases e:i=j
 .subst e;by_cases a:i<l.length
  .rw [Mr a] at h
   exact .inl ⟨rfl,(Mu h).symm,a⟩
  .rw [M3 (by simpa using MV a)] at h;cases h
 .rw [Me e] at h
  exact .inr ⟨e,h⟩
theorem Bx.set(b:Bx B M0 own σ H δ)(i:Nat)(r:al (but H (own++M0)) v x):Bx B M0 own (σ.set i (some v)) H (δ.set i (.d x)):=by
 refine ⟨by simp [b.len],b.same,b.iq,b.kind,λj s q=>?_,λj k s t a m c e f g h l=>?_⟩
 .rcases Oh q with ⟨rfl,rfl,n⟩|⟨o,q⟩
  .exact ⟨v,Mr (by rw [b.len];exact n),r⟩
  .rw [Me o];exact b.slot j s q
 .rcases Oh c with ⟨rfl,rfl,_⟩|⟨p,c⟩
  .cases f
  .rcases Oh e with ⟨rfl,rfl,_⟩|⟨u,e⟩
   .cases g
   .rw [Me p] at h
    rw [Me u] at l;exact b.apart j k s t a m c e f g h l
def GW {H:Hp}{M:ZX}{p:Addr}{o:HO}(h:H p=none):but (upd H p o) (p::M)=but H M:=by
 funext c;unfold FL.but;by_cases e:c=p
 .subst e;rw [Mp Mc];split
  .rfl
  .exact h.symm
 .by_cases z:c∈M
  .rw [Mp (L8 _ z),Mp z]
  .rw [Mj (λw=>by rcases Mn.mp w with w|w;exact e w;exact z w),Mj z,aD e]
def Bx.new(b:Bx B M0 own σ H δ)(i:Nat)(n:H p=none)(ho:oQ o=true)(hs:mi (but H (own++M0)) (upd H p o) (p::own) (some (some (.ref p))) s):Bx B M0 (p::own) (σ.set i (some (.ref p))) (upd H p o) (δ.set i s):=by
 have eb:but (upd H p o) (p::own++M0)=but H (own++M0):=GW n;have c:∀{a:Addr},a∈own->a≠p:=λ{a} G=>by
  obtain ⟨u,e,_⟩:=b.kd a G;exact dm e n
 have hB:B p=none:=by
  cases q:B p with
  |none=>rfl
  |some u=>rw [b.same _ _ q] at n;cases n
 refine ⟨by simp [b.len],b.same.trans<|da n o,b.iq,λa G=>?_,λj t q=>?_,λj k s' t' a M h1 N O Q v g=>?_⟩
 .rcases Mn.mp G with z|z
  .exact ⟨by rw [z];exact hB,o,by rw [z];exact aO,ho⟩
  .obtain ⟨u,e,ku⟩:=b.kd a z;exact ⟨(b.kind a z).1,u,by rw [aD<|c z];exact e,ku⟩
 .rw [eb]
  rcases Oh q with ⟨rfl,rfl,y⟩|⟨ne,q⟩
  .rw [Mr (by rw [b.len];exact y)];exact hs
  .rw [Me ne]
   have w:=b.slot j t q;have keep:∀{a:Addr} {u:HO},a∈own->H a=some u->upd H p o a=some u:=λ{a u} m e=>by rw [aD<|c m];exact e
   cases t with
   |no=>trivial
   |d x=>exact w
   |l x=>obtain ⟨a,T,h,m,e,r⟩:=w;exact ⟨a,T,h,L8 _ m,keep m e,r⟩
   |k x=>obtain ⟨a,h,m,e,r⟩:=w;exact ⟨a,h,L8 _ m,keep m e,r⟩
   |t x=>obtain ⟨a,A,h,m,e,r⟩:=w;exact ⟨a,A,h,L8 _ m,keep m e,r⟩
   |kd x=>exact w
   |td x=>exact w
 .have f:∀{m:Nat} {s:Sl},δ[m]?=some s->s.own=true->∀{a:Addr},σ[m]?=some (some (.ref a))->a∈own:=λ{m s} h E {a} I=>by
   have w:=b.slot m s h;cases s with
   |no=>cases E
   |d x=>cases E
   |l x=>obtain ⟨U,T,h,C,_⟩:=w;rw [I] at h;cases h;exact C
   |k x=>obtain ⟨U,h,C,_⟩:=w;rw [I] at h;cases h;exact C
   |t x=>obtain ⟨U,A,h,C,_⟩:=w;rw [I] at h;cases h;exact C
   |kd x=>cases E
   |td x=>cases E
  rcases Oh h1 with ⟨rfl,_,y⟩|⟨n1,Y⟩
  .rw [Mr (by rw [b.len];exact y)] at v
   cases v;rcases Oh N with ⟨rfl,_,_⟩|⟨J,L⟩
   .exact M rfl
   .rw [Me J] at g
    exact c (f L Q g) rfl
  .rw [Me n1] at v
   rcases Oh N with ⟨rfl,_,y⟩|⟨J,L⟩
   .rw [Mr (by rw [b.len];exact y)] at g
    cases g;exact c (f Y O v) rfl
   .rw [Me J] at g
    exact b.apart j k s' t' a M Y L O Q v g
def Bx.put(b:Bx B M0 own σ H δ){i:Nat}(v:δ[i]?=some s)(y:s.own=true)(A:a∈own)(e:σ[i]?=some (some (.ref a)))(G:oQ o=true)(h:mi (but H (own++M0)) (upd H a o) own (some (some (.ref a))) g)(I:g.own=true):Bx B M0 own σ (upd H a o) (δ.set i g):=by
 have J:but (upd H a o) (own++M0)=but H (own++M0):=dN<|Ms _ A
 refine ⟨by simp [b.len],λc u q=>?_,b.iq,λc C=>?_,λj t q=>?_,λj k s1 t1 c L M N O Q T U=>?_⟩
 .rw [aD λz:c=a=>by rw [z,(b.kind a A).1] at q;cases q];exact b.same _ _ q
 .refine ⟨(b.kind c C).1,?_⟩
  by_cases z:c=a
  .exact ⟨o,by rw [z];exact aO,G⟩
  .rw [aD z];exact b.kd c C
 .rw [J]
  rcases Oh q with ⟨rfl,rfl,_⟩|⟨Y,q⟩
  .rw [e];exact h
  .have w:=b.slot j t q;have keep:∀{c:Addr} {u:HO},t.own=true->σ[j]?=some (some (.ref c))->H c=some u->upd H a o c=some u:=λ{c u} kt ec hu=>by
    rw [aD λz:c=a=>by subst z;exact b.apart i j s t c Y v q y kt e ec];exact hu
   cases t with
   |no=>trivial
   |d x=>exact w
   |l x=>obtain ⟨c,us,h,m,e,r⟩:=w;exact ⟨c,us,h,m,keep rfl h e,r⟩
   |k x=>obtain ⟨c,h,m,e,r⟩:=w;exact ⟨c,h,m,keep rfl h e,r⟩
   |t x=>obtain ⟨c,n,h,m,e,r⟩:=w;exact ⟨c,n,h,m,keep rfl h e,r⟩
   |kd x=>exact w
   |td x=>exact w
 .have f:∀{m:Nat} {u:Sl},(δ.set i g)[m]?=some u->u.own=true->∃E,δ[m]?=some E/\E.own=true:=λ{m u} p ku=>by
   rcases Oh p with ⟨rfl,rfl,_⟩|⟨_,p⟩
   .exact ⟨s,v,y⟩
   .exact ⟨u,p,ku⟩
  obtain ⟨u1,g1,m1⟩:=f M O;obtain ⟨u2,g2,m2⟩:=f N Q;exact b.apart j k u1 u2 c L g1 g2 m1 m2 T U
def Bx.base (b:Bx B M0 own σ H δ):Bx (but H own) M0 own σ H δ:=by
 refine ⟨b.len,qO H own,λa ha=>?_,λa ha=>⟨by unfold FL.but;rw [Mp ha],b.kd a ha⟩,b.slot,b.apart⟩;rw [bn (λz=>b.out z ha)];exact b.live a ha
def Bx.back(b:Bx c M0 own σ H δ)(s:ab B c)(l:au M0 B):Bx B M0 own σ H δ:=
 ⟨b.len,s.trans b.same,l,λa d=>⟨(by
  cases q:B a with
  |none=>rfl
  |some u=>exact absurd (b.kind a d).1 (by rw [s _ _ q];exact λz=>nomatch z)),b.kd a d⟩,b.slot,b.apart⟩
def Bx.sub (b:Bx B M0 own σ H δ):ab B (but H own):=λc u q=>by
 rw [bn λz=>by rw [(b.kind c z).1] at q;cases q];exact b.same _ _ q
end
def aX (B:Hp)(M0:List Addr)(δ:List Sl)(P:St->Hp->Prop):Prop:=∀own σ H,Bx B M0 own σ H δ->P σ H
def aX.run(b:Bx B d a c H e)(h:aX B d e P):P c H:=h a c H b
theorem aX.back(h:aX B a e P)(s:ab B d)(l:au a B):aX d a e P:=λc f H b=>h c f H<|b.back s l
def gr {M:ZX}{H:Hp}{vs:List V}{ds:ZZ}(l:au M H)(r:aE (but H M) vs ds)(N:ZY):Bx H M [] (L2.start N vs) H (ds.map Sl.d++List.replicate (N.length-ds.length) .no):=by
 have E:=hX r N;refine ⟨?_,ab.refl _,l,(λa ha=>nomatch ha),λi s q=>?_,λi j s t a _ hs _ ks _ _ _=>?_⟩
 .rw [E.len];simp
 .by_cases hi:i<ds.length
  .rw [ME (by simpa using hi),Mo,Mb hi] at q
   have q:=Mu q;subst q;refine E.get i ds[i] ?_;rw [ME (by simpa using hi),Mo,Mb hi];rfl
  .rw [MJ (by simpa using MV hi)] at q
   obtain ⟨h1,h2⟩:=Ma.mp q;simp at h2;subst h2;trivial
 .by_cases hi:i<ds.length
  .rw [ME (by simpa using hi),Mo,Mb hi] at hs
   have q:=Mu hs;subst q;cases ks
  .rw [MJ (by simpa using MV hi)] at hs
   obtain ⟨h1,h2⟩:=Ma.mp hs;simp at h2;subst h2;cases ks
section
variable {B:Hp}{M0:List Addr}{δ:List Sl}{E:Ends}{te ty tv:TE}{t:TA}{tt:TT}{d:D}{ds xs:List D}{K:PySem.W.Frag}
def fj(h:∀G a,bP G a δ->ae te G a d)(e:d.fG=true)(k:aX B M0 (δ.set i (.d d)) E.nx):aX B M0 δ (eF te (cx i) E):=λc a H b=>
 (h _ a b.wide).at b.live λv f s r=>k c _ f<|(b.grow s).set i<|al.narrow (b.grow s).kd e r
def fM(h:∀G a,ax G a (δ.map Sl.dat)->ae te G a d)(k:aX B M0 (δ.set i (.d d)) E.nx):aX B M0 δ (eF te (cx i) E):=λc a H b=>
 (h _ a b.jj).at b.gI λv e s r=>k c _ e<|(b.grow s).set i r
def eJ (h:∀G c,bP G c δ->ae te G c d)(k:∀v a,ab B a->al (but a M0) v d->E.rt v a):aX B M0 δ (pz te E):=λe c H b=>
 (h _ c b.wide).at b.live λv a s r=>k v a (b.same.trans s) r
def dC{i j:TS}(h:∀G a,bP G a δ->bg tt G a b)(k:b=true->aX B M0 δ (i E))(l:b=false->aX B M0 δ (j E)):aX B M0 δ (np tt i j E):=λc a H f=>
 BB f.live (h _ a f.wide) (λe g s=>k e c a g<|f.grow s) (λe g s=>l e c a g<|f.grow s)
def Kp{c e:TS}(P:List Sl->Prop)(h:∀G f,bP G f δ->bg tt G f b)(i:(∀a,P a->aX B M0 a E.nx)->b=true->aX B M0 δ (c E))(j:(∀a,P a->aX B M0 a E.nx)->b=false->aX B M0 δ (e E))(g:∀a,P a->aX B M0 a E.nx):aX B M0 δ (np tt c e E):=
 dC h (i g) (j g)
def eQ (h:aX B M0 δ E.nx):aX B M0 δ (sV E):=h
def DA(h:∀G a,ax G a (δ.map Sl.dat)->dJ t G a ds)(f:ds.length<=sizeLine)(k:aX B M0 (δ.set i (.l ds)) E.nx):aX B M0 δ (eF (kn t) (cx i) E):=λc a H b=>
 h _ a b.jj _ H (ab.refl _) b.gI _ λg n j e=>⟨by rw [e.length];exact f,λp m=>k (p::c) _ _<|(b.grow j).new i m rfl ⟨p,g,rfl,Mc,aO,e⟩⟩
def ql(k:aX B M0 (δ.set i (.l [])) E.nx):aX B M0 δ (eF (kn bL) (cx i) E):=DA (λ_ _ _=>ag) (MI _) k
def t6 {j:Nat}(g:δ[j]?=some (.l xs))(h:∀G c,bP G c δ->ae te G c d)(p:d.fG=true)(q:xs.length<sizeLine)(k:aX B M0 (δ.set j (.l (xs++[d]))) E.nx):aX B M0 δ (ki (nq K "list" nJ (aU j) (bu te bL)) E):=λf c H b=>by
 obtain ⟨a,i,e,m,n,r⟩:=b.slot j _ g;refine ⟨.ref a,e,(show gW K "list" (.ref a) H from .inl ⟨rfl,i,aN.of n⟩),(h _ c b.wide).at b.live λv w s u=>?_⟩;have o:=b.grow s;refine ⟨a,i,v,rfl,rfl,s _ _ n,by rw [r.length];exact q,k f c _<|o.put g rfl m e rfl ⟨a,_,rfl,m,aO,?_⟩ rfl⟩;exact (r.mono<|s.but _).snoc<|al.narrow o.kd p u
def GS{j:Nat}(i:δ[j]?=some (.l xs))(h:∀G f,ax G f (δ.map Sl.dat)->ae te G f (.lst ys))(q:xs.length+ys.length<=sizeLine)(k:aX B M0 (δ.set j (.l (xs++ys))) E.nx):aX B M0 δ (ki (nq K "list" Ce (aU j) (bu te bL)) E):=λg f H b=>by
 obtain ⟨a,n,e,m,o,r⟩:=b.slot j _ i;refine ⟨.ref a,e,(show gW K "list" (.ref a) H from .inl ⟨rfl,n,aN.of o⟩),(h _ f b.jj).at b.gI λv z s u=>?_⟩;have w:=b.grow s;obtain ⟨c,x,rfl,y,p⟩:=u.dX;refine ⟨a,c,n,x,rfl,rfl,s _ _ o,(aw y).2,by rw [r.length,p.length];exact q,k g f _<|w.put i rfl m e rfl ⟨a,_,rfl,m,aO,?_⟩ rfl⟩;exact (r.mono<|s.but _).append p
def Ie(k:aX B M0 (δ.set i (.k [])) E.nx):aX B M0 δ (eF u8 (cx i) E):=λa e H b=>λp c=>
 k (p::a) _ _ (b.new i c rfl ⟨p,rfl,Mc,aO,λ_ h=>nomatch h⟩)
def JO(k:aX B M0 (δ.set i (.t [])) E.nx):aX B M0 δ (eF vG (cx i) E):=λa e H b=>λp c=>
 k (p::a) _ _ (b.new i c rfl ⟨p,[],rfl,Mc,aO,.nil⟩)
theorem zf:∀(b a:List (aM×V)),(b9 a b).length<=a.length+b.length
 |[],a=>Mh _
 |p::r,a=>by
  have c:=zf r<|cf a p.1 p.2
  have e:=mT a p.1 p.2;show (b9 (cf a p.1 p.2) r).length<=_;rw [MN];omega
def Ic (S:aR)(n:Str)(x:D):b9 [] (bI (S++[(n,x)]))=cf (b9 [] (bI S)) (Sum.inr n) x.toV:=by
 unfold b9 bI;rw [MK,Nx];rfl
def JL{j:Nat}(g:δ[j]?=some (.k S))(l:∀G c,bP G c δ->ae tv G c d)(o:∀G c,bP G c δ->ae ty G c (.str n))(h:d.sc=true)(J:S.length<1000)(k:aX B M0 (δ.set j (.k (S++[(n,d)]))) E.nx):aX B M0 δ (p9 (aU j) ty tv E):=λf c H b=>by
 refine (l _ c b.wide).at b.live λv L q r=>?_;have b1:=b.grow q;obtain ⟨a,e,m,s,u⟩:=b1.slot j _ g;refine ⟨.ref a,e,(o _ c b1.wide).at b1.live λy M i w=>?_⟩;have b2:=b1.grow i;have x:=w.sD;subst x;have A:=zf (bI S) [];have C:(bI S).length=S.length:=by unfold bI;rw [Md]
 refine ⟨a,_,rfl,gi.k (k:=Sum.inr n) (i _ _ s)<|cq (by rw [N6] at A;omega),k f c _<|b2.put g rfl m e rfl ⟨a,rfl,m,?_,λp I=>?_⟩ rfl⟩
 .rw [Ic,(fO h r).1];exact aO
 .rcases MB.mp I with z|z
  .exact u p z
  .rw [MG.mp z];exact h
def DD{j:Nat}(n:δ[j]?=some (.t i))(o:bZ key)(q:∀G f,ax G f (δ.map Sl.dat)->ae tv G f d)(r:∀G f,bP G f δ->ae ty G f (.tup key))(s:i.length<1000)(k:aX B M0 (δ.set j (.t (nY i key d))) E.nx):aX B M0 δ (p9 (aU j) ty tv E):=λl f H b=>by
 refine (q _ f b.jj).at b.gI λv J u w=>?_;have b1:=b.grow u;obtain ⟨a,x,e,m,z,p⟩:=b1.slot j _ n;refine ⟨.ref a,e,(r _ f b1.wide).at b1.live λy L h A=>?_⟩;have b2:=b1.grow h;obtain ⟨c,M,rfl,C,I⟩:=A.fb;have g:=(aw C).2;rw [mS o I] at g;refine ⟨a,_,rfl,gi.t (k:=cc key) (h _ _ z) g<|cq (by rw [p.length];exact ND s),k l f _<|b2.put n rfl m e rfl ⟨a,_,rfl,m,aO,(p.mono<|h.but _).put o<|w.mono<|h.but _⟩ rfl⟩
end
section
variable {G:Hp}{σ:St}{δ:List Sl}{ty:TE}{d:D}{j:Nat}
def c6.AO{H:Hp}{ps:List (ZZ×D)}(g:H a=some (.dT e))(h:bZ b)(r:al (but H M) v (.tup b)):c6 H a v (br e (cc b)):=by
 obtain ⟨c,l,rfl,i,k⟩:=r.fb;have f:=(aw i).2;rw [mS h k] at f;exact c6.t g f
def bP.BY(e:bP G σ δ)(o:δ[j]?=some (.t c))(g:bZ b)(h:ae ty G σ (.tup b)):ae (qc ty (aU j)) G σ (.bl (decide (b∈c.map (·.1)))):=λM H s l Q k=>h M H s l _ λv p i q=>by
 obtain ⟨a,f,r,u,w⟩:=(e.mono s).get j _ o;have x:=i _ _ (aw u).2;refine ⟨.ref a,r,a,_,rfl,c6.AO (ps:=c) x g q,?_⟩;have y:(br f<|cc b).isSome=decide (b∈c.map (·.1)):=by
  rw [<-qS];rcases w.val g with ⟨m,n⟩|⟨v,d,m,n,_⟩<;>rw [m,n]<;>rfl
 rw [y];exact k _ p i (.bl _)
def bP.Lv(e:bP G σ δ)(o:δ[j]?=some (.t c))(g:bZ b)(h:ae ty G σ (.tup b)):ae (nP ty (aU j)) G σ (.bl (!decide (b∈c.map (·.1)))):=λM H s l Q k=>h M H s l _ λv p i q=>by
 obtain ⟨a,f,r,u,w⟩:=(e.mono s).get j _ o;have x:=i _ _ (aw u).2;refine ⟨.ref a,r,a,_,rfl,c6.AO (ps:=c) x g q,?_⟩;have y:(br f<|cc b).isSome=decide (b∈c.map (·.1)):=by
  rw [<-qS];rcases w.val g with ⟨m,n⟩|⟨v,d,m,n,_⟩<;>rw [m,n]<;>rfl
 rw [y];exact k _ p i (.bl _)
end
def c9 (B:Hp)(M0:List Addr)(δ:List Sl)(wi:TI)(ds:List D):Prop:=∀own σ H,Bx B M0 own σ H δ->∀R:It->Hp->Prop,
 (∀J H1,ab H H1->(∀(j:Nat) d M' H',ds[j]?=some d->ab (but H1 (own++M0)) (but H' M')->au M' H'->J.go j H'/\∀x H'',J.ox j H' x H''->ab H' H''/\al (but H'' M') x d)->(∀M' H',ab (but H1 (own++M0)) (but H' M')->J.stop ds.length H')->R J H1)->wi σ H R
section
variable {B:Hp}{M0:List Addr}{δ:List Sl}{E:Ends}{wi:TI}{g:TG}{tb:TS}{t:TA}{ds:List D}
def c9.of (h:∀G a,ax G a (δ.map Sl.dat)->Walk wi G a ds):c9 B M0 δ wi ds:=λc a H b R k=>h _ a b.jj _ H (ab.refl _) b.gI R k
def c9.lW {n:Nat}(w:n<2^62)(h:∀G a,bP G a δ->dJ t G a [.int n]):c9 B M0 δ (wY t) ((List.range n).map λ(k:Nat)=>D.int (0+k)):=λc a H b R k=>h _ a b.wide _ H (ab.refl _) b.live _ λy f i l=>by
 obtain ⟨x,rfl,m⟩:=iF l;refine ⟨(n:Int),by rw [m.eM],by omega,by omega,?_⟩;refine k _ f i (λj d o p q r z=>?_) λo p r=>?_
 .obtain ⟨A,rfl⟩:=iQ 0 n j d q;refine ⟨by show j<((n:Int)).toNat;omega,λx s u=>?_⟩;obtain ⟨e,v⟩:=u;subst e;subst v;exact ⟨ab.refl _,.int _⟩
 .show ((n:Int)).toNat<=_;simp
def c9.Jc(f:-(2^62)<=a/\a<2^62)(i:-(2^62)<=b/\b<2^62)(h:∀G c,bP G c δ->dJ t G c [.int a,.int b]):c9 B M0 δ (w8 t) ((List.range (b-a).toNat).map λ(k:Nat)=>D.int (a+k)):=λm c H l R k=>h _ c l.wide _ H (ab.refl _) l.live _ λJ n o p=>by
 obtain ⟨x,y,rfl,q,r⟩:=qa p;refine ⟨a,b,by rw [q.eM,r.eM],⟨f.1,f.2,i.1,i.2⟩,?_⟩;refine k _ n o (λj d s u v w L=>?_) λs u w=>?_
 .obtain ⟨z,rfl⟩:=iQ a _ j d v;refine ⟨z,λx A C=>?_⟩;obtain ⟨e,I⟩:=C;subst e;subst I;exact ⟨ab.refl _,.int _⟩
 .show (b-a).toNat<=_;simp
abbrev p6 (E:Ends)(B:Hp)(M0:List Addr)(P:List Sl->Prop):Ends:={E with nx:=λσ H=>∃own δ,Bx B M0 own σ H δ/\P δ,ct:=λσ H=>∃own δ,Bx B M0 own σ H δ/\P δ,bk:=E.nx}
def dO {P:List Sl->Prop}(h:P δ):aX B M0 δ (p6 E B M0 P).nx:=λa c H b=>⟨a,δ,b,h⟩
def yI (Q:c9 B M0 δ wi ds)(Pv:Nat->List Sl->Prop)(T:Pv 0 δ)
  (k:∀A,ab B A->(∀a,aX B M0 a E.nx->aX A M0 a E.nx)->∀(j:Nat) x a,ds[j]?=some x->Pv j a->∀f C H v,Bx A M0 f C H a->al (but H (f++M0)) v x->g v C H (tb (p6 E A M0 (Pv (j+1)))))
  (o:∀a,Pv ds.length a->aX B M0 a E.nx):aX B M0 δ (lw wi g tb E):=λf C H b=>Q f C H b _ λJ r U G l=>by
 have b1:=b.grow U;have I:ab B (but r f):=b1.sub;refine ⟨λj m i n=>m=ds.length-j/\j<=ds.length/\∃d a,Bx (but r f) M0 d i n a/\Pv j a,⟨ds.length,by simp,MI _,f,δ,b1.base,T⟩,?_⟩;rintro j m i n ⟨rfl,hj,d,a,s,p⟩;have M:ab (but r<|f++M0) (but n<|d++M0):=λc u q=>by
  obtain ⟨N,Y⟩:=aw q;have L:but r f c=some u:=by rw [bn λz=>N<|Ms _ z];exact Y
  rw [bn]
  .exact s.same _ _ L
  .intro z;rcases MB.mp z with z|z
   .rw [(s.kind c z).1] at L;cases L
   .exact N<|Ml _ z
 by_cases w:j<ds.length
 .have O:ds[j]?=some ds[j]:=Mb w;obtain ⟨go,gy⟩:=G j _ (d++M0) n O M s.gI;refine .inr ⟨go,_,λac H2 p2=>⟨ds.length-(j+1),by omega,rfl,w,p2⟩,λx y hy=>?_⟩;obtain ⟨s3,rx⟩:=gy x y hy;exact k (but r f) I (λa h=>h.back I b.iq) j _ a O p d i y x (s.grow s3) rx
 .have e:j=ds.length:=by omega
  subst e;exact .inl ⟨l (d++M0) n M,o a p d i n<|s.back I b.iq⟩
def fH(l:c9 B M0 δ wi ds)(Pv:Nat->List Sl->Prop)(m:Pv 0 δ)
  (c:∀e,ab B e->(∀a,aX B M0 a E.nx->aX e M0 a E.nx)->∀(j:Nat) x a,ds[j]?=some x->Pv j a->aX e M0 (a.set i (.d x)) (tb (p6 E e M0 (Pv (j+1)))))
  (f:∀a,Pv ds.length a->aX B M0 a E.nx):aX B M0 δ (lw wi (cx i) tb E):=
 yI l Pv m (λe s k j x a n p h o H v b r=>c e s k j x a n p h _ H<|b.set i r) f
def KS{K:W.Frag}(o:c9 B M0 δ wi ds)(Pv:Nat->List Sl->Prop)(q:Pv 0 δ)
  (c:∀e,ab B e->(∀a,aX B M0 a E.nx->aX e M0 a E.nx)->∀(j:Nat) x a,ds[j]?=some x->Pv j a->∃l m,x=.tup [l,m]/\aX e M0 ((a.set i (.d l)).set i' (.d m)) (tb (p6 E e M0 (Pv (j+1)))))
  (f:∀a,Pv ds.length a->aX B M0 a E.nx):aX B M0 δ (lw wi (lU K 2 (iV (cx i) (iV (cx i') oh))) tb E):=
 yI o Pv q (λe s k j x a u p n z H v b r=>by
  obtain ⟨l,m,rfl,h⟩:=c e s k j x a u p;exact mo r λA C w y=>h n _ H<|(b.set i w).set i' y) f
end
def bP.caps {G n:Hp}{f:St}{g:List Sl}(e:bP G f g)(s:ab G n)(b:List Nat)(k i:Nat){v:V}{x:D}(r:al n v x):bP n ((a9 b k f).set i (some v)) ((b.map (λj=>g.getD j Sl.no)++List.replicate k Sl.no).set i (.d x)):=by
 have y:=e.mono s;have o:(a9 b k f).length=(b.map (λj=>g.getD j Sl.no)++List.replicate k Sl.no).length:=by simp [a9]
 refine ⟨by rw [NH,NH];exact o,λq t h=>?_⟩;rcases Oh h with ⟨rfl,rfl,A⟩|⟨B,h⟩
 .exact ⟨v,Mr (by rw [o];exact A),r⟩
 .rw [Me B]
  by_cases m:q<b.length
  .rw [ME (by simpa using m),Mo,Mb m] at h
   have h:g.getD b[q] Sl.no=t:=Mu h;have C:(a9 b k f)[q]?=some ((f[b[q]]?).join):=by
    unfold a9;rw [ME (by simpa using m),Mo,Mb m];rfl
   rw [C];cases z:g[b[q]]? with
   |none=>
    have:t=.no:=by rw [<-h];simp [List.getD,z]
    rw [this];trivial
   |some u=>
    have:t=u:=by rw [<-h];simp [List.getD,z]
    subst this;have w:=y.get _ _ z;cases t with
    |no=>trivial
    |d x=>obtain ⟨v,h,r⟩:=w;exact ⟨v,by rw [h];rfl,r⟩
    |l x=>obtain ⟨v,h,r⟩:=w;exact ⟨v,by rw [h];rfl,r⟩
    |k x=>obtain ⟨a,h,r⟩:=w;exact ⟨a,by rw [h];rfl,r⟩
    |t x=>obtain ⟨a,c,h,r⟩:=w;exact ⟨a,c,by rw [h];rfl,r⟩
    |kd x=>obtain ⟨a,h,r⟩:=w;exact ⟨a,by rw [h];rfl,r⟩
    |td x=>obtain ⟨a,c,h,r⟩:=w;exact ⟨a,c,by rw [h];rfl,r⟩
  .rw [MJ (by simpa using MV m)] at h
   obtain ⟨E,p⟩:=Ma.mp h;simp at p;subst p;trivial
def bP.comp{idx:List Nat}(e:bP G g h)(p:D->Bool)(f:D->D)(q:Walk m G g c)
  (t:∀b a d,d∈c->bP b a ((idx.map (λj=>h.getD j Sl.no)++List.replicate k Sl.no).set i (.d d))->bg n b a (p d))
  (u:∀b a d,d∈c->p d=true->bP b a ((idx.map (λj=>h.getD j Sl.no)++List.replicate k Sl.no).set i (.d d))->ae o b a (f d)) (w:c.length<sizeLine):
  ae (iU m (a9 idx k) (cx i) n o) G g (.lst ((c.filter p).map f)):=
 gP q (λb v d s l r=>t b _ d l<|e.caps s idx k i r) (λb v d s l x r=>u b _ d l x<|e.caps s idx k i r) w
def ax.zN{a:List Sl}(h:ax G c (a.map Sl.dat)):bP G c (a.map λs=>match s.dat with|some x=>.d x|none=>.no):=by
 refine ⟨by rw [h.len];simp,λi s q=>?_⟩;rw [Mo] at q;cases e:a[i]? with
 |none=>rw [e] at q;cases q
 |some t=>
  rw [e] at q;have q:(match t.dat with|some x=>Sl.d x|none=>Sl.no)=s:=Mu q;cases b:t.dat with
  |none=>rw [b] at q;subst q;trivial
  |some x=>
   rw [b] at q;subst q;refine h.get i x ?_;rw [Mo,e];exact M7 some b
end FL
namespace FL
open PySem L2
def qB{V:Str->D}(c:cB B)(b:a≠[])(d:aB (a.headD .av)=false)(h:∀x∈a,aB x=true->x.name∈B):eE (ar V B) a=a.map (a6 V):=by
 cases a with
 |nil=>exact absurd rfl b
 |cons x r=>
  have e:aB x=false:=d;show x::r.map (cj<|ar V B)=a6 V x::r.map (a6 V);have f:a6 V x=x:=by unfold a6;rw [Mj (by rw [e];exact Mm)]
  rw [f];congr 1;exact ML λy g=>kJ c<|h y<|L8 _ g
def Kw(V:Str->D)(c:a≠[])(f:aB (a.headD .av)=false)(b:aJ a=false):fh d (a.map (a6 V))=decide (a.map (a6 V)∈d):=by
 have e:=yv (V:=V) c f;unfold aJ at b;rw [ON] at b;unfold fh;rw [<-e,Mj<|Ni b.2,Mj<|Ni b.1]
def zm(d:aJ [.str r,x,y]=true)(h:aB (.str r)=false)(V:Str->D):fh c ([.str r,x,y].map (a6 V))=holdsA ([.str r,x,y].map (a6 V)):=by
 have e:a6 V (.str r)=.str r:=by unfold a6;rw [Mj (by rw [h];exact Mm)]
 show fh c [a6 V (.str r),a6 V x,a6 V y]=holdsA [a6 V (.str r),a6 V x,a6 V y];rw [e];generalize a6 V x=a;generalize a6 V y=b;show fh c [.str r,a,b]=holdsD r a b;have f:r="less"\/r="unlike":=by
  unfold aJ at d;rw [Bool.or_eq_true] at d;rcases d with z|z
  .have:D.str r=D.str "less":=MC z;injection this with q
   exact .inl q
  .have:D.str r=D.str "unlike":=MC z;injection this with q
   exact .inr q
 rcases f with rfl|rfl
 .unfold fh holdsD;have i:¬(([D.str "less",a,b]:ZZ).headD .av=.str "unlike"):=λz=>by
   have z:D.str "less"=D.str "unlike":=z;injection z with z
   exact absurd z Z1
  have g:(([D.str "less",a,b]:ZZ).headD .av=.str "less"):=rfl;rw [Mj i,Mp g,Mj Z1];cases a<;>cases b<;>rfl
 .unfold fh holdsD;have g:(([D.str "unlike",a,b]:ZZ).headD .av=.str "unlike"):=rfl;rw [Mp g,Mp rfl]
def nW (fs body:List (List D))(S:aR):Bool:=body.all λa=>fh fs (eE S a)
def Ko {base body fs:ZW}(h:BI base body){V:Str->D}{B:ZY}(hB:cB B)(hc:∀a∈body,∀x∈a,aB x=true->x.name∈B):nW fs body (ar V B)=true↔(∀a∈base,a.map (a6 V)∈fs)/\O5.gN (body.filter aJ) (ar V (a8 [] base))=true:=by
 have hBb:cB (a8 [] base):=jv eX;have key:∀a∈body,fh fs (eE (ar V B) a)=if aJ a=true then holdsA (a.map (cj (ar V (a8 [] base)))) else decide (a.map (a6 V)∈fs):=λa ha=>by
  have A:=h.at_ a ha;rw [qB hB A.ne A.hd (hc a ha)];by_cases g:aJ a=true
  .rw [Mp g]
   obtain ⟨⟨r,x,y,rfl⟩,hb⟩:=h.gd a ha g;rw [zm g A.hd V,O5.wz hBb hb]
  .rw [Mj g]
   exact Kw V A.ne A.hd (by simpa using g)
 have hbase:∀a,a∈base↔a∈body/\aJ a=false:=λa=>by
  rw [<-h.ask,Mq];simp
 unfold nW O5.gN;rw [OM,OM];constructor
 .intro z;refine ⟨λa ha=>?_,λg hg=>?_⟩
  .obtain ⟨h1,h2⟩:=(hbase a).mp ha;have:=z a h1;rw [key a h1,Mj (by rw [h2];exact Mm)] at this;exact MC this
  .obtain ⟨h1,h2⟩:=Mq.mp hg;have:=z g h1;rw [key g h1,Mp h2] at this;exact this
 .rintro ⟨z1,z2⟩ a ha
  rw [key a ha];by_cases g:aJ a=true
  .rw [Mp g];exact z2 a (Mq.mpr ⟨ha,g⟩)
  .rw [Mj g];exact My (z1 a ((hbase a).mpr ⟨ha,by simpa using g⟩))
def BI.good{base:ZW}(h:BI base b):∀a∈base,jp a:=λa c=>by
 rw [<-h.ask] at c;have A:=h.at_ a (Mq.mp c).1;exact ⟨A.ne,A.hd⟩
def BI.mV {base body:ZW}(h:BI base body)(facts:ZW):fZ body facts=(fw facts base [([],[])]).filter λw=>O5.gN (body.filter aJ) w.1:=by
 have:=O5.FC (facts:=facts) (as:=body) (λa ha _=>⟨(h.at_ a ha).ne,(h.at_ a ha).hd⟩) (λg hg e=>by rw [h.ask];exact (h.gd g hg e).2);rw [Es,this,h.ask]
def vV{V:Str->D}(h:dY a V b c):c.length=b.length:=by
 have:=M7 List.length h;simpa using this
def yU{V:Str->D}(h:dY b V d c){k:Nat}(f:d[k]?=some a):∃i,c[k]?=some i/\b[i]?=some (a.map (a6 V)):=by
 have e:=M7 (λl=>l[k]?) h;simp only [Mo,f] at e;cases q:c[k]? with
 |none=>rw [q] at e;cases e
 |some i=>rw [q] at e;exact ⟨i,rfl,Mu e⟩
def GJ{V:Str->D}(h:dY a V c d):∀i∈d,i<a.length:=λi g=>by
 obtain ⟨k,e⟩:=MY.mp g;have b:k<c.length:=by rw [<-vV h];exact (Ma.mp e).1
 obtain ⟨l,f,j⟩:=yU h<|Mb b;rw [e] at f;cases f;exact (Ma.mp j).1
def bP.wanted{K:W.Frag}{body:ZW}(e:bP G f n)(o:∀a∈body,a≠[]/\∀x∈a,x.sc=true)(p:body.length<=1000)(q:Walk i G f (body.map D.tup)):
  ae (iU i (a9 [] 1) (cx 0) (sw (oO (bJ (λx y H Q=>m5 x y H Q\/mq x y H Q) (bJ (d6 K) (aU 0) (tC (.int 0))) (tC (.str "less")))) (oO (bJ (λx y H Q=>m5 x y H Q\/mq x y H Q) (bJ (d6 K) (aU 0) (tC (.int 0))) (tC (.str "unlike"))))) (aU 0)) G f (cF (body.filter λa=> !aJ a)):=by
 refine (e.comp (λd=>match d with|.tup a=> !aJ a|_=>false) (λd=>d) q (λs g d j c=>?_) (λs g d j _ c=>c.v rfl) (by rw [Md];exact cq p)).eq ?_
 .obtain ⟨a,t,rfl⟩:=Mx.mp j;obtain ⟨h,cv⟩:=o a t;cases a with
  |nil=>exact absurd rfl h
  |cons x r=>
   have k:=cv x Mc;have l:=eO (b:=.str "less") k rfl;have m:=eO (b:=.str "unlike") k rfl;refine bg.eq (ly (ck<|mW l.1 l.2 (bK (ds:=x::r) (d:=x) gO (c.v rfl) aq) aK) λ_=>ck<|mW m.1 m.2 (bK (ds:=x::r) (d:=x) gO (c.v rfl) aq) aK) ?_;show _= !aJ (x::r);unfold aJ;rw [Bool.not_or];rfl
 .unfold cF;rw [OD,NK];rfl
def bP.FH{j:Nat}(e:bP G c b)(d:b[j]?=some (.k S)\/b[j]?=some (.kd S)):∃a,c[j]?=some (some (.ref a))/\G a=some (.dK (b9 [] (bI S)))/\∀p∈S,p.2.sc=true:=by
 rcases d with h|h
 .exact e.get j _ h
 .exact e.get j _ h
def bP.oZ{j:Nat}(e:bP G b c)(f:c[j]?=some (.k S)\/c[j]?=some (.kd S))(g:a≠[])(i:∀x∈a,x.sc=true)(l:a.length<=10)(h:ae d G b (.tup a)):ae (iY (iL rp) [] E (bu d (bu (aU j) bL))) G b (.tup (eE S a)):=by
 obtain ⟨p,m,n,o⟩:=e.FH f;exact o0 ⟨a,S,rfl,g,i,o,l,rfl⟩<|pf h<|qE m n pH
def vm{S:aR}(b:a≠[])(c:∀x∈a,x.sc=true)(d:∀p∈S,p.2.sc=true):∀x∈eE S a,x.sc=true:=λx e=>by
 cases a with
 |nil=>exact absurd rfl b
 |cons y r=>
  rcases Mn.mp e with z|z
  .rw [z];exact c y Mc
  .obtain ⟨u,f,rfl⟩:=Mx.mp z;exact (kM (c u<|L8 _ f) d).2
def Hw(h:a≠[]):aJ (eE S a)=aJ a:=by
 cases a with
 |nil=>exact absurd rfl h
 |cons x r=>rfl
def C8{S:aR}(b:a≠[])(c:∀x∈a,x.sc=true)(d:∀p∈S,p.2.sc=true)(e:aJ a=true->∃r x y,a=[.str r,x,y]):Cp (eE S a):=by
 refine ⟨(λz=>by cases z),vm b c d,λg=>?_⟩;rw [Hw b] at g;obtain ⟨r,x,y,rfl⟩:=e g;exact ⟨r,_,_,rfl⟩
section
variable {B:Hp}{M0 own:List Addr}{σ:St}{H:Hp}{δ:List Sl}{E:Ends}{t:TA}{ds:List D}
def Bx.Ln(b:Bx B M0 own σ H δ)(i:Nat){s:Sl}(g:s.own=false)(r:mi (but H (own++M0)) H own (some (some v)) s):Bx B M0 own (σ.set i (some v)) H (δ.set i s):=by
 refine ⟨by simp [b.len],b.same,b.iq,b.kind,λj t q=>?_,λj k m t a n c d e f h l=>?_⟩
 .rcases Oh q with ⟨rfl,rfl,o⟩|⟨p,q⟩
  .rw [Mr (by rw [b.len];exact o)];exact r
  .rw [Me p];exact b.slot j t q
 .rcases Oh c with ⟨rfl,rfl,_⟩|⟨u,c⟩
  .rw [g] at e;cases e
  .rcases Oh d with ⟨rfl,rfl,_⟩|⟨w,d⟩
   .rw [g] at f;cases f
   .rw [Me u] at h
    rw [Me w] at l;exact b.apart j k m t a n c d e f h l
def Bx.JN{δ:List Sl}(l:au M H)(c:∀s∈δ,s=.no\/∃x,s=.d x)(e:ax (but H M) σ (δ.map Sl.dat)):Bx H M [] σ H δ:=by
 have b:∀{j:Nat} {s:Sl},δ[j]?=some s->s.own=true->False:=λ{j s} h k=>by
  rcases c s (Mi h) with rfl|⟨x,rfl⟩<;>cases k
 refine ⟨by rw [e.len,Md],ab.refl _,l,(λa f=>nomatch f),λi s q=>?_,λi j s t a _ g _ m _ _ _=>b g m⟩;rcases c s (Mi q) with rfl|⟨x,rfl⟩
 .trivial
 .exact e.get i x (by rw [Mo,q];rfl)
def aX.HP(b:Bx B M0 own (σ.set i (some v)) H δ)(h:aX B M0 δ P):cx i v σ H P:=h own _ H b
def bw{b:TS}(h:aX B M0 δ (a {E with nx:=b E})):aX B M0 δ (ow a b E):=h
def gK{cm:TS}(h:∀G σ,bP G σ δ->bg a G σ false)(k:aX B M0 δ (cm E)):aX B M0 δ (ow (np a c sV) cm E):=bw<|dC (b:=false) h (λz=>nomatch z) λ_=>eQ k
def xx{c:ZZ->Prop}{a:ZZ->D->Prop}(h:∀G σ,ax G σ (δ.map Sl.dat)->dJ t G σ ds)(j:c ds)(k:∀d,a ds d->aX B M0 (δ.set i (.d d)) E.nx):aX B M0 δ (eF (iY (jz c a) [] g t) (cx i) E):=λe σ H b=>
 h _ σ b.jj _ H (ab.refl _) b.gI _ λq r f l=>⟨e++M0,ds,b.gI.same f,by rw [MP];exact l,j,λd v m n o p=>k d n e _ m<|(b.grow<|f.trans o).set i p⟩
def Hv{K:W.Frag}{U:TS}(h:∀G σ,ax G σ (δ.map Sl.dat)->dJ t G σ [fY Bs,.lst pool])(o:∀x∈pool,x.sc=true)(hz:Bs.length<=3)(C:pool.length<=10)(Pv:Nat->List Sl->Prop)(h0:Pv 0 δ)
  (k:∀y,ab B y->(∀d,aX B M0 d E.nx->aX y M0 d E.nx)->∀(j:Nat) c d,(dy pool Bs [[]])[j]?=some c->Pv j d->aX y M0 (d.set i (.kd c)) (U (p6 E y M0 (Pv (j+1)))))
  (q:∀d,Pv (dy pool Bs [[]]).length d->aX B M0 d E.nx):aX B M0 δ (lw (λσ H R=>jh K (iY qL [] T t) σ H R\/nh K (iY qL [] T t) σ H R) (cx i) U E):=λf σ H b=>
 .inl (h _ σ b.jj _ H (ab.refl _) b.gI _ λvs H1 Y rs=>by
  obtain ⟨v0,v1,rfl,r0,r1⟩:=qa rs;refine ⟨f++M0,Bs,pool,v0,v1,rfl,b.gI.same Y,r0,r1,o,hz,C,λp r s s2 u hD=>⟨p,rfl,⟨r,aN.of (aw u).2⟩,?_⟩⟩;have b1:=b.grow (Y.trans s2);have I:ab B (but s f):=b1.sub;have J:but s f p=some (.lst r):=by
   obtain ⟨A,L⟩:=aw u;rw [bn λz=>A<|Ms _ z];exact L
  have hn:=hD.len;refine ⟨λj m l M=>m=(dy pool Bs [[]]).length-j/\j<=(dy pool Bs [[]]).length/\∃g d,Bx (but s f) M0 g l M d/\Pv j d,⟨_,rfl,MI _,f,δ,b1.base,h0⟩,?_⟩;rintro j m l M ⟨rfl,hj,g,d,v,pj⟩;have N:=v.same _ _ J;by_cases w:j<(dy pool Bs [[]]).length
  .have O:=Mb w;obtain ⟨a,hu,Q⟩:=hD.get j _ O;refine .inr ⟨⟨r,.ref a,aN.of N,hu⟩,_,λac H3 p2=>⟨(dy pool Bs [[]]).length-(j+1),by omega,rfl,w,p2⟩,λx af q0=>?_⟩;obtain ⟨e,hy⟩:=q0;subst e;have hx:=hy r (aN.of N);rw [hu] at hx;cases hx;refine k (but s f) I (λd h=>h.back I b.iq) j _ d O pj g _ _ (v.Ln i rfl ⟨a,rfl,?_,ro pool Bs [[]] _ o (λm hm p o=>by rw [MG.mp hm] at o;cases o)<|Mi O⟩);obtain ⟨A,L⟩:=aw Q;have n:but s f a=some (.dK<|b9 []<|bI (dy pool Bs [[]])[j]):=by rw [bn λz=>A<|Ms _ z];exact L
   rw [bn]
   .exact v.same _ _ n
   .intro z;rcases MB.mp z with z|z
    .rw [(v.kind a z).1] at n;cases n
    .exact A (Ml _ z)
  .have e:j=(dy pool Bs [[]]).length:=by omega
   subst e;exact .inl ⟨⟨r,aN.of N,by rw [hn];exact Mh _⟩,q d pj g l M<|v.back I b.iq⟩)
end
def B5 {as:ZW}:∀{B:ZY},(∀a∈as,a.length<=10)->(a8 B as).length<=B.length+10*as.length:=by
 induction as with
 |nil=>intro B _;exact Nb _ _
 |cons a r b=>
  intro B h;have e:=b (B:=ak B a) λc d=>h c<|L8 _ d
  have f:=kj a B;have g:=h a Mc;show (a8 (ak B a) r).length<=_;rw [MN];omega
def jo{k:Nat}(h:l[k]?=some d):de l ((k:Nat):Int)=some d:=tR h
def jy{k:Nat}(h:l[k]?=some d):de l (0+((k:Nat):Int))=some d:=by rw [Int.zero_add];exact tR h
end FL
namespace FL
open PySem L2
def on (seed:Int):List D:=[.lst [.str "ashenashenashen",.int 0,.str "ashenashxnashen"],.lst [.str "ashenashenashen",.int 2,.int (-1)],.lst [.int (10^(30:Int).toNat),.int 0,.int (-1)],.lst [.str "qu",.int (seed+4),.int (-4-seed)]]
def yc:GP (.str "ashenashenashen")/\aB (.str "ashenashenashen")=false:=⟨⟨rfl,⟨by decide,_,_,rfl⟩,Z9⟩,Z9⟩
def J3:GP (.str "ashenashxnashen")/\aB (.str "ashenashxnashen")=false:=⟨⟨rfl,⟨by decide,_,_,rfl⟩,Z9⟩,Z9⟩
def KN:GP (.str "qu")/\aB (.str "qu")=false:=⟨⟨rfl,⟨by decide,_,_,rfl⟩,Z9⟩,Z9⟩
def li (i:Int):GP (.int i)/\aB (.int i)=false:=⟨ue i,rfl⟩
def sO(b:GP x/\aB x=false)(c:GP y/\aB y=false)(d:GP z/\aB z=false)(e:[x,y,z].Nodup):rO [x,y,z]:=by
 have h:∀u∈[x,y,z],GP u/\aB u=false:=λu a=>by
  simp only [Mn,MR,M9] at a;rcases a with rfl|rfl|rfl
  .exact b
  .exact c
  .exact d
 exact ⟨rfl,e,λu a=>(h u a).1,λu a=>(h u a).2⟩
def C7(h:0<=a):∀d∈on a,∃b,d=.lst b/\rO b:=λd c=>by
 simp only [on,Mn,MR,M9] at c;rcases c with rfl|rfl|rfl|rfl
 .exact ⟨_,rfl,sO yc (li _) J3 Z9⟩
 .exact ⟨_,rfl,sO yc (li _) (li _) Z9⟩
 .exact ⟨_,rfl,sO (li _) (li _) (li _) Z9⟩
 .refine ⟨_,rfl,sO KN (li _) (li _) ?_⟩
  simp only [Oi,Mn,MR,M9,Q2,D.int.injEq,reduceCtorEq,not_false_eq_true,and_true,true_and,OS,and_self];omega
def Dt (facts bs body:List (List D))(w:aH):Prop:=∃V,w.1=ar V (a8 [] bs)/\dY facts V bs w.2/\O5.gN (body.filter aJ) w.1=true
def BI.mem(h:BI c a)(d:w∈fZ a b):Dt b c a w:=by
 rw [h.mV] at d;obtain ⟨f,g⟩:=Mq.mp d;obtain ⟨S,j⟩:=w;obtain ⟨V,e,i⟩:=(pp h.good).mp f;exact ⟨V,e,i,g⟩
def BI.inc(h:BI c b)(a:ZW):(fZ b a).Pairwise λx y=>gR x.2 y.2:=by
 rw [h.mV];exact PM _<|Cf a c [([],[])]<|Qz _ _
theorem vJ:∀{l:List b} {i j:Nat} {x y:b},l.Pairwise R->i<j->l[i]?=some x->l[j]?=some y->R x y
 |[],_,_,_,_,_,_,h,_=>by simp at h
 |a::r,0,j+1,x,y,h,_,c,d=>by
  simp at c;subst c;exact (Qg.mp h).1 y<|Mi (by simpa using d)
 |a::r,i+1,j+1,x,y,h,e,c,d=>vJ (i:=i) (j:=j) (Qg.mp h).2 Z4 (by simpa using c) (by simpa using d)
end FL
namespace FL
open PySem L2
def qQ (s:bh)(n:Nat)(g:ZZ)(r:ZW):ci s n (g::r)=ci (cK s n g) (n+1) r:=by
 unfold ci;rw [Qm];rfl
def CY (s:bh)(n:Nat):ci s n []=s:=rfl
theorem z9:∀(F G:ZW) (s:bh) (n:Nat),ci s n (F++G)=ci (ci s n F) (n+F.length) G
 |[],G,s,n=>by rw [CY];rfl
 |g::r,G,s,n=>by
  rw [PL,qQ,qQ,z9 r G,MN];congr 1;omega
structure gw (s:bh)(n:Nat):Prop where
 inc:s.of.Pairwise fun a b=>a.2.1<b.2.1
 lt:∀o∈s.of,o.2.1<n
 nw:∀k:Nat,decide ((k:Int)<=s.newest)=s.of.any fun o=>decide (k<=o.2.1)
def gw.GL(h:gw s n)(g:ZZ):gw (cK s n g) (n+1):=by
 unfold cK;split
 .refine ⟨PN.mpr ⟨h.inc,Qz _ _,λa d b e=>by rw [MG.mp e];exact h.lt a d⟩,λo c=>?_,λk=>?_⟩
  .rcases MB.mp c with z|z
   .exact NW<|h.lt o z
   .rw [MG.mp z];exact NC n
  .show decide ((k:Int)<=((n:Nat):Int))=(s.of++[_]).any _;rw [List.any_append];simp only [Pz,List.any_nil,Qp];by_cases z:k<=n
   .rw [My (show (k:Int)<=((n:Nat):Int) by omega),My z,Bool.or_true]
   .have f:(s.of.any λo=>decide<|k<=o.2.1)=false:=OI.mpr λo c=>by
     have:=h.lt o c;simp only [Of];omega
    rw [f,MH z,MH (show¬(k:Int)<=((n:Nat):Int) by omega)];rfl
 .exact ⟨h.inc,λo c=>NW<|h.lt o c,h.nw⟩
theorem gw.AZ:∀(a:ZW) {s:bh} {n:Nat},gw s n->gw (ci s n a) (n+a.length)
 |[],s,n,h=>h
 |g::r,s,n,h=>by
  rw [qQ,MN,show n+(r.length+1)=n+1+r.length by omega];exact gw.AZ r<|h.GL g
def gw.start {s:bh}(a:s.of=[])(c:s.newest=-1):gw s 0:=by
 refine ⟨by rw [a];exact List.Pairwise.nil,(λo b=>by rw [a] at b;cases b),λk=>?_⟩;rw [a,c];exact MH Z4
def fk (lm:bV)(Ns:List (List (List D))):bV:=Ns.foldl bX lm
theorem nH:∀(b:List ZW) (a:bV),(fk a b).steps=a.steps.map (λs=>ci s a.taken b.flatten)/\(fk a b).fE=a.fE/\(fk a b).taken=a.taken+b.flatten.length
 |[],a=>⟨by
   show a.steps=a.steps.map λs=>ci s a.taken [];have:(λs=>ci s a.taken [])=λs=>s:=by funext s;rfl
   rw [this,OD],rfl,rfl⟩
 |N::r,a=>by
  obtain ⟨c,d,e⟩:=nH r<|bX a N;refine ⟨?_,d,?_⟩
  .show (fk (bX a N) r).steps=_;rw [c];show (a.steps.map λs=>ci s a.taken N).map (λs=>ci s (a.taken+N.length) r.flatten)=_;rw [MU];refine ML λs _=>?_;show ci (ci s a.taken N) (a.taken+N.length) r.flatten=ci s a.taken (N++r.flatten);rw [z9]
  .show (fk (bX a N) r).taken=_;rw [e];show a.taken+N.length+r.flatten.length=a.taken+(N++r.flatten).length;rw [Mv];omega
def pL (a:bV)(b:List ZW)(N:ZW):fk a (b++[N])=bX (fk a b) N:=by
 unfold fk;rw [Nx];rfl
theorem foldl_max:∀(r:List Int) (i:Int),(r.foldl max i=i\/r.foldl max i∈r)/\i<=r.foldl max i/\∀x∈r,x<=r.foldl max i
 |[],i=>⟨.inl rfl,Int.le_refl _,λx a=>nomatch a⟩
 |j::r,i=>by
  obtain ⟨b,d,c⟩:=foldl_max r<|max i j;show (r.foldl max (max i j)=i\/r.foldl max (max i j)∈j::r)/\i<=r.foldl max (max i j)/\∀x∈j::r,x<=r.foldl max (max i j);refine ⟨?_,by omega,λx a=>?_⟩
  .rcases b with z|z
   .by_cases q:i<=j
    .exact .inr (by rw [z,show max i j=j by omega];exact Mc)
    .exact .inl (by rw [z];omega)
   .exact .inr<|L8 _ z
  .rcases Mn.mp a with z|z
   .subst z;omega
   .exact c x z
def xG (is:List Int)(n:Int):(is=[]/\dM is n=n)\/(dM is n∈is/\∀x∈is,x<=dM is n):=by
 cases is with
 |nil=>exact .inl ⟨rfl,rfl⟩
 |cons i r=>
  obtain ⟨a,b,c⟩:=foldl_max r i;refine .inr ⟨?_,λx d=>?_⟩
  .show r.foldl max i∈i::r;rcases a with z|z
   .rw [z];exact Mc
   .exact L8 _ z
  .show x<=r.foldl max i;rcases Mn.mp d with z|z
   .subst z;exact b
   .exact c x z
def xJ (a:List bh)(n:Nat):(kg a n=-1\/∃j:Nat,j<a.length/\kg a n=j)/\∀(j:Nat) s,a[j]?=some s->((n:Nat):Int)<=s.newest->((j:Nat):Int)<=kg a n:=by
 have c:∀(j:Nat) s,a[j]?=some s->((n:Nat):Int)<=s.newest->((j:Nat):Int)∈((List.range a.length).filter λj=>decide<|(n:Int)<=(a.getD j ⟨[],[],[],[],-1⟩).newest).map λj=>((j:Nat):Int):=λj s b d=>by
  refine Mx.mpr ⟨j,Mq.mpr ⟨QU.mpr (Ma.mp b).1,?_⟩,rfl⟩;rw [List.getD,b];exact My d
 unfold kg;rcases xG (((List.range a.length).filter λj=>decide<|(n:Int)<=(a.getD j ⟨[],[],[],[],-1⟩).newest).map λj=>((j:Nat):Int)) (-1) with ⟨f,g⟩|⟨f,g⟩
 .refine ⟨.inl g,λj s b d=>?_⟩
  have:=c j s b d;rw [f] at this;cases this
 .refine ⟨.inr ?_,λj s b d=>g _<|c j s b d⟩
  obtain ⟨j,h,e⟩:=Mx.mp f;exact ⟨j,QU.mp (Mq.mp h).1,e.symm⟩
def dg (fr:Nat)(w:aH):Bool:=w.2.any λp=>decide (fr<=p)
def xH (a:Nat)(w:aH)(o:dr):dg a (fR w o)=(dg a w||decide (a<=o.2.1)):=by
 show (w.2++[o.2.1]).any _=_;rw [List.any_append];simp [dg]
def yW (b:Nat)(a:List Nat):decide (dM (a.map λn=>((n:Nat):Int)) (-1)<((b:Nat):Int))= !(a.any λp=>decide (b<=p)):=by
 rcases xG (a.map λn=>((n:Nat):Int)) (-1) with ⟨c,d⟩|⟨c,d⟩
 .rw [d]
  have:a=[]:=by simpa using c
  rw [this];exact My Z4
 .by_cases z:dM (a.map λn=>((n:Nat):Int)) (-1)<((b:Nat):Int)
  .rw [My z]
   have:(a.any λp=>decide<|b<=p)=false:=OI.mpr λp g=>by
    have:=d _<|P2 (f:=λn:Nat=>((n:Nat):Int)) g
    simp only [Of];omega
   rw [this];rfl
  .rw [MH z]
   obtain ⟨p,g,e⟩:=Mx.mp c;have:(a.any λp=>decide<|b<=p)=true:=Pj.mpr ⟨p,g,My Z4⟩;rw [this];rfl
theorem A2{p:c->Bool}:∀{l:List c},l.Pairwise (λa b=>p b=true->p a=true)->l.takeWhile p=l.filter p
 |[],_=>rfl
 |x::r,h=>by
  obtain ⟨d,f⟩:=Qg.mp h;by_cases e:p x=true
  .rw [Op,e,N4,Mp e,Mp rfl,A2 f]
  .rw [Op,Mj e,N4,Mj e]
   exact (N0.mpr λy g z=>e<|d y g z).symm
def F4(h:gw s n)(w:aH)(c:Nat):fq s w ((c:Nat):Int)=(((fe s.of (f8 w.1 (gL s))).reverse.filter λo=>decide (c<=o.2.1)).map (fR w)).filter λx=>fg x.1 s.gs:=by
 unfold fq;congr 2;have e:∀o:dr,fresh ((c:Nat):Int) o=decide (c<=o.2.1):=λo=>by
  unfold fresh;exact OU.mpr ⟨λh=>by omega,λh=>by omega⟩
 rw [A2]
 .exact NR λo _=>e o
 .rw [List.pairwise_reverse]
  refine (PM _ h.inc).imp λ{a b} f d=>?_;rw [e] at d⊢;have:=MC d;exact My Z4
def IL (s:bh)(w:aH):fq s w 0=((fe s.of (f8 w.1 (gL s))).reverse.map (fR w)).filter λx=>fg x.1 s.gs:=by
 unfold fq;rw [pR];intro o _;unfold fresh;exact My Z4
section
variable {lm lm0:bV}{n:Nat}
theorem wL (l:lm0.fresh=0)(a:Nat):∀(m:Nat) (w:aH),w.2.length+m=lm0.steps.length->dg a w=false->(∀(i:Nat) s,w.2.length<=i->lm0.steps[i]?=some s->∀o∈s.of,o.2.1<a)->(cR lm0 m w).filter (dg a)=[]
 |0,w,_,d,_=>by
  show [w].filter (dg a)=[]
  rw [List.filter_cons_of_neg (by rw [d];exact Mm)];rfl
 |m+1,w,t,d,k=>by
  show ((cn lm0 w).reverse.flatMap<|cR lm0 m).filter (dg a)=[]
  rw [N0];intro x p e;obtain ⟨y,b,f⟩:=Nm.mp p;rw [NU] at b;have q:=jN b;have g:w.2.length<lm0.steps.length:=by omega
  have c:=Mb g;have h:dg a y=false:=by
   unfold cn at b;rw [c] at b;obtain ⟨o,r,rfl⟩:=Mx.mp (Mq.mp b).1;have j:=(Mq.mp<|NU.mp<|(OE _).subset r).1;rw [xH,d];have:=k _ _ (Mh _) c o j;exact MH Z4
  have:=wL l a m y Z4 h λi s u=>k i s Z4;rw [N0] at this;exact this x f e
theorem wA(p:b->Bool)(f:a->List b):∀l:List a,(l.flatMap f).filter p=l.flatMap λx=>(f x).filter p
 |[]=>rfl
 |x::r=>by rw [Nf,Nf,Nu,wA p f r]
theorem pi{f g:a->List b}:∀{l:List a},(∀x∈l,f x=g x)->l.flatMap f=l.flatMap g
 |[],_=>rfl
 |x::r,h=>by rw [Nf,Nf,h x Mc,pi λy c=>h y<|L8 _ c]
theorem zw{f:a->List c}(p:a->Bool):∀{l:List a},(∀x∈l,p x=false->f x=[])->l.flatMap f=(l.filter p).flatMap f
 |[],_=>rfl
 |x::r,h=>by
  have b:=zw p (l:=r) λy d=>h y<|L8 _ d
  by_cases e:p x=true
  .rw [N4,Mp e,Nf,Nf,b]
  .rw [N4,Mj e,Nf,h x Mc (by simpa using e),OC,b]
theorem vB (u:∀s∈lm.steps,gw s n)(e:lm0.steps=lm.steps)(v:lm0.fresh=0)(a:lm.last=kg lm.steps lm.fresh):∀(m:Nat) (w:aH),w.2.length+m=lm.steps.length->(((w.2.length:Nat):Int)<=lm.last\/dg lm.fresh w=true)->cR lm m w=(cR lm0 m w).filter (dg lm.fresh)
 |0,w,U,y=>by
  have f:dg lm.fresh w=true:=by
   rcases y with z|z
   .exfalso;rcases (xJ lm.steps lm.fresh).1 with q|⟨j,hj,q⟩
    .rw [a,q] at z;omega
    .rw [a,q] at z;omega
   .exact z
  show [w]=[w].filter _;rw [N4,Mp f];rfl
 |m+1,w,U,y=>by
  have g:w.2.length<lm.steps.length:=by omega
  have h:=Mb g;have A:=u _<|NJ g
  have B:cn lm0 w=fq lm.steps[w.2.length] w 0:=by
   unfold cn;rw [e,h,tw v]
  have N:cn lm w=fq lm.steps[w.2.length] w (gT lm w):=by
   unfold cn;rw [h]
  show (cn lm w).reverse.flatMap (cR lm m)=((cn lm0 w).reverse.flatMap<|cR lm0 m).filter _;rw [wA];by_cases C:((w.2.length:Nat):Int)=lm.last/\dg lm.fresh w=false
  .
   obtain ⟨k,l⟩:=C;have b:gT lm w=((lm.fresh:Nat):Int):=by
    unfold gT;rw [yW,Mp];rw [My k];have:(w.2.any λp=>decide<|lm.fresh<=p)=false:=l;rw [this];rfl
   rw [N,B,b,F4 A,IL];have r:∀x∈(((fe lm.steps[w.2.length].of<|f8 w.1<|gL lm.steps[w.2.length]).reverse.map<|fR w).filter λx=>fg x.1 lm.steps[w.2.length].gs).reverse,dg lm.fresh x=false->(cR lm0 m x).filter (dg lm.fresh)=[]:=λx c E=>by
    rw [NU] at c;obtain ⟨o,O,rfl⟩:=Mx.mp (Mq.mp c).1;have t:(fR w o).2.length=w.2.length+1:=by show (w.2++[o.2.1]).length=_;rw [Mv];rfl
    refine wL v lm.fresh m (fR w o) (by rw [e];omega) E λi s hi d Q G=>?_;rw [e] at d;have H:=u s<|Mi d
    by_cases z:Q.2.1<lm.fresh
    .exact z
    .exfalso;have T:(s.of.any λo=>decide<|lm.fresh<=o.2.1)=true:=Pj.mpr ⟨Q,G,My Z4⟩;rw [<-H.nw] at T;have:=(xJ lm.steps lm.fresh).2 i s d<|MC T
     rw [<-a,<-k] at this;omega
   have Y:∀X:List aH,X.reverse.filter (dg lm.fresh)=(X.filter<|dg lm.fresh).reverse:=λX=>by simp
   rw [zw (dg lm.fresh) r,Y];have e2:∀L:List dr,((L.filter λo=>decide<|lm.fresh<=o.2.1).map<|fR w)=(L.map<|fR w).filter (dg lm.fresh):=λL=>by
    rw [NK];congr 1;refine NR λo _=>?_;show decide (lm.fresh<=o.2.1)=dg lm.fresh (fR w o);rw [xH,l];rfl
   rw [e2,Qd,Qd];have e3:(λx:aH=>fg x.1 lm.steps[w.2.length].gs&&dg lm.fresh x)=λx=>dg lm.fresh x&&fg x.1 lm.steps[w.2.length].gs:=by funext x;exact Bool.and_comm _ _
   rw [e3];refine pi λx c=>?_;rw [NU] at c;obtain ⟨I,J⟩:=Mq.mp c;obtain ⟨o,O,rfl⟩:=Mx.mp I;have t:(fR w o).2.length=w.2.length+1:=by show (w.2++[o.2.1]).length=_;rw [Mv];rfl
   exact vB u e v a m (fR w o) Z4 (.inr (PP.mp J).1)
  .have b:gT lm w=0:=by
    unfold gT;rw [yW,Mj];intro z;rw [Na] at z;refine C ⟨MC z.1,?_⟩;have:=z.2;show (w.2.any λp=>decide<|lm.fresh<=p)=false;simpa using this
   rw [N,b,B];refine pi λx c=>?_;rw [NU] at c;have M:x∈cn lm0 w:=by rw [B];exact c
   have t:=jN M;refine vB u e v a m x Z4 ?_;by_cases f:dg lm.fresh w=true
   .right
    obtain ⟨o,O,rfl⟩:=Mx.mp (Mq.mp c).1;rw [xH,f];rfl
   .rcases y with z|z
    .left;have:¬((w.2.length:Nat):Int)=lm.last:=λq=>C ⟨q,by simpa using f⟩;omega
    .exact absurd z f
def f6 (lm:bV):List aH:=(eD lm).flatMap λw=>cR lm (bT lm w) w
def xK (a:lm0.fresh=0):eD lm0=if lm0.fE=true then [] else if (lm0.steps.all λs=>decide ((0:Int)<=s.newest))=true then [([],[])] else []:=by
 unfold eD;rw [a];have:decide ((0:Int)<((0:Nat):Int))=false:=rfl;rw [this,QO,Qp]
def Jd (p:∀s∈lm.steps,gw s n)(e:lm0.steps=lm.steps)(q:lm0.fE=lm.fE)(f:lm0.fresh=0)(g:lm.last=kg lm.steps lm.fresh):f6 lm=(f6 lm0).filter λw=>decide (lm.fresh=0)||dg lm.fresh w:=by
 have r:∀w,bT lm0 w=bT lm w:=λw=>by unfold bT;rw [e]
 by_cases j:lm.fresh=0
 .have u:∀w,cn lm w=cn lm0 w:=λw=>by unfold cn;rw [e,tw j,tw f]
  have v:∀m w,cR lm m w=cR lm0 m w:=λm=>by
   induction m with
   |zero=>exact λw=>rfl
   |succ m y=>
    intro w;show (cn lm w).reverse.flatMap (cR lm m)=(cn lm0 w).reverse.flatMap (cR lm0 m);rw [u];exact pi λx _=>y x
  unfold f6;rw [xK j,xK f,e,q,Nc.mpr λw _=>by rw [My j];rfl];exact pi λx _=>by rw [r];exact v _ x
 .have A:(λw=>decide (lm.fresh=0)||dg lm.fresh w)=dg lm.fresh:=by funext w;rw [MH j];rfl
  rw [A];unfold f6;rw [wA,xK f,e,q];unfold eD;by_cases b:lm.fE=true
  .rw [b,Mp rfl,Mp (by rfl)]
   rfl
  .have c:lm.fE=false:=by simpa using b
   rw [c,Mj Mm,Bool.false_or];have h:decide ((0:Int)<((lm.fresh:Nat):Int))=true:=My Z4;rw [h,PB];by_cases a:lm.last<0
   .rw [Mp<|My a]
    have k:∀(i:Nat) s,(([],[]):aH).2.length<=i->lm0.steps[i]?=some s->∀o∈s.of,o.2.1<lm.fresh:=λi s _ d o B=>by
     rw [e] at d;have l:=p s<|Mi d
     by_cases z:o.2.1<lm.fresh
     .exact z
     .exfalso;have t:(s.of.any λo=>decide<|lm.fresh<=o.2.1)=true:=Pj.mpr ⟨o,B,My Z4⟩;rw [<-l.nw] at t;have:=(xJ lm.steps lm.fresh).2 i s d<|MC t
      rw [<-g] at this;omega
    split
    .show []=[(([],[]):aH)].flatMap _;rw [NI];rw [wL f lm.fresh _ ([],[]) (by unfold bT;simp) rfl k]
    .rfl
   .rw [Mj (by rw [MH a];exact Mm)]
    split
    .rw [NI,NI,r]
     exact vB p e f g _ ([],[]) (by unfold bT;simp) (.inl (by show ((0:Nat):Int)<=lm.last;omega))
    .rfl
end
def IR (b:ZW)(a:List ZW)(N:ZW):f6 (fk (bR b) (a++[N]))=(fZ b (a++[N]).flatten).filter λw=>decide (a.flatten.length=0)||dg a.flatten.length w:=by
 obtain ⟨e,g,n⟩:=nH (a++[N])<|bR b;obtain ⟨o,p,h⟩:=nH a<|bR b;have i:(fk (bR b)<|a++[N]).fresh=a.flatten.length:=by
  rw [pL];show (fk (bR b) a).taken=_;rw [h];exact Og _
 have c:(fk (bR b)<|a++[N]).last=kg (fk (bR b)<|a++[N]).steps (fk (bR b)<|a++[N]).fresh:=by
  rw [pL];rfl
 have j:∀s∈(fk (bR b)<|a++[N]).steps,gw s (0+(a++[N]).flatten.length):=λs f=>by
  rw [e] at f;obtain ⟨k,d,rfl⟩:=Mx.mp f;obtain ⟨_,l,m⟩:=wf _ _ _ k d;exact gw.AZ _<|gw.start l m
 have:=Jd (lm:=fk (bR b)<|a++[N]) (lm0:=bX (bR b) (a++[N]).flatten) j (by rw [e];rfl) (by rw [g];rfl) rfl c;rw [this,i];rfl
end FL
namespace FL
open PySem L2
abbrev bN:=List D×List (List D)
abbrev bD:=List D×(Nat×List Nat)
def bp (h:List D)(w:aH):List D:=h.map (cj w.1)
def cC (h:List D)(n:Nat):List aH->List (List D)->List bD
 |[],_=>[]
 |w::r,T=>if bp h w∈T then cC h n r T else (bp h w,(n,w.2))::cC h n r (T++[bp h w])
def aV (rs:List bD):List (List D):=rs.map (·.1)
def oC (a b:List bD):aV (a++b)=aV a++aV b:=MK
section
variable {h:List D}{n:Nat}
def lz{T:ZW}(e:bp h w∈T):cC h n (w::r) T=cC h n r T:=by
 show (if bp h w∈T then _ else _)=_;rw [Mp e]
def na{T:ZW}(e:bp h w∉T):cC h n (w::r) T=(bp h w,(n,w.2))::cC h n r (T++[bp h w]):=by
 show (if bp h w∈T then _ else _)=_;rw [Mj e]
theorem x3:∀(a b:List aH) (T:ZW),(∀w∈a,bp h w∈T)->cC h n (a++b) T=cC h n b T
 |[],b,T,_=>rfl
 |w::r,b,T,c=>by
  rw [PL,lz<|c w Mc];exact x3 r b T λx d=>c x<|L8 _ d
theorem uq (p:aH->Bool):∀(a:List aH) (T:ZW),(∀w∈a,p w=false->bp h w∈T)->cC h n (a.filter p) T=cC h n a T
 |[],T,_=>rfl
 |w::r,T,d=>by
  have b:∀x∈r,p x=false->bp h x∈T:=λx c=>d x<|L8 _ c
  by_cases e:p w=true
  .rw [N4,Mp e]
   by_cases z:bp h w∈T
   .rw [lz z,lz z,uq p r T b]
   .rw [na z,na z,uq p r _ λx c q=>Ms _<|b x c q]
  .rw [N4,Mj e,lz<|d w Mc (by simpa using e),uq p r T b]
theorem lN:∀(g:List aH) (T:ZW) (x:bD),x∈cC h n g T->x.2.1=n/\x.1∉T/\∃w∈g,x.1=bp h w/\x.2.2=w.2
 |[],T,x,a=>nomatch a
 |w::r,T,x,a=>by
  by_cases z:bp h w∈T
  .rw [lz z] at a
   obtain ⟨b,c,v,d,f⟩:=lN r T x a;exact ⟨b,c,v,L8 _ d,f⟩
  .rw [na z] at a
   rcases Mn.mp a with e|e
   .rw [e];exact ⟨rfl,z,w,Mc,rfl,rfl⟩
   .obtain ⟨b,c,v,d,f⟩:=lN r _ x e;exact ⟨b,λq=>c<|Ms _ q,v,L8 _ d,f⟩
theorem xB:∀(b:List aH) (T:ZW),∀w∈b,bp h w∈T\/bp h w∈aV (cC h n b T)
 |[],T,w,a=>nomatch a
 |v::r,T,w,a=>by
  by_cases z:bp h v∈T
  .rw [lz z]
   rcases Mn.mp a with e|e
   .rw [e];exact .inl z
   .exact xB r T w e
  .rw [na z]
   rcases Mn.mp a with e|e
   .rw [e];exact .inr Mc
   .rcases xB r (T++[bp h v]) w e with q|q
    .rcases MB.mp q with q|q
     .exact .inl q
     .rw [MG.mp q];exact .inr Mc
    .exact .inr<|L8 _ q
theorem xy:∀(a:List aH) (T:ZW),(aV (cC h n a T)).Nodup
 |[],T=>OS
 |v::r,T=>by
  by_cases z:bp h v∈T
  .rw [lz z];exact xy r T
  .rw [na z]
   refine Oi.mpr ⟨λq=>?_,xy r _⟩;obtain ⟨x,b,e⟩:=Mx.mp q;obtain ⟨_,c,_⟩:=lN r _ x b;exact c (by rw [e];exact Ml _<|MG.mpr rfl)
theorem wo:∀(a:List aH) (T:ZW),((cC h n a T).map λx=>x.2.2).Sublist (a.map λw=>w.2)
 |[],T=>List.Sublist.slnil
 |v::r,T=>by
  by_cases z:bp h v∈T
  .rw [lz z,MW];exact (wo r T).cons _
  .rw [na z,MW,MW];exact (wo r _).cons₂ _
end
def bf:Nat->List (List D×List aH)->List (List D)->List bD
 |_,[],_=>[]
 |n,q::r,T=>cC q.1 n q.2 T++bf (n+1) r (T++aV (cC q.1 n q.2 T))
theorem AA (p:aH->Bool):∀(L:List (ZZ×List aH)) (n:Nat) (T:ZW),(∀q∈L,∀w∈q.2,p w=false->bp q.1 w∈T)->bf n (L.map λq=>(q.1,q.2.filter p)) T=bf n L T
 |[],n,T,_=>rfl
 |q::r,n,T,a=>by
  show cC q.1 n (q.2.filter p) T++bf (n+1) (r.map _) (T++aV (cC q.1 n (q.2.filter p) T))=_;rw [uq p q.2 T<|a q Mc,AA p r _ _ λx b w c e=>Ms _<|a x (L8 _ b) w c e];rfl
theorem wD:∀(a b:List (ZZ×List aH)) (n:Nat) (T:ZW),bf n (a++b) T=bf n a T++bf (n+a.length) b (T++aV (bf n a T))
 |[],b,n,T=>by
  show bf n b T=bf n b (T++[]);rw [MP]
 |q::r,b,n,T=>by
  have c:aV (bf n (q::r) T)=aV (cC q.1 n q.2 T)++aV (bf (n+1) r<|T++aV (cC q.1 n q.2 T)):=oC _ _;rw [c,<-M5];show cC q.1 n q.2 T++bf (n+1) (r++b) _=cC q.1 n q.2 T++bf (n+1) r _++bf _ b _;rw [wD r b<|n+1,M5,MN,show n+1+r.length=n+(r.length+1) by omega];exact (M5 _ _ _).symm
theorem qe:∀(L:List (ZZ×List aH)) (n:Nat) (T:ZW) (x:bD),x∈bf n L T->x.1∉T/\∃(i:Nat) (q:ZZ×List aH),L[i]?=some q/\x.2.1=n+i/\∃w∈q.2,x.1=bp q.1 w/\x.2.2=w.2
 |[],n,T,x,a=>nomatch a
 |q::r,n,T,x,a=>by
  rcases MB.mp a with z|z
  .obtain ⟨b,f,w,g,c⟩:=lN q.2 T x z;exact ⟨f,0,q,rfl,b,w,g,c⟩
  .obtain ⟨b,i,h,d,f,c⟩:=qe r _ _ x z;exact ⟨λe=>b<|Ms _ e,i+1,h,d,by omega,c⟩
theorem xE:∀(L:List (ZZ×List aH)) (n:Nat) (T:ZW) (q:ZZ×List aH),q∈L->∀w∈q.2,bp q.1 w∈T\/bp q.1 w∈aV (bf n L T)
 |[],n,T,q,b,_,_=>nomatch b
 |a::r,n,T,q,b,w,c=>by
  show _\/_∈aV (cC a.1 n a.2 T++bf (n+1) r _);rw [oC];rcases Mn.mp b with e|e
  .subst e;rcases xB (n:=n) q.2 T w c with z|z
   .exact .inl z
   .exact .inr<|Ms _ z
  .rcases xE r (n+1) (T++aV (cC a.1 n a.2 T)) q e w c with z|z
   .rcases MB.mp z with z|z
    .exact .inl z
    .exact .inr<|Ms _ z
   .exact .inr<|Ml _ z
theorem vh:∀(L:List (ZZ×List aH)) (n:Nat) (T:ZW),(aV (bf n L T)).Nodup
 |[],n,T=>OS
 |q::r,n,T=>by
  show (aV<|cC q.1 n q.2 T++bf (n+1) r _).Nodup;rw [oC,OT];refine ⟨xy _ _,vh r _ _,λa c b d e=>?_⟩;obtain ⟨x,f,rfl⟩:=Mx.mp d;obtain ⟨g,_⟩:=qe r _ _ x f;exact g<|Ml _ (by rw [<-e];exact c)
def px (x y:bD):Prop:=x.2.1<y.2.1\/(x.2.1=y.2.1/\gR x.2.2 y.2.2)
theorem C6:∀(L:List (ZZ×List aH)) (n:Nat) (T:ZW),(∀q∈L,q.2.Pairwise λx y=>gR x.2 y.2)->(bf n L T).Pairwise px
 |[],n,T,_=>List.Pairwise.nil
 |q::r,n,T,f=>by
  refine PN.mpr ⟨?_,C6 r _ _ λx c=>f x<|L8 _ c,λx c y g=>?_⟩
  .have h:((cC q.1 n q.2 T).map λx=>x.2.2).Pairwise gR:=(Pq.mpr<|f q Mc).sublist (wo q.2 T);have j:=Pq.mp h;refine j.imp_of_mem λ{a b} k l d=>.inr ⟨?_,d⟩;rw [(lN q.2 T a k).1,(lN q.2 T b l).1]
  .left;rw [(lN q.2 T x c).1];obtain ⟨_,i,_,_,e,_⟩:=qe r _ _ y g;omega
end FL
namespace FL
open PySem L2
def cE (T:List (List D)):List (List aM×V):=T.map λf=>(cc f,V.bl true)
theorem wT(a:bZ f):∀{T:ZW},(∀g∈T,bZ g)->(br (cE T) (cc f)).isSome=decide (f∈T)
 |[],_=>rfl
 |g::r,b=>by
  have c:=wT a (T:=r) λx d=>b x<|L8 _ d
  by_cases e:g=f
  .subst e;rw [show cE (g::r)=(cc g,V.bl true)::cE r from rfl,ge (p:=(cc g,V.bl true)) rfl];simp
  .have h:¬cc g=cc f:=λz=>e (qo (b g Mc) a z);have i:¬f=g:=λz=>e z.symm;rw [show cE (g::r)=(cc g,V.bl true)::cE r from rfl,gk (p:=(cc g,V.bl true)) h,c];simp [i]
def AN(a:bZ f){T:ZW}(b:∀g∈T,bZ g):cf (cE T) (cc f) (V.bl true)=cE (if f∈T then T else T++[f]):=by
 unfold cf;rw [kI,wT a b];by_cases e:f∈T
 .rw [Mp<|My e,Mp e]
  unfold cE;rw [MU];refine ML λg _=>?_;show (if cc g=cc f then (cc g,V.bl true) else (cc g,V.bl true))=_;split<;>rfl
 .rw [Mj (by rw [MH e];exact Mm),Mj e]
  unfold cE;rw [MK];rfl
def yx (T:ZW):(cE T).length=T.length:=by unfold cE;rw [Md]
def gc (f:List D):Prop:=bZ f/\∀x∈f,aB x=false
def cU (x:bD):D:=.tup [.tup x.1,.int ((x.2.1:Nat):Int),.tup (x.2.2.map λn=>D.int (n:Nat))]
def aY (r:bN):D:=.tup [.tup r.1,cb r.2]
abbrev mC (vr:V)(ll td:Addr):List (Str×V):=[("rules",vr),("looms",.ref ll),("told",.ref td)]
structure qg (K:PySem.W.Frag)(C:Addr):Prop where
 cl:dq K C
 nR:bS K C "rules"
 nL:bS K C "looms"
 nT:bS K C "told"
structure pb (lm:bV)(h:List D)(R:aH->Prop)(sz:Nat->Nat):Prop where
 run:kL sz lm.steps
 r0:R ([],[])
 rs:∀w,R w->∀x∈cn lm w,R x
 cv:∀x∈h,x.sc=true
 hl:h.length<=100
 flat:∀w,R w->w.2.length=lm.steps.length->∀y∈bp h w,aB y=false
 skip:∀w,R w->(∀y∈bp h w,aB y=false)->∀x∈cR lm (bT lm w) w,bp h x=bp h w
theorem za{a:bV}{R:aH->Prop}(h:kL c a.steps)(i:∀w,R w->∀x∈cn a w,R x):∀(m:Nat) (w:aH),w.2.length+m=a.steps.length->GoodW c a.steps w->R w->∀x∈cR a m w,R x/\GoodW c a.steps x/\x.2.length=a.steps.length
 |0,w,j,d,e,x,f=>by rw [MG.mp f];exact ⟨e,d,by omega⟩
 |m+1,w,j,d,e,x,f=>by
  obtain ⟨y,b,g⟩:=Nm.mp f;rw [NU] at b;have:=jN b;exact za h i m y Z4 (Bi h d y b) (i w e y b) x g
def Bf {h:ZZ}{w:aH}(a:∀x∈h,x.sc=true)(b:∀p∈w.1,p.2.sc=true):bZ (bp h w):=λx c=>by
 obtain ⟨y,d,rfl⟩:=Mx.mp c;exact (kM (a y d) b).2
def pb.mV(a:pb e h R g):∀w∈f6 e,gc (bp h w):=λw f=>by
 unfold f6 at f;obtain ⟨b,c,i⟩:=Nm.mp f;have d:b=([],[]):=by
  unfold eD at c;split at c
  .cases c
  .split at c
   .exact MG.mp c
   .cases c
 subst d;obtain ⟨j,k,l⟩:=za a.run a.rs _ ([],[]) (by unfold bT;simp) (GoodW.nil a.run) a.r0 w i;exact ⟨Bf a.cv λp m=>(k.ok p m).1,a.flat w j l⟩
def Bt (C CL CW:Addr):Sp:=λvs H Q _=>∃(M:List Addr) (lm:bV) (a dx:Addr) (vr:V) (ll td:Addr) (rules:List bN) (num:Nat) (h:List D) (body T:List (List D)) (R:aH->Prop) (sz:Nat->Nat) (v2:V),vs=[.ref a,.int ((num:Nat):Int),v2]/\au M H/\but H M a=some (.ins CW dx (mC vr ll td))/\td∈M/\H td=some (.dT (cE T))/\(∀g∈T,gc g)/\al (but H M) vr (.lst (rules.map aY))/\rules[num]?=some (h,body)/\iJ C CL (but H M) v2 lm/\lm.steps.length<=100/\pb lm h R sz/\T.length+dP lm lm.steps.length ([],[])<sizeLine/\
 ∀p us H',(∀b u,b≠td->H b=some u->H' b=some u)->H p=none->H' p=some (.lst us)->aE (but H' (p::M)) us ((cC h num (f6 lm) T).map cU)->H' td=some (.dT (cE (T++aV (cC h num (f6 lm) T))))->Q (.ref p) H'
end FL
namespace FL
open PySem L2
theorem yR (facts:ZW):∀(asks:ZW) (B:ZY) (W:ZW) (k:Nat) (a:ZZ),asks[k]?=some a->∃gs,(O5.cP facts asks B W)[k]?=some ⟨c7 a (a8 B (asks.take k)),eC a facts (a8 B (asks.take k)),gs⟩
 |[],_,_,k,a,h=>by simp at h
 |c::r,B,W,0,a,h=>by
  have h:c=a:=by simpa using h
  subst h;exact ⟨_,rfl⟩
 |c::r,B,W,k+1,a,h=>by
  obtain ⟨gs,e⟩:=yR facts r (ak B c) (W.filter λg=> !cz g (ak B c)) k a (by simpa using h);exact ⟨gs,e⟩
def DF (as facts:ZW):((bX (bR as) facts).steps.map dU)=O5.eY facts as:=(rE facts _ [] _).1
def Ga {bs body facts:ZW}{lm:bV}(hI:BI bs body)(hs:lm.steps=(bX (bR body) facts).steps){w:aH}{V:Str->D}(hw:w.1=ar V (a8 [] (bs.take w.2.length))){x:aH}(hx:x∈cn lm w):
  w.2.length<bs.length/\∃V' g,g∈facts/\(∀b∈a8 [] (bs.take w.2.length),V' b=V b)/\x.1=ar V' (a8 [] (bs.take x.2.length))/\∀a,bs[w.2.length]?=some a->g=a.map (a6 V'):=by
 have hxl:=jN hx;unfold cn at hx;split at hx
 .rename_i st hst
  have hmap:(lm.steps.map dU)[w.2.length]?=some (dU st):=by rw [Mo,hst];rfl
  have e1:lm.steps.map dU=O5.cP facts bs [] ((body.filter aJ).filter dj):=by
   rw [hs,DF];unfold O5.eY;rw [hI.ask]
  rw [e1] at hmap;have hlt:w.2.length<bs.length:=by
   have:=(Ma.mp hmap).1;rw [O5.nk] at this;exact this
  have ha:=Mb hlt;refine ⟨hlt,?_⟩;obtain ⟨gs,e2⟩:=yR facts bs [] ((body.filter aJ).filter dj) w.2.length _ ha;rw [hmap] at e2;have e2:=Mu e2;have hx0:x∈fq st w 0:=by
   unfold fq at hx⊢;obtain ⟨h1,h2⟩:=Mq.mp hx;refine Mq.mpr ⟨?_,h2⟩;obtain ⟨o,ho,rfl⟩:=Mx.mp h1;refine Mx.mpr ⟨o,?_,rfl⟩;rw [pR λo _=>by unfold fresh;exact My Z4];exact (OE _).subset ho
  rw [Dc,NU,e2] at hx0;have hB:cB (a8 [] (bs.take w.2.length)):=jv eX;have hgood:=hI.good _ (NJ hlt);unfold O5.iE at hx0;have hx1:=(Mq.mp hx0).1;obtain ⟨S,pl⟩:=w;have hw:S=ar V (a8 [] (bs.take pl.length)):=hw;subst hw;have hx1:x∈oF (eC bs[pl.length] facts (a8 [] (bs.take pl.length))) (f8 (ar V (a8 [] (bs.take pl.length))) (c7 bs[pl.length] (a8 [] (bs.take pl.length)))) (ar V (a8 [] (bs.take pl.length)),pl):=hx1;rw [O5.An,xh hB hgood] at hx1;obtain ⟨Sx,plx⟩:=x;obtain ⟨i,g,hg,hm,e3⟩:=lG.mp hx1;obtain ⟨V',h1,h2,h3⟩:=jb hB hm;refine ⟨V',g,Mi hg,h1,?_,λa haa=>?_⟩
  .have hxl:plx.length=pl.length+1:=hxl;show Sx=ar V' (a8 [] (bs.take plx.length));rw [h2,hxl,MX,ha];congr 1;show _=List.foldl ak [] (bs.take pl.length++[bs[pl.length]]);rw [Nx];rfl
  .have:bs[pl.length]?=some a:=haa;rw [ha] at this;cases this;exact h3
 .cases hx
def um (bs:List (List D))(w:aH):Prop:=∃V,w.1=ar V (a8 [] (bs.take w.2.length))/\(∀b∈a8 [] (bs.take w.2.length),aB (V b)=false)/\w.2.length<=bs.length
def F2{V f:Str->D}(i:cB B)(c:cB a)(j:∀b∈B,b∈a/\f b=V b)(h:aB (cj (ar V B) y)=false):cj (ar f a) y=cj (ar V B) y:=by
 by_cases e:aB y=true
 .by_cases d:y.name∈B
  .obtain ⟨k,l⟩:=j _ d;rw [iD e,nE d,nE k,l]
  .exfalso;have:cj (ar V B) y=y:=kK (by rw [vR e];exact MH d);rw [this,e] at h;cases h
 .have g:aB y=false:=by simpa using e
  rw [kK<|oU i g,kK<|oU c g]
def yD{n:bV}(u:BI c d)(v:n.steps=(bX (bR d) a).steps)(A:∀g∈a,gc g)(B:um c w)(o:x∈cn n w):um c x/\((∀y∈bp h w,aB y=false)->bp h x=bp h w):=by
 obtain ⟨V,i,C,H⟩:=B;obtain ⟨j,p,g,E,q,r,G⟩:=Ga u v i o;have k:=jN o;have s:=Mb j;have t:a8 [] (c.take x.2.length)=ak (a8 []<|c.take w.2.length) c[w.2.length]:=by
  rw [k,MX,s];show List.foldl ak [] (c.take w.2.length++[c[w.2.length]])=_;rw [Nx];rfl
 refine ⟨⟨p,r,λb f=>?_,by omega⟩,λl=>?_⟩
 .rw [t] at f
  rcases vx f with z|⟨y,m,e,rfl⟩
  .rw [q b z];exact C b z
  .have:a6 p y∈g:=by rw [G _ s];exact P2 m
   have:=(A g E).2 _ this;unfold a6 at this;rw [Mp e] at this;exact this
 .unfold bp;refine ML λy m=>?_;rw [i,r];refine F2 (jv eX) (jv eX) (λb f=>⟨?_,q b f⟩) ?_
  .rw [t];exact so f
  .have:=l (cj w.1 y) (P2 m);rw [i] at this;exact this
theorem zL{j:bV}(k:BI i b)(l:j.steps=(bX (bR b) a).steps)(n:∀g∈a,gc g):∀(m:Nat) (w:aH),um i w->(∀y∈bp h w,aB y=false)->∀x∈cR j m w,bp h x=bp h w
 |0,w,_,_,x,e=>by rw [MG.mp e]
 |m+1,w,p,c,x,e=>by
  obtain ⟨y,o,f⟩:=Nm.mp e;rw [NU] at o;obtain ⟨q,d⟩:=yD (h:=h) k l n p o;have d:=d c;rw [<-d];exact zL k l n m y q (by rw [d];exact c) x f
def zP{q:bV}{h:ZZ}(j:BI m c)(o:q.steps=(bX (bR c) d).steps)(s:∀g∈d,ja g/\gc g)(t:d.length<=200)(L:c.length<=10)(M:∀x∈h,x.sc=true)(N:h.length<=100)(u:∀y∈h,aB y=true->y.name∈a8 [] m):
  pb q h (um m) (λk=>(a8 [] ((c.filter λa=> !aJ a).take k)).length):=by
 have f:=j.at_;have l:∀k,(a8 []<|(c.filter λa=> !aJ a).take k).length<=500:=λk=>by
  rw [j.ask];have p:=B5 (B:=[]) (as:=m.take k) λa v=>by
   have:=PZ v;rw [<-j.ask] at this;exact (f a (Mq.mp this).1).len
  have A:=j.nM;have T:(m.take k).length<=3:=by rw [MT];omega
  rw [N6] at p;omega
 have O:=Kr (facts:=d) (λg i=>(s g i).1) t (λa v=>(f a v).lM) Z4 (λg i e=>by
  obtain ⟨r,x,y,rfl⟩:=(j.gd g i e).1;exact ⟨(f _ i).lM,r,x,y,rfl,(f _ i).hd⟩) l
 have C:q.steps.length=m.length:=by
  rw [o];show ((eY c).map _).length=_;rw [Md];unfold eY;rw [nk,j.ask]
 refine ⟨by rw [o];exact O,⟨λ_=>.av,rfl,(λb u=>nomatch u),MI _⟩,λw n x E=>(yD (h:=h) j o (λg i=>(s g i).2) n E).1,M,N,λw n G y Q=>?_,λw n H x E=>zL j o (λg i=>(s g i).2) _ w n H x E⟩;obtain ⟨V,p,A,_⟩:=n;rw [G,C,NL] at p A;obtain ⟨z,t,rfl⟩:=Mx.mp Q;rw [p];by_cases e:aB z=true
 .have I:=u z t e;rw [iD e,nE I];exact A _ I
 .have J:aB z=false:=by simpa using e
  rw [kK<|oU (jv eX) J];exact J
def K0(b:bV)(w:aH)(c:∀s∈b.steps,s.of.length<=F):(cn b w).length<=F:=by
 unfold cn;split
 .rename_i st a
  refine MF ?_ (c st<|Mi a);unfold fq;refine MF (MO _ _) ?_;rw [Md];refine MF (OE _).length_le ?_;rw [P1];exact MO _ _
 .exact MI _
theorem De (lm:bV){F:Nat}(hF:∀s∈lm.steps,s.of.length<=F):∀(n:Nat) (w:aH),dP lm n w<=O5.pw F n
 |0,_=>Mh _
 |n+1,w=>by
  show 1+((cn lm w).map (dP lm n)).sum<=1+F*O5.pw F n;have h1:=O5.ya (dP lm n) (O5.pw F n) (cn lm w) λx _=>De lm hF n x;have h2:=Nat.mul_le_mul_right (O5.pw F n) (K0 lm w hF);omega
def AG {body facts bs:ZW}{lm:bV}(hI:BI bs body)(hs:lm.steps=(bX (bR body) facts).steps)(hz:facts.length<=200):dP lm lm.steps.length ([],[])<=8100000:=by
 have hof:∀s∈lm.steps,s.of.length<=200:=λs hsm=>by
  rw [hs] at hsm;obtain ⟨s0,h0,rfl⟩:=Mx.mp hsm;have h1:=ze s0 0 facts;obtain ⟨_,e,_⟩:=wf _ _ _ s0 h0;rw [e,N6] at h1;exact MF h1 Z4
 have hsl:lm.steps.length=bs.length:=by
  rw [hs];show ((eY body).map _).length=_;rw [Md];unfold eY;rw [nk,hI.ask]
 have h3:=hI.nM;have h1:=De lm hof lm.steps.length ([],[]);have h2:∀n,n<=3->O5.pw 200 n<=8100000:=λn hn=>by
  have:n=0\/n=1\/n=2\/n=3:=by omega
  rcases this with rfl|rfl|rfl|rfl<;>decide
 exact MF h1 (h2 _ Z4)
end FL
namespace FL
open PySem L2
mutual
theorem al.pd {H:Hp}{M own:List Addr}(hk:∀a∈own,∀ts,H a≠some (.tup ts)):∀{v:V} {d:D},d.fG=true->al (but H M) v d->al (but H (own++M)) v d
 |_,_,_,.av=>.av
 |_,_,_,.bl b=>.bl b
 |_,_,_,.int b=>.int b
 |_,_,_,.str b=>.str b
 |_,_,hd,.tup (a:=c) h r=>by
  refine .tup ?_ (aE.pd hk (by rw [D.fG] at hd;exact hd) r)
  obtain ⟨h1,h2⟩:=aw h
  rw [bn]
  ·exact h2
  ·intro z
   rcases mem_append.mp z with z|z
   ·exact hk c z _ h2
   ·exact h1 z
 |_,_,hd,.lst _ _=>by cases hd
theorem aE.pd {H:Hp}{M own:List Addr}(hk:∀a∈own,∀ts,H a≠some (.tup ts)):∀{vs:List V} {ds:List D},D.jr ds=true->aE (but H M) vs ds->aE (but H (own++M)) vs ds
 |_,_,_,.nil=>.nil
 |_,_,hd,.cons h r=>by
  rw [D.jr,Bool.and_eq_true] at hd
  exact .cons (al.pd hk hd.1 h) (aE.pd hk hd.2 r)
end
section
variable {C CL:Addr}{H H':Hp}{Z Z':List Addr}{a:Addr}{oss:List (List Addr)}{lm:bV}
def hU.frame (h:hU C CL H Z a oss lm)(d:∀x∈a::oss.flatten,x∈Z')(k:∀b u,b∈a::oss.flatten->H b=some u->H' b=some u)(S:ab (but H Z) (but H' Z')):hU C CL H' Z' a oss lm:=by
 obtain ⟨f,g,i,j,l,m,r,n⟩:=h;exact ⟨f,g,i,k _ _ Mc j,S _ _ l,m.zY (λos c x o=>d x<|L8 _<|M1.mpr ⟨os,c,o⟩) (λb u p e=>by obtain ⟨os,c,q⟩:=p;exact k b u (L8 _<|M1.mpr ⟨os,c,q⟩) e) S,d _ Mc,n⟩
def hU.Hm (h:hU C CL H Z a oss lm):∀x∈a::oss.flatten,∀d,H x≠some (.tup d):=λx l d e=>by
 obtain ⟨v,y,A,m,B,f,E,G⟩:=h;rcases Mn.mp l with z|z
 .rw [z,m] at e;cases e
 .obtain ⟨os,n,o⟩:=M1.mp z;obtain ⟨j,g⟩:=MY.mp n;have c:j<lm.steps.length:=by rw [<-f.l2];exact (Ma.mp g).1
  obtain ⟨b,p,_,i,⟨r,I,J,L,M,N,O,s,t,_,_,_,k⟩,_⟩:=f.get j _<|Mb c;rw [g] at i;cases i;subst s;rcases Mn.mp o with w|w
  .rw [w,t] at e;cases e
  .rcases Mn.mp w with w|w
   .obtain ⟨u,q,_⟩:=k.kvs;rw [w,q] at e;cases e
   .obtain ⟨Q,q⟩:=k.lists x w;rw [q] at e;cases e
end
structure dn (C CL:Addr)(H:Hp)(Z:List Addr)(us:List V)(osss:List (List Addr))(lms:List bV):Prop where
 l1:us.length=lms.length
 l2:osss.length=lms.length
 get:∀(j:Nat) lm,lms[j]?=some lm->∃a oss,us[j]?=some (.ref a)/\osss[j]?=some (a::oss.flatten)/\hU C CL H Z a oss lm/\∀x∈a::oss.flatten,x∈Z
 apart:∀(i j:Nat) oi oj,i≠j->osss[i]?=some oi->osss[j]?=some oj->∀x∈oi,x∉oj
section
variable {C CL:Addr}{H H':Hp}{Z Z':List Addr}{us:List V}{osss:List (List Addr)}{lms:List bV}
def dn.fL (h:dn C CL H Z us osss lms):∀os∈osss,∀x∈os,x∈Z:=λos d x f=>by
 obtain ⟨j,c⟩:=MY.mp d;have b:j<lms.length:=by rw [<-h.l2];exact (Ma.mp c).1
 obtain ⟨a,g,_,e,_,i⟩:=h.get j _<|Mb b;rw [c] at e;cases e;exact i x f
theorem dn.frame (h:dn C CL H Z us osss lms)(f:∀os∈osss,∀x∈os,x∈Z')(k:∀b u,(∃os∈osss,b∈os)->H b=some u->H' b=some u)(S:ab (but H Z) (but H' Z')):dn C CL H' Z' us osss lms:=
 ⟨h.l1,h.l2,λj i l=>by
  obtain ⟨a,c,m,g,A,_⟩:=h.get j i l;have d:=Mi g;exact ⟨a,c,m,g,A.frame (f _ d) (λb u n e=>k b u ⟨_,d,n⟩ e) S,f _ d⟩,h.apart⟩
def dn.put{j:Nat}{os:ZX}{d:List ZX}(h:dn C CL H Z us osss lms)(l:au Z H)(hj:lms[j]?=some Y)(ha:us[j]?=some (.ref a))(J:osss[j]?=some os)(p:a∈os)(n:∀x∈d.flatten,x∈os\/H x=none)
  (k:∀b u,b∉os->H b=some u->H' b=some u) (A:hU C CL H' (d.flatten++Z) a d v):dn C CL H' (d.flatten++Z) us (osss.set j (a::d.flatten)) (lms.set j v):=by
 have s:=h.fL os<|Mi J
 have t:j<osss.length:=(Ma.mp J).1;have L:j<lms.length:=(Ma.mp hj).1;have S:ab (but H Z) (but H'<|d.flatten++Z):=λb u e=>by
  obtain ⟨M,N⟩:=aw e;rw [bn]
  .exact k b u (λz=>M<|s b z) N
  .intro z;rcases MB.mp z with z|z
   .rcases n b z with w|w
    .exact M<|s b w
    .rw [w] at N;cases N
   .exact M z
 have y:∀x∈a::d.flatten,x∈os\/H x=none:=λx f=>by
  rcases Mn.mp f with z|z
  .rw [z];exact .inl p
  .exact n x z
 have E:∀(i:Nat) (r:ZX),i≠j->osss[i]?=some r->∀x∈a::d.flatten,x∉r:=λi r G g x f z=>by
  rcases y x f with w|w
  .exact h.apart j i os r (M6 G) J g x w z
  .exact l x (h.fL r (Mi g) x z) w
 refine ⟨by rw [NH];exact h.l1,by rw [NH,NH];exact h.l2,λi m g=>?_,λi O r I G g o x f z=>?_⟩
 .by_cases e:j=i
  .subst e;rw [Mr L] at g;cases g;refine ⟨a,d,ha,Mr t,A,λx f=>?_⟩;rcases Mn.mp f with w|w
   .rw [w];exact Ml _<|s a p
   .exact Ms _ w
  .rw [Me e] at g
   obtain ⟨b,ob,e1,Q,B,T⟩:=h.get i m g;refine ⟨b,ob,e1,by rw [Me e];exact Q,B.frame (λx f=>Ml _<|T x f) (λc u hc q=>k c u (λw=>h.apart j i os _ e J Q c w hc) q) S,λx f=>Ml _<|T x f⟩
 .by_cases e:j=i
  .subst e;rw [Mr t] at g;cases g;rw [Me G] at o;exact E O I (M6 G) o x f z
  .rw [Me e] at g
   by_cases U:j=O
   .subst U;rw [Mr t] at o;cases o;exact E i r (M6 e) g x z f
   .rw [Me U] at o
    exact h.apart i O r I G g o x f z
end
def du (T fs:List (List D)):List (List D):=fs.foldl (λT f=>if f∈T then T else T++[f]) T
def Fa (T a:ZW)(f:ZZ):du T (a++[f])=if f∈du T a then du T a else du T a++[f]:=by
 unfold du;rw [Nx];rfl
theorem uT:∀(a T:ZW) (g:ZZ),g∈du T a↔g∈T\/g∈a
 |[],T,g=>⟨.inl,λh=>h.elim id λz=>nomatch z⟩
 |f::r,T,g=>by
  show g∈du (if f∈T then T else T++[f]) r↔_;rw [uT r];by_cases e:f∈T
  .rw [Mp e]
   constructor
   .rintro (h|h)
    .exact .inl h
    .exact .inr<|L8 _ h
   .rintro (h|h)
    .exact .inl h
    .rcases Mn.mp h with z|z
     .rw [z];exact .inl e
     .exact .inr z
  .rw [Mj e]
   constructor
   .rintro (h|h)
    .rcases MB.mp h with z|z
     .exact .inl z
     .rw [MG.mp z];exact .inr Mc
    .exact .inr<|L8 _ h
   .rintro (h|h)
    .exact .inl<|Ms _ h
    .rcases Mn.mp h with z|z
     .rw [z];exact .inl<|Ml _<|MG.mpr rfl
     .exact .inr z
theorem yT:∀(a T:ZW),T.length<=(du T a).length
 |[],T=>Mh _
 |f::r,T=>by
  show T.length<=(du (if f∈T then T else T++[f]) r).length;have:=yT r<|if f∈T then T else T++[f]
  refine MF ?_ this;split
  .exact Mh _
  .rw [Mv];omega
def Lg (T a:ZW)(j:Nat):(du T (a.take j)).length<=(du T a).length:=by
 have e:du T a=du (du T<|a.take j) (a.drop j):=by
  unfold du;rw [<-Nx,N8]
 rw [e];exact yT _ _
theorem zF:∀(a T:ZW),(T++a).Nodup->du T a=T++a
 |[],T,_=>by rw [MP];rfl
 |f::r,T,h=>by
  have b:f∉T:=λz=>by
   rw [OT] at h;exact h.2.2 f z f Mc rfl
  show du (if f∈T then T else T++[f]) r=_;rw [Mj b,zF r (T++[f]) (by rw [M5];exact h),M5];rfl
theorem uS:∀(a T:ZW),(∀f∈a,f∈T)->du T a=T
 |[],T,_=>rfl
 |f::r,T,h=>by
  show du (if f∈T then T else T++[f]) r=_;rw [Mp<|h f Mc,uS r T λg b=>h g<|L8 _ b]
def fz (rules:List bN)(lms:List bV)(facts:List (List D)):List (List D×List aH):=(rules.zip lms).map λq=>(q.1.1,f6 (bX q.2 facts))
structure qY (rules:List bN)(lms:List bV)(T facts:List (List D)):Prop where
 pN:∀g∈facts,ja g/\gc g
 tok:∀g∈T,gc g
 dI:∀lm∈lms,lm.steps.length<=100/\lm.taken+facts.length<2^60/\∀s∈lm.steps,dF s.cJ/\s.of.length+facts.length<1000
 give:∀(j:Nat) r lm,rules[j]?=some r->lms[j]?=some lm->∃R sz,pb (bX lm facts) r.1 R sz/\dP (bX lm facts) (bX lm facts).steps.length ([],[])<=8100000
 len:rules.length=lms.length
 all:(du T facts++aV (bf 0 (fz rules lms facts) (du T facts))).length<=1000
def xT (C CL CW:Addr):Sp:=λvs H Q _=>∃(Z:List Addr) (a dx:Addr) (vr:V) (ll td:Addr) (us:List V) (osss:List (List Addr)) (rules:List bN) (lms:List bV) (T facts:List (List D)) (v1:V),vs=[.ref a,v1]/\au Z H/\but H Z a=some (.ins CW dx (mC vr ll td))/\but H Z ll=some (.lst us)/\dn C CL H Z us osss lms/\td∈Z/\(∀os∈osss,td∉os)/\H td=some (.dT (cE T))/\al (but H Z) vr (.lst (rules.map aY))/\al (but H Z) v1 (.lst (facts.map D.tup))/\qY rules lms T facts/\
 ∀v H' Z' osss',(∀b u,b≠td->(∀os∈osss,b∉os)->H b=some u->H' b=some u)->(∀x∈Z,x∈Z')->(∀x∈Z',x∈Z\/H x=none)->au Z' H'->dn C CL H' Z' us osss' (lms.map λlm=>bX lm facts)->(∀os∈osss',∀x∈os,(∃o∈osss,x∈o)\/H x=none)->H' td=some (.dT (cE (du T facts++aV (bf 0 (fz rules lms facts) (du T facts)))))->al (but H' Z') v (.lst ((bf 0 (fz rules lms facts) (du T facts)).map cU))->Q v H'
def Is (x:bD)(h:bZ x.1):(cU x).fG=true:=by
 refine rh λy a=>?_;simp only [Mn,MR,M9] at a;rcases a with rfl|rfl|rfl
 .exact iW h
 .rfl
 .exact iW λz b=>by
   obtain ⟨n,_,rfl⟩:=Mx.mp b;rfl
end FL
namespace FL
open PySem L2
section
variable {C CL:Addr}{H H':Hp}{Z:List Addr}{us:List V}{osss:List (List Addr)}{lms:List bV}
def dn.nil {us:List V}(h:us=[]):dn C CL H Z us [] []:=⟨by rw [h];rfl,rfl,λj a q=>by simp at q,λi j b c _ q=>by simp at q⟩
def dn.snoc{c:List ZX}(h:dn C CL H Z us osss lms)(l:au Z H)(I:H x=none)(N:∀os∈c,∀y∈os,H y=none)(k:∀b u,H b=some u->H' b=some u)(A:hU C CL H' (c.flatten++x::Z) x c G):dn C CL H' (c.flatten++x::Z) (us++[.ref x]) (osss++[x::c.flatten]) (lms++[G]):=by
 have J:∀y∈x::c.flatten,H y=none:=λy d=>by
  rcases Mn.mp d with z|z
  .rw [z];exact I
  .obtain ⟨os,v,w⟩:=M1.mp z;exact N os v y w
 have S:ab (but H Z) (but H' (c.flatten++x::Z)):=λb u e=>by
  obtain ⟨s,f⟩:=aw e;rw [bn]
  .exact k b u f
  .intro z;rcases MB.mp z with z|z
   .rw [J b<|L8 _ z] at f;cases f
   .rcases Mn.mp z with z|z
    .rw [z,I] at f;cases f
    .exact s z
 have O:=h.frame (Z':=c.flatten++x::Z) (λos v y d=>Ml _<|L8 _<|h.fL os v y d) (λb u _ e=>k b u e) S;have E:∀t∈osss,∀y∈x::c.flatten,y∉t:=λt v y d z=>l y (h.fL t v y z)<|J y d
 refine ⟨by rw [Mv,Mv,h.l1];rfl,by rw [Mv,Mv,h.l2];rfl,λj m g=>?_,λi j t L M Q g y d z=>?_⟩
 .by_cases e:j<lms.length
  .rw [ME e] at g
   obtain ⟨a,T,U,Y,B,hz⟩:=O.get j m g;exact ⟨a,T,by rw [ME (by rw [h.l1];exact e)];exact U,by rw [ME (by rw [h.l2];exact e)];exact Y,B,hz⟩
  .rw [MJ<|MV e] at g
   have p:j-lms.length=0:=by
    have:=(Ma.mp g).1;simp at this;exact this
   rw [p] at g;have g:G=m:=by simpa using g
   subst g;refine ⟨x,c,by rw [MJ (by rw [h.l1];omega),h.l1,p];rfl,by rw [MJ (by rw [h.l2];omega),h.l2,p];rfl,A,λy d=>?_⟩;rcases Mn.mp d with z|z
   .rw [z];exact Ml _ Mc
   .exact Ms _ z
 .have r:∀{n:Nat} {o:ZX},(osss++[x::c.flatten])[n]?=some o->(n<osss.length/\osss[n]?=some o)\/(n=osss.length/\o=x::c.flatten):=λ{n o} q=>by
   by_cases e:n<osss.length
   .rw [ME e] at q;exact .inl ⟨e,q⟩
   .rw [MJ<|MV e] at q
    have p:n-osss.length=0:=by
     have:=(Ma.mp q).1;simp at this;exact this
    rw [p] at q;exact .inr ⟨by omega,by simpa using q.symm⟩
  rcases r Q with ⟨_,s⟩|⟨n1,s⟩
  .rcases r g with ⟨_,f⟩|⟨_,f⟩
   .exact h.apart i j t L M s f y d z
   .rw [f] at z;exact E t (Mi s) y z d
  .rcases r g with ⟨_,f⟩|⟨n2,f⟩
   .rw [s] at d;exact E L (Mi f) y d z
   .exact M<|n1.trans n2.symm
end
def IK{g:List bN}{Q:VK}{K:W.Frag}(hw:Walk wi (but H M) σ (g.map aY))(l:au M H)(aA:∀r∈g,pC r.2/\ti r.2)(i:g.length<=1000)
  (k:∀D A f s,(∀b u,H b=some u->s b=some u)->H D=none->s D=some (.lst A)->(∀os∈f,∀y∈os,H y=none/\y≠D)->au (f.flatten++M) s->dn C I s (f.flatten++M) A f (g.map λr=>bR r.2)->Q (.ref D) s):
  iU wi (a9 [] 1) (cx 0) lh (t9 I (xp C I) [] L2.E0 (bu (bJ (d6 K) (aU 0) (tC (.int 1))) bL)) σ H Q:=hw M H (ab.refl _) l _ λJ O s1 bc T D hD=>by
 have lf:D∉M:=(l.same s1).fresh hD;have HD:H D=none:=ib s1 hD;refine ⟨λj m τ s=>m=(g.map aY).length-j/\j<=(g.map aY).length/\τ.length=1/\(∀b u,O b=some u->s b=some u)/\∃A f,s D=some (.lst A)/\dn C I s (f.flatten++D::M) A f ((g.take j).map λr=>bR r.2)/\(∀os∈f,∀y∈os,O y=none/\y≠D)/\au (f.flatten++D::M) s,
  ⟨_,rfl,MI _,rfl,λb u e=>by rw [aD<|dm e hD];exact e,[],[],aO,dn.nil rfl,(λos p=>nomatch p),((l.same s1).upd).cons aO⟩,?_⟩
 rintro j m τ s ⟨rfl,hj,bd,kH,A,f,an,hL,hn,hl⟩;have hs:ab (but O M) (but s (f.flatten++D::M)):=λb u e=>by
  obtain ⟨q1,q2⟩:=aw e;rw [bn]
  .exact kH b u q2
  .intro z;rcases MB.mp z with z|z
   .obtain ⟨os,p,w⟩:=M1.mp z;rw [(hn os p b w).1] at q2;cases q2
   .rcases Mn.mp z with z|z
    .rw [z,hD] at q2;cases q2
    .exact q1 z
 by_cases ao:j<(g.map aY).length
 .have as:j<g.length:=by simpa using ao
  have hr:=Mb as;have hd:(g.map aY)[j]?=some (aY g[j]):=by rw [Mo,hr];rfl
  have a0:=NJ as;generalize b6:g[j]=r at hr hd a0;obtain ⟨bi,t⟩:=r;obtain ⟨go,gy⟩:=bc j _ (f.flatten++D::M) s hd hs hl;refine .inr ⟨go,λa1 n=>a1.length=1/\(∀b u,O b=some u->n b=some u)/\∃A f,n D=some (.lst A)/\dn C I n (f.flatten++D::M) A f ((g.take<|j+1).map λr=>bR r.2)/\(∀os∈f,∀y∈os,O y=none/\y≠D)/\au (f.flatten++D::M) n,
   λa1 n q0=>by obtain ⟨a,b,c⟩:=q0;exact ⟨(g.map aY).length-(j+1),by omega,rfl,ao,a,b,c⟩,λx n hy=>?_⟩
  obtain ⟨s3,rx⟩:=gy x n hy;have a2:=hl.same s3;simp only [cx,lh,O3];have h0:(τ.set 0<|some x)[0]?=some (some x):=Mr Z4;refine (bK (K:=K) (ds:=[.tup bi,cb t]) (d:=cb t) rfl (cL h0 rx) aq) (f.flatten++D::M) n (ab.refl _) a2 _ λv L s4 r4=>λy U B bk b7=>?_;have a3:=a2.same s4;have E:=s4 _ _<|s3 _ _ an;have S4:ab L (upd (upd L U (.own y)) y (.ins I U [])):=λb u e=>by rw [aD<|dm e B,aD<|dm e bk];exact e
  have back:∀{z:Addr},(upd (upd L U (.own y)) y (.ins I U [])) z=none->L z=none:=λ{z} e=>ib S4 e;generalize bl:upd (upd L U (.own y)) y (.ins I U [])=H5 at S4 back;have N:=aA _ a0;refine ⟨f.flatten++D::M,t,y,U,v,rfl,by rw [<-bl];exact aO,a3.same S4,r4.mono<|S4.but _,N.1,N.2,λY H6 k6 n6 l6 L6=>⟨rfl,?_⟩⟩;have ac:∀b u,L b=some u->H6 b=some u:=λb u e=>k6 b u (dm e B)<|S4 _ _ e
  have bs:dn C I L (f.flatten++D::M) A f ((g.take j).map λr=>bR r.2):=hL.frame hL.fL (λb u _ e=>s4 _ _<|s3 _ _ e)<|(s3.trans s4).but _
  have a4:=bs.snoc a3 B (λos p z i=>back<|n6 os p z i) ac L6;have bt:=ac _ _ E;have bx:=hL.l1;rw [Md,MT] at bx;refine ⟨A,bt,cq Z4,by rw [NH];exact bd,λb u e=>?_,A++[.ref y],f++[y::Y.flatten],aO,?_,λos p z i=>?_,?_⟩
  .rw [aD<|dm e hD]
   exact ac _ _<|s4 _ _<|s3 _ _<|kH b u e
  .have G:∀z,z∈(f++[y::Y.flatten]).flatten++D::M↔z∈Y.flatten++y::(f.flatten++D::M):=λz=>by
    simp only [Nn,Nd,NO,MP,MB,Mn];constructor<;>(intro h;simp only [or_assoc] at h⊢;rcases h with h|h|h|h|h<;>simp [h])
   have b0:(g.take<|j+1).map (λr=>bR r.2)=(g.take j).map (λr=>bR r.2)++[bR t]:=by rw [MX,hr,MK];rfl
   rw [b0];refine a4.frame (λos p z i=>(G z).mpr<|a4.fL os p z i) (λb u ⟨os,p,hb⟩ e=>?_) ?_
   .rw [aD λz=>?_]
    .exact e
    .subst z;rcases MB.mp p with w|w
     .exact (hn os w _ hb).2 rfl
     .rw [MG.mp w] at hb
      rcases Mn.mp hb with q|q
      .rw [<-q,E] at B;cases B
      .obtain ⟨o,af,q'⟩:=M1.mp q;rw [back<|n6 o af _ q'] at E;cases E
   .rw [dN<|(G D).mpr<|Ml _<|L8 _<|Ml _ Mc,jQ G]
    exact ab.refl _
  .have aj:∀{z:Addr},L z=none->O z=none:=λ{z} e=>by
    cases q:O z with
    |none=>rfl
    |some u=>have:=s4 _ _<|s3 _ _<|kH z u q;rw [e] at this;cases this
   rcases MB.mp p with w|w
   .exact hn os w z i
   .rw [MG.mp w] at i
    have am:L z=none:=by
     rcases Mn.mp i with q|q
     .rw [q];exact B
     .obtain ⟨o,af,q'⟩:=M1.mp q;exact back<|n6 o af _ q'
    exact ⟨aj am,λq=>by rw [q,E] at am;cases am⟩
  .refine au.upd λz i=>l6 z ?_
   simp only [Nn,Nd,NO,MP,MB,Mn] at i⊢;simp only [or_assoc] at i⊢;rcases i with h|h|h|h|h<;>simp [h]
 .have e:j=(g.map aY).length:=by omega
  subst e;rw [Md,NL] at hL;refine .inl ⟨T (f.flatten++D::M) s hs,k D A f s (λb u e=>kH b u<|s1 _ _ e) HD an (λos p y hy=>⟨ib s1 (hn os p y hy).1,(hn os p y hy).2⟩) (λz i=>hl z ?_) ?_⟩
  .rcases MB.mp i with w|w
   .exact Ms _ w
   .exact Ml _<|L8 _ w
  .refine hL.frame (λos p z i=>Ms _<|M1.mpr ⟨os,p,i⟩) (λb u _ e=>e) (eA λz i=>?_)
   rcases MB.mp i with w|w
   .exact Ms _ w
   .exact Ml _<|L8 _ w
def BM (C CL CW:Addr):Sp:=λvs H Q _=>∃(M:List Addr) (rules:List bN) (x dx:Addr) (v1:V),vs=[.ref x,v1]/\H x=some (.ins CW dx [])/\au M H/\x∉M/\al (but H M) v1 (.lst (rules.map aY))/\(∀r∈rules,pC r.2/\ti r.2)/\rules.length<=100/\
 ∀ll td us osss H',(∀b u,b≠x->H b=some u->H' b=some u)->H' x=some (.ins CW dx (mC v1 ll td))->H td=none->H' td=some (.dT [])->(∀os∈osss,∀y∈os,H y=none/\y≠td)->but H' (td::(osss.flatten++M)) ll=some (.lst us)->au (td::(osss.flatten++M)) H'->dn C CL H' (td::(osss.flatten++M)) us osss (rules.map λr=>bR r.2)->Q .av H'
end FL
namespace FL
open PySem L2
section
variable {X:Cx}{C:Addr}{N':List Str}{scope:Scope}{cl:List (Str×Addr)}{Ca:Addr}{fp:List Addr}{s:Shared}{H:Hp}
def Iu {n:Nat}{x:Str}{ps:ZY}{sp:Sp}{e:Expr}{es:List Expr}{t:TA}{p pos:Pos}{k:Nat}(h:jI X.prog X.w X.K X.mg X.base n C x ps sp)(hr:cT (k+1) X.A)(ha:PA (bG X N' scope cl Ca fp s H) (e::es) t)(hle:n<=k:=by decide)
  (hg:Gl (bG X N' scope cl Ca fp s H) x:=by rfl) (hdb:(x==("__debug__":Str))=false:=by decide) (he:starEach (e::es) (bG X N' scope cl Ca fp s H).env=(false,eval e (bG X N' scope cl Ca fp s H).env)::starEach es (bG X N' scope cl Ca fp s H).env:=by rfl) (hpl:(backTo pos (starEach es (bG X N' scope cl Ca fp s H).env)).any (·.1)=false:=by rfl):
  PE (bG X N' scope cl Ca fp s H) (.Call (.Name x p) (e::es) [] pos) (t9 C sp [] L2.E0 t):=wE (X:=bG X N' scope cl Ca fp s H) h hr ha hle hg hdb he hpl
end
end FL
namespace L2
open PySem PySem.Spec PyProof.Rows
section
variable {X:Cx}{tg:Expr}
end
end L2
namespace FL
open PySem L2
inductive i9 (G:Hp):List V->List Sl->Prop
 |nil:i9 G [] []
 |cons {v:V} {s:Sl} {vs:List V} {ss:List Sl}:jW G (some (some v)) s->i9 G vs ss->i9 G (v::vs) (s::ss)
theorem i9.length:∀{a:List V} {b:List Sl},i9 G a b->a.length=b.length
 |_,_,.nil=>rfl
 |_,_,.cons _ r=>M7 (· +1) r.length
theorem i9.get:∀{a:List V} {b:List Sl} {i:Nat} {s:Sl},i9 G a b->b[i]?=some s->∃v,a[i]?=some v/\jW G (some (some v)) s
 |_,_,_,_,.nil,e=>by simp at e
 |_,_,0,_,.cons h _,e=>by simp at e;subst e;exact ⟨_,rfl,h⟩
 |_,_,i+1,s,.cons _ r,e=>by
  obtain ⟨v,c,d⟩:=i9.get (i:=i) (s:=s) r (by simpa using e);exact ⟨v,by simpa using c,d⟩
def Sl.shr:Sl->Sl
 |.k S=>.kd S|.t ps=>.td ps|.l xs=>.d (.lst xs)|s=>s
def kO (t:TA)(G:Hp)(σ:St)(ss:List Sl):Prop:=∀M H,ab G (but H M)->au M H->∀Q:List V->Hp->Prop,(∀vs H',ab H H'->i9 (but H' M) vs ss->Q vs H')->t σ H Q
def spS (R:List Sl->D->Prop):Sp:=λvs H Q _=>∃M ss d,au M H/\i9 (but H M) vs ss/\R ss d/\∀v H',ab H H'->al (but H' M) v d->Q v H'
def Av{R:List Sl->D->Prop}(c:∀a d,R a d->a.length=n):∀b H Q E,spS R b H Q E->b.length=n:=λb H Q E f=>by obtain ⟨M,a,d,l,r,e,k⟩:=f;rw [r.length];exact c a d e
section
variable {G:Hp}{σ:St}{δ:List Sl}{ta:TE}{t:TA}{d:D}{ss:List Sl}
def vv:kO bL G σ []:=λM H s l Q k=>k [] H (ab.refl _) .nil
def wO (c:ae ta G σ d)(e:kO t G σ ss):kO (bu ta t) G σ (.d d::ss):=
 λM H s l Q k=>c M H s l _ λv f a g=>e M f (s.trans<|a.but M) (l.same a) _ λj h b i=>k _ h (a.trans b) (.cons ⟨v,rfl,g.mono<|b.but M⟩ i)
def bP.es{i:Nat}(e:bP G σ δ)(g:δ[i]?=some s)(j:s≠.no)(m:kO t G σ ss):kO (bu (aU i) t) G σ (s.shr::ss):=λM H c l Q k=>by
 have w:=(e.mono c).get i s g;have:∃v,σ[i]?=some (some v)/\jW (but H M) (some<|some v) s.shr:=by
  cases s with
  |no=>exact absurd rfl j
  |d x=>obtain ⟨v,h,r⟩:=w;exact ⟨v,h,v,rfl,r⟩
  |l x=>obtain ⟨v,h,r⟩:=w;exact ⟨v,h,v,rfl,r⟩
  |k x=>obtain ⟨a,h,r⟩:=w;exact ⟨.ref a,h,a,rfl,r⟩
  |t x=>obtain ⟨a,b,h,r⟩:=w;exact ⟨.ref a,h,a,b,rfl,r⟩
  |kd x=>obtain ⟨a,h,r⟩:=w;exact ⟨.ref a,h,a,rfl,r⟩
  |td x=>obtain ⟨a,b,h,r⟩:=w;exact ⟨.ref a,h,a,b,rfl,r⟩
 obtain ⟨v,n,o⟩:=this;exact ⟨v,n,m M H c l _ λu p f q=>k _ p f (.cons (o.mono<|f.but M) q)⟩
def HR (c:kO t G σ ss):kO (bu vG t) G σ (.td []::ss):=λM H s l Q k=>λp a=>
 c M _ (s.trans<|(da a _).but M) (l.same<|da a _) _ λg e b f=>k _ e ((da a _).trans b) (.cons ⟨p,[],rfl,by rw [bn<|l.fresh a];exact b _ _ aO,.nil⟩ f)
def vD{R:List Sl->D->Prop}(b:R ss d)(h:kO t G σ ss):ae (iY (spS R) [] E t) G σ d:=
 λM H s l Q k=>h M H s l _ λi j a c=>⟨M,ss,d,l.same a,by rw [MP];exact c,b,λv e f g=>k v e (a.trans f) g⟩
end
def yw {M:ZX}{H:Hp}{vs:List V}{ss:List Sl}(l:au M H)(r:i9 (but H M) vs ss)(ho:∀s∈ss,s.own=false)(N:ZY):Bx H M [] (L2.start N vs) H (ss++List.replicate (N.length-ss.length) .no):=by
 have hl:=r.length;have own0:∀{j:Nat} {s:Sl},(ss++List.replicate (N.length-ss.length) Sl.no)[j]?=some s->s.own=true->False:=λ{j s} h k=>by
  rcases MB.mp (Mi h) with z|z
  .rw [ho s z] at k;cases k
  .rw [(List.mem_replicate.mp z).2] at k;cases k
 refine ⟨by simp [L2.start,hl],ab.refl _,l,(λa ha=>nomatch ha),λi s q=>?_,λi j s t a _ hs _ ks _ _ _=>own0 hs ks⟩;by_cases hi:i<ss.length
 .rw [ME hi] at q
  obtain ⟨v,h1,h2⟩:=r.get q;have hv:(L2.start N vs)[i]?=some (some v):=by
   unfold L2.start;rw [ME (by simpa using (by omega:i<vs.length)),Mo,h1];rfl
  rw [hv];have:=ho s (Mi q);cases s with
  |no=>trivial
  |d x=>exact h2
  |l x=>cases this
  |k x=>cases this
  |t x=>cases this
  |kd x=>exact h2
  |td x=>exact h2
 .rw [MJ (MV hi)] at q
  obtain ⟨h1,h2⟩:=Ma.mp q;simp at h2;subst h2;trivial
section
variable {B:Hp}{M0:List Addr}{δ:List Sl}{E:Ends}{t:TA}
end
end FL
namespace FL
open PySem L2
def oT (f:List D):Prop:=∃r xs,f=.str r::xs/\∀x∈xs,x.sc=true
def oT.sc(h:oT f):bZ f:=λx a=>by
 obtain ⟨r,c,rfl,b⟩:=h;rcases Mn.mp a with z|z
 .rw [z];rfl
 .exact b x z
def Br:List D->D->Prop:=λds d=>∃f,ds=[.tup f]/\oT f/\d=.bl true
def y4:List D->D->Prop:=λds d=>∃as,ds=[cb as]/\CP as/\d=fY (a8 [] as)
def AH:List D->D->Prop:=λds d=>∃(pl:List Nat) (n m:Nat),ds=[mM pl,.int (n:Int),.int (m:Int)]/\pl.length=n/\(∀i∈pl,i<m)/\d=.bl true
def mY (p q:List Int)(b:Bool):Prop:=(p=q/\b=false)\/∃(i:Nat) (x y:Int),p.take i=q.take i/\p[i]?=some x/\q[i]?=some y/\x≠y/\b=decide (x<y)
def Co:List D->D->Prop:=λds d=>∃(p q:List Int) (b:Bool),ds=[.lst (p.map D.int),.lst (q.map D.int)]/\p.length<=1000/\mY p q b/\d=.bl b
def xD:List Sl->D->Prop:=λss d=>∃a ps,ss=[.d (.tup a),.td ps]/\Cp a/\d=.bl (fh (ps.map (·.1)) a)
section
variable {G:Hp}{σ:St}{δ:List Sl}{ty:TE}{j:Nat}{ps:List (List D×D)}{key:List D}{d:D}
def bP.ur (e:bP G σ δ)(a:δ[j]?=some (.td ps)):bP G σ (δ.set j (.t ps))/\(δ.set j (.t ps))[j]?=some (.t ps):=⟨⟨by rw [NH];exact e.len,λi s q=>by
 rcases Oh q with ⟨rfl,rfl,_⟩|⟨_,h⟩
 .exact e.get _ (.td ps) a
 .exact e.get i s h⟩,Mr (Ma.mp a).1⟩
def bP.Lh (e:bP G σ δ)(a:δ[j]?=some (.td ps))(b:bZ key)(h:ae ty G σ (.tup key)):ae (qc ty (aU j)) G σ (.bl (decide (key∈ps.map (·.1)))):=(e.ur a).1.BY (e.ur a).2 b h
def bP.LF (e:bP G σ δ)(a:δ[j]?=some (.td ps))(b:bZ key)(h:ae ty G σ (.tup key)):ae (nP ty (aU j)) G σ (.bl (!decide (key∈ps.map (·.1)))):=(e.ur a).1.Lv (e.ur a).2 b h
end
structure eI (pool:List D):Prop where
 len:pool.length=3\/pool.length=10
 nodup:pool.Nodup
 gp:∀x∈pool,GP x
 nb:∀x∈pool,aB x=false
def rO.k(h:rO a):eI a:=⟨.inl h.len,h.nodup,h.gp,h.nb⟩
def tW:List D:=(List.range 10).map λ(k:Nat)=>D.int (0+(k:Int))
def KR:eI tW:=⟨.inr (by simp [tW]),Z9,λx a=>by obtain ⟨k,_,rfl⟩:=Mx.mp a;exact ue _,λx a=>by obtain ⟨k,_,rfl⟩:=Mx.mp a;rfl⟩
def EJ:D->List D
 |.lst l=>l|_=>[]
def jc (ms:List Int):List D:=if ms.getD 0 0%4=3 then tW else EJ ((on (ms.getD 1 0%1000)).getD (ms.getD 0 0/4%(4:Nat)).toNat .av)
def AS (a:List Int):eI (jc a):=by
 unfold jc;split
 .exact KR
 .obtain ⟨d,_,c,f⟩:=fI (l:=on<|a.getD 1 0%1000) (n:=4) (a.getD 0 0/4) Z1 rfl;obtain ⟨b,e,g⟩:=C7 (QG (a.getD 1 0) (show (1000:Int)≠0 by decide)) d c;rw [<-f,e];exact g.k
def vZ:List D->D->Prop:=λds d=>∃ms:List Int,ds=[.lst (ms.map D.int)]/\d=.lst (jc ms)
def AJ {x:D}(h:x.sc=true):(!sF x&& !gq x)=false:=by
 have:=Hj h;unfold B4 at this;revert this;cases sF x<;>cases gq x<;>simp
end FL
namespace FL
open PySem L2
def dG:List (Str×Nat):=[("road",2),("roam",2),("kin",2),("near",2),("mark",1),("rain",0)]
def jD:List (Str×Nat):=dG++([("less",2),("unlike",2)]:List (Str×Nat))
def ju (a:List D):Prop:=∃w xs,a=D.str w::xs/\(w,xs.length)∈jD/\∀x∈xs,GP x
def mR (pool h:List D):Prop:=∃w xs,h=D.str w::xs/\(w,xs.length)∈dG/\∀x∈xs,x∈pool\/x∈cX
def kf(h:(w,n)∈jD):ny (.str w)/\aB (.str w)=false/\n<=2/\(decide (D.str w=.str "less")||decide (D.str w=.str "unlike"))=decide ((w,n)∉dG)/\((w,n)∉dG->n=2):=by
 simp only [jD,dG,PL,OC,Mn,MR,M9,Prod.mk.injEq] at h;rcases h with ⟨rfl,rfl⟩|⟨rfl,rfl⟩|⟨rfl,rfl⟩|⟨rfl,rfl⟩|⟨rfl,rfl⟩|⟨rfl,rfl⟩|⟨rfl,rfl⟩|⟨rfl,rfl⟩<;>exact ⟨⟨by decide,_,_,rfl⟩,Z9,by decide,Z9,Z9⟩
def ju.at_(h:ju a):lI a:=by
 obtain ⟨w,f,rfl,b,c⟩:=h;obtain ⟨d,e,g,_⟩:=kf b;exact Ej d e c Z4
def ju.gd(h:ju a)(b:aJ a=true):∃r x y,a=[.str r,x,y]:=by
 obtain ⟨w,c,rfl,d,g⟩:=h;obtain ⟨_,_,_,e,f⟩:=kf d;have b:(decide (D.str w=.str "less")||decide (D.str w=.str "unlike"))=true:=b;rw [e] at b;have:=f<|MC b
 match c,this with
 |[x,y],_=>exact ⟨w,x,y,rfl⟩
structure dk (pool:List D)(r:bN):Prop where
 at_:∀a∈r.2,ju a
 hd:mR pool r.1
 hb:∀y∈r.1,aB y=true->∃a∈r.2,aJ a=false/\y∈a
 gb:∀g∈r.2,aJ g=true->∀y∈g,aB y=true->∃a∈r.2,aJ a=false/\y∈a
 dI:r.2.length<=3
def bY (body:List (List D)):List (List D):=body.filter λa=> !aJ a
def mP{b:ZW}(h:∃a∈b,aJ a=false/\y∈a)(c:aB y=true):y.name∈a8 [] (bY b):=by
 obtain ⟨a,d,e,f⟩:=h;exact nv (Mq.mpr ⟨d,by rw [e];rfl⟩) f c
def dk.bi(h:dk b r):BI (bY r.2) r.2:=by
 refine ⟨rfl,λa d=>(h.at_ a d).at_,λg c e=>?_,MF (MO _ _) h.dI⟩;obtain ⟨w,x,y,rfl⟩:=(h.at_ g c).gd e;have f:=(h.at_ _ c).at_.hd;exact ⟨⟨w,x,y,rfl⟩,DQ f (λq=>mP (h.gb _ c e x Z8 q) q) λq=>mP (h.gb _ c e y Z8 q) q⟩
theorem mR.sc(a:eI pool)(k:mR pool h):(∀x∈h,x.sc=true)/\h.length<=3:=by
 obtain ⟨w,e,rfl,b,c⟩:=k;have f:=(kf<|Ms _ b).2.2.1;refine ⟨λx d=>?_,by rw [MN];omega⟩;rcases Mn.mp d with z|z
 .rw [z];rfl
 .rcases c x z with q|q
  .exact (a.gp x q).1
  .exact (pY x q).1
def kb(h:(w,2)∈jD)(a:GP x)(b:GP y):ju [.str w,x,y]:=⟨w,[x,y],rfl,h,by simp [a,b]⟩
def KL(h:(w,1)∈jD)(a:GP x):ju [.str w,x]:=⟨w,[x],rfl,h,by simp [a]⟩
def dz{a:ZZ}(h:(w,2)∈dG)(b:x∈a\/x∈cX)(c:y∈a\/y∈cX):mR a [.str w,x,y]:=⟨w,[x,y],rfl,h,by simp [b,c]⟩
def vt{a:ZZ}(h:(w,1)∈dG)(b:x∈a\/x∈cX):mR a [.str w,x]:=⟨w,[x],rfl,h,by simp [b]⟩
def kS:mR a [.str "rain"]:=⟨"rain",[],rfl,by simp [dG],by simp⟩
def vX (one two:D)(l r h:List D)(u v:D):List bN:=[
 ([.str "roam",.str "X",.str "Xy"],[[.str "road",.str "X",.str "Xy"]]),
 ([.str "roam",.str "X",.str "Z"],[[.str "roam",.str "X",.str "Xy"],[.str "road",.str "Xy",.str "Z"]]),
 ([.str "mark",.str "Xy"],[[.str "mark",.str "X"],[.str "road",.str "X",.str "Xy"]]),
 ([.str "kin",.str "Xy",.str "X"],[[.str "kin",.str "X",.str "Xy"]]),
 ([.str "near",.str "X",.str "Xy"],[[.str "road",.str "X",.str "Z"],[.str "unlike",.str "X",.str "Xy"],[.str "road",.str "Xy",.str "Z"]]),
 ([.str "rain"],[[.str "mark",one],[.str "roam",.str "X",.str "X"]]),
 ([.str "roam",.str "X",.str "Z"],[[.str "roam",.str "X",.str "Xy"],[.str "roam",.str "Xy",.str "Z"]]),
 ([.str "mark",two],[[.str "rain"]]),
 ([.str "kin",.str "X",.str "Z"],[[.str "kin",.str "X",.str "Xy"],[.str "kin",.str "Xy",.str "Z"],[.str "unlike",.str "X",.str "Z"]]),
 ([.str "road",.str "X",.str "Xy"],[[.str "less",.str "X",.str "Xy"],[.str "kin",.str "X",.str "Xy"]]),
 ([.str "kin",.str "X",one],[[.str "mark",.str "X"],[.str "less",two,.int 3]]),
 ([.str "mark",one],[[.str "less",.int 0,.int 1]]),
 (h,[l,r]),
 (h,[l,[.str "less",u,v],r])]
def wb(h:w∈(["road","roam","kin","near","mark","rain","less","unlike"]:ZY)):aB (.str w)=false:=by
 simp only [Mn,MR,M9] at h;rcases h with rfl|rfl|rfl|rfl|rfl|rfl|rfl|rfl<;>decide+kernel
def wg:aJ (.str w::a)=(decide (w="less")||decide (w="unlike")):=by
 unfold aJ;simp
def pD:a∈a::l:=Mc
def iP{a:c}:b∈a::b::l:=L8 _ pD
def jC{a:d}:c∈a::b::c::l:=L8 _ iP
def iH:List Str:=["road","roam","kin"]
def J6(s:eI b)(E:f∈b)(G:g∈b)(L:k∈iH)(M:l∈iH)(N:C∈iH)(O:∀x∈[i,c,d,j],x∈b\/x∈cX)(gh:∀x∈[o,q],x∈[i,c,d,j]):
  ∀r∈vX f g [.str k,i,c] [.str l,d,j] [.str C,o,q] c d,dk b r:=by
 have Q:=s.gp f E;have T:=s.gp g G;have n1:=s.nb f E;have n2:=s.nb g G;have n:∀x∈[i,c,d,j],GP x:=λx H=>(O x H).elim (s.gp x)<|pY x
 have b1:=wb (w:="road") Z8;have b2:=wb (w:="roam") Z8;have b3:=wb (w:="kin") Z8;have b4:=wb (w:="near") Z8;have b5:=wb (w:="mark") Z8;have b6:=wb (w:="rain") Z8;have b7:=wb (w:="less") Z8;have b8:=wb (w:="unlike") Z8;have U:∀w∈iH,(w,2)∈dG/\aB (.str w)=false/\¬w="less"/\¬w="unlike":=λw hw=>by
  simp only [iH,Mn,MR,M9] at hw;rcases hw with rfl|rfl|rfl
  .exact ⟨by simp [dG],b1,by decide,by decide⟩
  .exact ⟨by simp [dG],b2,by decide,by decide⟩
  .exact ⟨by simp [dG],b3,by decide,by decide⟩
 obtain ⟨Y,aj,t,u⟩:=U k L;obtain ⟨ac,am,v,y⟩:=U l M;obtain ⟨af,an,ao,as⟩:=U C N;have lB:∀{p:Str×Nat},p∈dG->p∈jD:=λh=>Ms _ h;have A:=gh o Z8;have B:=gh q Z8;have xX:D.str "X"∈cX:=by simp [cX]
 have xY:D.str "Xy"∈cX:=by simp [cX]
 have xZ:D.str "Z"∈cX:=by simp [cX]
 have A0:ju [.str "rain"]:=⟨"rain",[],rfl,by simp [jD,dG],by simp⟩
 have hl:=kb (lB Y) (n i Z8)<|n c Z8
 have hr:=kb (lB ac) (n d Z8)<|n j Z8
 have hg:ju [.str "less",c,d]:=kb (by simp [jD]) (n c Z8)<|n d Z8
 have hh:mR b [.str C,o,q]:=dz af (O o A)<|O q B
 have e:∀{m:ZW},[D.str k,i,c]∈m->[D.str l,d,j]∈m->∀x∈[i,c,d,j],∃a∈m,aJ a=false/\x∈a:=λ{m} m1 m2 x H=>by
  have I:aJ [D.str k,i,c]=false:=by rw [wg];simp [t,u]
  have J:aJ [D.str l,d,j]=false:=by rw [wg];simp [v,y]
  simp only [Mn,MR,M9] at H;rcases H with rfl|rfl|rfl|rfl
  .exact ⟨_,m1,I,by simp⟩
  .exact ⟨_,m1,I,by simp⟩
  .exact ⟨_,m2,J,by simp⟩
  .exact ⟨_,m2,J,by simp⟩
 have no:∀{x:D} {p:Prop},aB x=false->aB x=true->p:=λh z=>by rw [h] at z;cases z
 have I:¬aJ [D.str k,i,c]=true:=by rw [wg];simp [t,u]
 have J:¬aJ [D.str l,d,j]=true:=by rw [wg];simp [v,y]
 intro r hm;simp only [vX,Mn,MR,M9] at hm;rcases hm with rfl|rfl|rfl|rfl|rfl|rfl|rfl|rfl|rfl|rfl|rfl|rfl|rfl|rfl
 all_goals refine ⟨?_,?_,?_,?_,by simp⟩
 all_goals dsimp only
 all_goals first
  |exact hh
  |exact kS
  |(refine dz (by simp [dG]) ?_ ?_<;>simp [cX,E,G])
  |(refine vt (by simp [dG]) ?_<;>simp [cX,E,G])
  |skip
 all_goals simp only [List.forall_mem_cons,MR,false_imp_iff,implies_true,and_true]
 all_goals repeat' apply And.intro
 all_goals first
  |exact hl
  |exact hr
  |exact hg
  |exact A0
  |exact kb (by simp [jD,dG]) (by first|exact rX|exact qK|exact sZ|exact ue _|exact Q|exact T) (by first|exact rX|exact qK|exact sZ|exact ue _|exact Q|exact T)
  |exact KL (by simp [jD,dG]) (by first|exact rX|exact qK|exact sZ|exact Q|exact T)
  |exact no (by first|assumption|rfl)
  |exact λ_=>⟨_,pD,by rw [wg];decide+kernel,iP⟩
  |exact λ_=>⟨_,pD,by rw [wg];decide+kernel,jC⟩
  |exact λ_=>⟨_,iP,by rw [wg];decide+kernel,iP⟩
  |exact λ_=>⟨_,iP,by rw [wg];decide+kernel,jC⟩
  |exact λ_=>⟨_,jC,by rw [wg];decide+kernel,iP⟩
  |exact λ_=>⟨_,jC,by rw [wg];decide+kernel,jC⟩
  |exact λ_=>e Z8 Z8 _ A
  |exact λ_=>e Z8 Z8 _ B
  |exact λz=>absurd z I
  |exact λz=>absurd z J
  |(intro z;rw [wg] at z;exact absurd z Z9)
  |skip
 all_goals intro _
 all_goals repeat' apply And.intro
 all_goals first
  |exact no (by first|assumption|rfl)
  |exact λ_=>⟨_,pD,by rw [wg];decide+kernel,iP⟩
  |exact λ_=>⟨_,pD,by rw [wg];decide+kernel,jC⟩
  |exact λ_=>⟨_,iP,by rw [wg];decide+kernel,iP⟩
  |exact λ_=>⟨_,iP,by rw [wg];decide+kernel,jC⟩
  |exact λ_=>⟨_,jC,by rw [wg];decide+kernel,iP⟩
  |exact λ_=>⟨_,jC,by rw [wg];decide+kernel,jC⟩
  |exact λ_=>e Z8 Z8 _ Z8
def jX (w:Str)(xs:List D):bN:=(.str w::xs,[])
def uW{c:ZZ}(f:eI b)(h:(w,c.length)∈dG)(e:∀x∈c,x∈b):dk b (jX w c):=by
 refine ⟨(λa d=>nomatch d),⟨w,c,rfl,h,λx q=>.inl<|e x q⟩,λy g q=>?_,(λa d=>nomatch d),MI _⟩;rcases Mn.mp g with z|z
 .rw [z,(kf<|Ms _ h).2.1] at q;cases q
 .rw [f.nb y<|e y z] at q;cases q
theorem vA:∀{a:ZZ},bZ a->D.fy a=0
 |[],_=>by simp [D.fy]
 |x::r,h=>by
  have b:=h x Mc;have c:=vA (a:=r) λy d=>h y<|L8 _ d
  rw [D.fy,c];cases x<;>first|rfl|(simp [D.sc] at b)
theorem sq:∀{l m:ZW},(∀a∈l,bZ a)->(∀a∈m,bZ a)->gg (l.map D.tup) (m.map D.tup)=true/\D.fy (l.map D.tup)<=1
 |[],m,_,_=>⟨by simp [gg],by simp [D.fy]⟩
 |a::l,m,h,k=>by
  have d:=h a Mc;have e:D.fy ((a::l).map D.tup)<=1:=by
   rw [MW,D.fy,D.cN,vA d];exact Nat.max_le.mpr ⟨Mh _,(sq (l:=l) (m:=[]) (λx c=>h x<|L8 _ c) λx c=>nomatch c).2⟩
  cases m with
  |nil=>exact ⟨by simp [gg],e⟩
  |cons b m=>
   refine ⟨?_,e⟩;rw [MW,MW,gg,(pS d<|k b Mc).1];exact (sq (l:=l) (m:=m) (λx c=>h x<|L8 _ c) λx c=>k x<|L8 _ c).1
def Gb {r s:bN}(b:bZ r.1)(c:∀a∈r.2,bZ a)(d:bZ s.1)(e:∀a∈s.2,bZ a):cw (aY r) (aY s)=true/\(aY r).cN<=40:=by
 obtain ⟨f,g⟩:=sq c e;unfold aY cb;refine ⟨?_,?_⟩
 .rw [cw,gg,(pS b d).1,gg,cw,f]
  simp [gg]
 .rw [D.cN,D.fy,D.cN,vA b,D.fy,D.cN,D.fy]
  simp only [Nat.max_def];split<;>split<;>omega
def DZ(h:aY r=aY s):r=s:=by
 unfold aY cb at h;injection h with h
 injection h with d c;injection d with d;injection c with c _;injection c with c;have:r.2=s.2:=(Qh λa b e=>by injection e).mp c;exact Prod.ext d this
theorem dk.sc(b:eI pool)(h:dk pool r):bZ r.1/\∀a∈r.2,bZ a:=⟨(h.hd.sc b).1,λa c x d=>((h.at_ a c).at_.ok x d).1⟩
def Kj {r:bN}(c:bZ r.1)(d:∀a∈r.2,bZ a):(aY r).fG=true:=rh λx b=>by
 simp only [Mn,MR,M9] at b;rcases b with rfl|rfl
 .exact iW c
 .exact rh λy e=>by
   obtain ⟨a,f,rfl⟩:=Mx.mp e;exact iW<|d a f
def wU:bN:=([.str "mark",.str "Xy"],[[.str "mark",.str "X"],[.str "road",.str "X",.str "Xy"]])
def tP (pool:List D)(r:bN):Prop:=r=wU\/(∃x∈pool,∃y∈pool,r=jX "road" [x,y])\/∃x∈pool,r=jX "mark" [x]
structure ia (pool:List D)(rs:List bN):Prop where
 ok:∀r∈rs,dk pool r
 uo:pool.length=10->∀r∈rs,tP pool r
 nd:rs.Nodup
def ia.snoc(h:ia c d)(g:dk c r)(i:c.length=10->tP c r)(j:r∉d):ia c (d++[r]):=by
 refine ⟨λx f=>?_,λe x f=>?_,?_⟩
 .rcases MB.mp f with z|z
  .exact h.ok x z
  .rw [MG.mp z];exact g
 .rcases MB.mp f with z|z
  .exact h.uo e x z
  .rw [MG.mp z];exact i e
 .rw [OT]
  exact ⟨h.nd,by simp,λa k b l e=>j (by rw [MG.mp l] at e;rw [<-e];exact k)⟩
def Bh (ds:List D):Prop:=∃seed pool a b c,ds=[.int seed,.lst pool,.int a,.int b,.int c]/\eI pool
def Ai (ds:List D)(d:D):Prop:=∃seed pool a b c,∃rs:List bN,ds=[.int seed,.lst pool,.int a,.int b,.int c]/\d=.lst (rs.map aY)/\rs.length=14/\(∀r∈rs,dk pool r)/\rs[2]?=some wU
def Am (ds:List D):Prop:=∃ms:List Int,ds=[.lst (ms.map D.int)]/\ms.length<=1000
def zv (ds:List D)(d:D):Prop:=∃(ms:List Int) (rs:List bN),ds=[.lst (ms.map D.int)]/\d=.lst (rs.map aY)/\ia (jc ms) rs/\rs.length<=30
def G9 {xs:List V}(k n:Nat):gS xs (some (k:Int)) (some ((k+n:Nat):Int))=(xs.drop k).take n:=by
 unfold gS;rw [HT.qy,HT.qy];by_cases h:k<=xs.length
 .rw [O7 h]
  by_cases h2:k+n<=xs.length
  .rw [O7 h2,Ou]
  .rw [Py Z4,MQ Z8,MQ (by rw [OQ];omega)]
 .rw [Py (show xs.length<=k by omega),OA (Mh _),OA Z4,QV,QV]
def EC{K:W.Frag}{k n m:Nat}(g:m=k+n)(h:ae c G b (.lst l)):ae (wB (B3 K) c (su (tC (.int (k:Int)))) (su (tC (.int (m:Int))))) G b (.lst ((l.drop k).take n)):=
 λM H s d Q q=>h M H s d _ λx t e i=>⟨(k:Int),rfl,(m:Int),rfl,by
  obtain ⟨a,j,rfl,o,r⟩:=i.dX;refine ⟨a,j,rfl,aN.of (aw o).2,λp f=>?_⟩;rw [g,G9];exact q _ _ (e.trans<|da f _)<|oX (d.same e) f<|(r.drop k).take n⟩
end FL
namespace FL
open PySem L2
section
variable {B:Hp}{M0:List Addr}{δ:List Sl}{E:Ends}{te:TE}{d1 d2:D}
def DI{K:W.Frag}(h:∀G a,ax G a (δ.map Sl.dat)->ae te G a (.tup [d1,d2]))(k:aX B M0 ((δ.set i (.d d1)).set i' (.d d2)) E.nx):aX B M0 δ (eF te (lU K 2 (iV (cx i) (iV (cx i') oh))) E):=λc a H b=>
 (h _ a b.jj).at b.gI λv e s r=>mo r λj l f g=>k c _ e<|((b.grow s).set i f).set i' g
def c9.IH(d:n<=1000)(h:∀G c,bP G c δ->dJ t G c [.int 1,.int ((n+1:Nat):Int)]):c9 B M0 δ (w8 t) ((List.range n).map λ(k:Nat)=>D.int (1+k)):=by
 have:=c9.Jc (B:=B) (M0:=M0) (a:=1) (b:=((n+1:Nat):Int)) ⟨by decide,by decide⟩ ⟨by omega,by omega⟩ h;rw [show (((n+1:Nat):Int)-1).toNat=n by omega] at this;exact this
end
structure vw (pool:List D)(rules:List bN)(facts:List (List D))(x:bD)(r:bN)(V:Str->D):Prop where
 at_:rules[x.2.1]?=some r
 rk:dk pool r
 pk:eI pool
 Le:dY facts V (bY r.2) x.2.2
 sc:∀b∈a8 [] (bY r.2),(V b).sc=true
 gs:O5.gN (r.2.filter aJ) (ar V (a8 [] (bY r.2)))=true
 hd:x.1=r.1.map (a6 V)
 fd:oT x.1
def CK:List D->D->Prop:=λds d=>∃(x:bD) (pool:List D) (rules:List bN) (facts:List (List D)) (r:bN) (V:Str->D),ds=[cU x,.lst (rules.map aY),cF facts]/\vw pool rules facts x r V/\d=.bl true
def gm (a:List D):List Str:=((a.tail.filter aB).map D.name)
def Jz {c:ZW}:cB (c.flatMap gm):=λb d=>by
 obtain ⟨a,_,h⟩:=Nm.mp d;obtain ⟨x,e,rfl⟩:=Mx.mp h;have:=(Mq.mp e).2;rw [<-iD this];exact this
def F0{b:ZW}(d:a∈b)(e:aB (a.headD .av)=false)(c:x∈a)(h:aB x=true):x.name∈b.flatMap gm:=by
 refine Nm.mpr ⟨a,d,Mx.mpr ⟨x,Mq.mpr ⟨?_,h⟩,rfl⟩⟩;cases a with
 |nil=>cases c
 |cons y r=>
  rcases Mn.mp c with z|z
  .have:aB y=false:=e;rw [z,this] at h;cases h
  .exact z
def Gg (V:Str->D)(L:ZY)(n:Str):ar V L++[(n,V n)]=ar V (L++[n]):=by unfold ar;rw [MK];rfl
def G7 {b c:Type}(f:b->List c){l:List b}{j:Nat}{a:b}(h:l[j]?=some a):(l.take (j+1)).flatMap f=(l.take j).flatMap f++f a:=by
 rw [MX,h,Pr];simp
def G3 {a:ZZ}{j:Nat}{x:D}(h:a[j]?=some x):((a.take (j+1)).filter aB).map D.name=((a.take j).filter aB).map D.name++(if aB x=true then [x.name] else []):=by
 rw [MX,h,Nu,MK];congr 1;by_cases e:aB x=true
 .simp [e]
 .simp [e]
def HK {as:ZW}(h:∀a∈as,a.length<=10):(as.flatMap gm).length<=10*as.length:=by
 induction as with
 |nil=>simp
 |cons a r b=>
  have d:=b λx c=>h x<|L8 _ c
  have e:=h a Mc;have f:(gm a).length<=10:=by
   unfold gm;rw [Md];exact MF (MO _ _) (by rw [List.length_tail];omega)
  rw [Nf,Mv,MN];omega
def rW{V:Str->D}(h:aB x=true):a6 V x=V x.name:=by unfold a6;rw [Mp h]
end FL
namespace FL
open PySem L2
section
variable {B:Hp}{M0 own:List Addr}{σ:St}{H:Hp}{δ:List Sl}{E:Ends}{te:TE}{d:D}
def Bx.free (b:Bx B M0 own σ H δ)(h:∀s∈δ,s.own=false):Bx B M0 [] σ H δ:=by
 refine ⟨b.len,b.same,b.iq,(λa e=>nomatch e),λi s q=>?_,λi j s t a _ f _ c _ _ _=>?_⟩
 .have w:=b.wide.get i s q;have:=h s<|Mi q
  cases s with
  |no=>trivial
  |d x=>exact w
  |kd x=>exact w
  |td x=>exact w
  |l x=>cases this
  |k x=>cases this
  |t x=>cases this
 .rw [h s<|Mi f] at c;cases c
end
def fS (k:Nat)(places:List Nat):List Int:=(k:Int)::places.map λn=>((n:Nat):Int)
def HA {d:ZW}(g:∀a∈d,lI a):(a8 [] d).length<=3:=by
 have i:∀b∈(a8 [] d).map D.str,b∈cX:=λb j=>by
  obtain ⟨c,k,rfl⟩:=Mx.mp j;exact (Hh g k).1
 have h:=qv (FO (f:=D.str) (x9 (as:=d) OS) λx _ y _ e=>by injection e) i;rw [Md] at h;exact h
end FL
namespace FL
open PySem PySem.Spec L2
section
variable {X:Cx}{pins:List (Addr×Obj)}{σ:St}{H:Hp}{s:Shared}{A:Around}{E:Value->Shared->Prop}{Q:Value->Shared->Prop}{b:Bool}
end
mutual
def D.plain:D->Bool
 |.int _=>true
 |.str _=>true
 |.tup l=>D.xc l
 |.lst l=>D.xc l
 |_=>false
def D.xc:List D->Bool
 |[]=>true
 |a::r=>D.plain a&&D.xc r
end
mutual
def D.sz:D->Nat
 |.tup l=>D.uQ l+1
 |.lst l=>D.uQ l+1
 |_=>1
def D.uQ:List D->Nat
 |[]=>0
 |a::r=>D.sz a+D.uQ r
end
end FL
namespace FL
open PySem L2
def gf (pool f:List D):Prop:=∃w xs,f=D.str w::xs/\(w,xs.length)∈dG/\∀x∈xs,x∈pool
structure CO (pool:List D)(facts:List (List D)):Prop where
 hd:∀f∈facts,gf pool f
 nd:facts.Nodup
 dI:facts.length<=150
def gf.flat(d:eI a)(h:gf a f):ja f/\gc f/\oT f:=by
 obtain ⟨w,c,rfl,j,e⟩:=h;have g:∀x∈c,x.sc=true:=λx b=>(d.gp x<|e x b).1;have i:bZ (D.str w::c):=λx b=>by
  rcases Mn.mp b with z|z
  .rw [z];rfl
  .exact g x z
 refine ⟨⟨(λz=>nomatch z),i⟩,⟨i,λx b=>?_⟩,⟨w,c,rfl,g⟩⟩;rcases Mn.mp b with z|z
 .rw [z];exact (kf<|Ms _ j).2.1
 .exact d.nb x<|e x z
def oA (pool:List D):List (List D):=((["road","roam","kin","near"]:List Str).flatMap λw=>pool.flatMap λx=>pool.map λy=>[D.str w,x,y])++(pool.map λx=>[D.str "mark",x])++[[D.str "rain"]]
theorem oI(f:b->List c):∀l:List b,(∀x∈l,(f x).length=n)->(l.flatMap f).length=l.length*n
 |[],_=>by simp
 |a::r,h=>by
  rw [Nf,Mv,h a Mc,oI f r λx d=>h x<|L8 _ d,MN,QF,QZ]
def HG {a:ZZ}(h:a.length<=10):(oA a).length<=411:=by
 unfold oA;rw [Mv,Mv,Md,oI (n:=a.length*a.length) _ _ λw _=>oI (n:=a.length) _ _ λx _=>by rw [Md]];have:a.length*a.length<=10*10:=Nat.mul_le_mul h h;show 4*_+_+1<=411;omega
def gf.mem(h:gf a f):f∈oA a:=by
 obtain ⟨w,d,rfl,g,c⟩:=h;have b:w∈(["road","roam","kin","near"]:ZY)->d.length=2->D.str w::d∈oA a:=λi j=>by
  match d,j,c with
  |[x,y],_,c=>exact Ms _<|Ms _<|Nm.mpr ⟨w,i,Nm.mpr ⟨x,c x Z8,Mx.mpr ⟨y,c y Z8,rfl⟩⟩⟩
 simp only [dG,Mn,MR,M9,Prod.mk.injEq] at g;rcases g with ⟨rfl,e⟩|⟨rfl,e⟩|⟨rfl,e⟩|⟨rfl,e⟩|⟨rfl,e⟩|⟨rfl,e⟩
 .exact b Z8 e
 .exact b Z8 e
 .exact b Z8 e
 .exact b Z8 e
 .match d,e,c with
  |[x],_,c=>exact Ms _<|Ml _<|Mx.mpr ⟨x,c x Z8,rfl⟩
 .match d,e with
  |[],_=>exact Ml _ Z8
def CQ {pool:ZZ}{r:bN}{facts:ZW}(hr:dk pool r)(hF:∀f∈facts,gf pool f){w:aH}(hw:w∈fZ r.2 facts):
  ∃V,w.1=ar V (a8 [] (bY r.2))/\dY facts V (bY r.2) w.2/\O5.gN (r.2.filter aJ) (ar V (a8 [] (bY r.2)))=true/\bp r.1 w=r.1.map (a6 V)/\(∀b∈a8 [] (bY r.2),V b∈pool)/\gf pool (bp r.1 w):=by
 obtain ⟨V,e,hf,hg⟩:=hr.bi.mem hw;rw [e] at hg;have hV:∀b∈a8 [] (bY r.2),V b∈pool:=λb hb=>by
  rcases vp hb with z|⟨a,ha,x,hx,hx1,rfl⟩
  .cases z
  .obtain ⟨wd,xs,e1,_,hx2⟩:=hF _ (GK hf a ha);have A:=(hr.at_ a (Mq.mp ha).1).at_;cases a with
   |nil=>cases hx
   |cons y l=>
    have hy:aB y=false:=A.hd;rcases Mn.mp hx with z|z
    .rw [z,hy] at hx1;cases hx1
    .rw [MW] at e1
     injection e1 with _ e2;exact hx2 (V x.name) (by rw [<-e2];exact Mx.mpr ⟨x,z,rW hx1⟩)
 have hh:bp r.1 w=r.1.map (a6 V):=by
  unfold bp;rw [e];exact ML λx hx=>kJ (jv eX) λq=>mP (hr.hb x hx q) q
 obtain ⟨wd,xs,e1,h1,h2⟩:=hr.hd;have hwd:=(kf (Ms _ h1)).2.1;refine ⟨V,e,hf,hg,hh,hV,wd,xs.map (a6 V),?_,by rw [Md];exact h1,λx hx=>?_⟩
 .rw [hh,e1,MW]
  congr 1;unfold a6;rw [Mj (by rw [hwd];exact Mm)]
 .obtain ⟨y,hy,rfl⟩:=Mx.mp hx;by_cases q:aB y=true
  .rw [rW q]
   exact hV _ (mP (hr.hb y (by rw [e1];exact L8 _ hy) q) q)
  .unfold a6;rw [Mj q];rcases h2 y hy with z|z
   .exact z
   .exact absurd (by rw [(pY y z).2.2];exact My z) q
theorem vE:∀(b:ZW) (B:ZY) (W:ZW),(cP b B W).length=b.length/\∀s∈cP b B W,s.cJ∈b/\s.of=[]
 |[],_,_=>⟨rfl,λs c=>nomatch c⟩
 |a::r,B,W=>by
  obtain ⟨e,d⟩:=vE r (ak B a)<|W.filter λg=> !cz g (ak B a);refine ⟨by rw [cP,MN,e,MN],λs c=>?_⟩;rw [cP] at c;rcases Mn.mp c with z|z
  .rw [z];exact ⟨Mc,rfl⟩
  .exact ⟨L8 _ (d s z).1,(d s z).2⟩
def cD (rules:List bN)(facts:List (List D)):List (List D×List aH):=rules.map λr=>(r.1,fZ r.2 facts)
def BK (a:List bN)(b:ZW):fz a (a.map λr=>bR r.2) b=cD a b:=by
 unfold fz cD;induction a with
 |nil=>rfl
 |cons r l c=>rw [MW,List.zip_cons_cons,MW,c,MW];rfl
section
variable {pool:List D}{rules:List bN}{facts:List (List D)}
def sC (hR:∀r∈rules,dk pool r)(hF:∀f∈facts,gf pool f){T:ZW}{x:bD}(hx:x∈bf 0 (cD rules facts) T):x.1∉T/\gf pool x.1/\∃r w V,rules[x.2.1]?=some r/\w∈fZ r.2 facts/\x.1=bp r.1 w/\x.2.2=w.2/\dY facts V (bY r.2) x.2.2/\O5.gN (r.2.filter aJ) (ar V (a8 [] (bY r.2)))=true/\x.1=r.1.map (a6 V)/\∀b∈a8 [] (bY r.2),V b∈pool:=by
 obtain ⟨h1,i,q,hq,hi,w,hw,e1,e2⟩:=qe _ _ _ _ hx;unfold cD at hq;rw [Mo] at hq;obtain ⟨r,hr,rfl⟩:=M8.mp hq;have hrk:=hR r (Mi hr);obtain ⟨V,v1,v2,v3,v4,v5,v6⟩:=CQ hrk hF hw;refine ⟨h1,by rw [e1];exact v6,r,w,V,by rw [hi,Og];exact hr,hw,e1,e2,by rw [e2];exact v2,v3,by rw [e1];exact v4,v5⟩
def Ji(a:eI pool)(c:∀r∈rules,dk pool r)(e:∀f∈facts,gf pool f)(g:x∈bf 0 (cD rules facts) T):∃r V,vw pool rules facts x r V:=by
 obtain ⟨_,h,r,w,V,d,_,_,_,i,j,k,l⟩:=sC c e g;exact ⟨r,V,d,c r<|Mi d,a,i,λb m=>(a.gp _<|l b m).1,j,k,(h.flat a).2.2⟩
def LU (a:∀r∈rules,dk pool r)(b:∀f∈facts,gf pool f)(c:pool.length<=10)(T:ZW):(aV (bf 0 (cD rules facts) T)).length<=411:=
 MF (qv (vh _ _ _) λf d=>by
  obtain ⟨x,e,rfl⟩:=Mx.mp d;exact (sC a b e).2.1.mem) (HG c)
def eI.le (h:eI pool):pool.length<=10:=by rcases h.len with z|z<;>omega
def EN (c:eI pool)(e:∀r∈rules,dk pool r)(b:CO pool facts):qY rules (rules.map λr=>bR r.2) [] facts:=by
 have h:∀g∈facts,ja g/\gc g:=λg d=>⟨((b.hd g d).flat c).1,((b.hd g d).flat c).2.1⟩
 have w:=b.dI;refine ⟨h,(λg d=>nomatch d),λl m=>?_,λj r l i k=>?_,by rw [Md],?_⟩
 .obtain ⟨r,n,rfl⟩:=Mx.mp m;have a:=e r n;obtain ⟨o,p⟩:=vE (bY r.2) []<|(r.2.filter aJ).filter dj;have x:=a.bi.nM;refine ⟨?_,?_,λs f=>?_⟩
  .show (cP _ _ _).length<=100;exact MF (QB o) Z4
  .show 0+facts.length<2^60;omega
  .obtain ⟨t,u⟩:=p s f;rw [u];refine ⟨(a.at_ _ (Mq.mp t).1).at_.lM,?_⟩;show 0+facts.length<1000;omega
 .rw [Mo,i] at k
  cases k;have a:=e r<|Mi i
  have f:=a.hd.sc c;have z:=a.dI;exact ⟨_,_,zP a.bi rfl h Z4 Z4 f.1 Z4 λy v q=>mP (a.hb y v q) q,AG a.bi rfl Z4⟩
 .rw [BK,Mv,zF facts [] (by rw [OC];exact b.nd),OC]
  have:=LU e b.hd c.le facts;omega
theorem z7:∀{p q:List Nat},gR p q->∃(i x y:Nat),p.take i=q.take i/\p[i]?=some x/\q[i]?=some y/\x<y
 |[],_,h=>h.elim
 |_::_,[],h=>h.elim
 |a::p,b::q,h=>by
  rcases h with h|⟨rfl,h⟩
  .exact ⟨0,a,b,rfl,rfl,rfl,h⟩
  .obtain ⟨i,x,y,c,d,e,f⟩:=z7 h;exact ⟨i+1,x,y,by rw [Ny,Ny,c],d,e,f⟩
def FX(h:k≠n):mY (fS k p) (fS n q) (decide ((k:Int)<(n:Int))):=.inr ⟨0,k,n,rfl,rfl,rfl,by omega,rfl⟩
def Gm(h:gR p q):mY (fS k p) (fS k q) true/\mY (fS k q) (fS k p) false:=by
 obtain ⟨i,x,y,c,a,b,d⟩:=z7 h;have e:∀{l:List Nat} {z:Nat},l[i]?=some z->(fS k l)[i+1]?=some (z:Int):=λ{l z} h=>by
  unfold fS;rw [List.getElem?_cons_succ,Mo,h];rfl
 have t:(fS k p).take (i+1)=(fS k q).take (i+1):=by
  unfold fS;rw [Ny,Ny,<-PF,<-PF,c]
 exact ⟨.inr ⟨i+1,x,y,t,e a,e b,by omega,by rw [My Z4]⟩,.inr ⟨i+1,y,x,t.symm,e b,e a,by omega,by rw [MH Z4]⟩⟩
def GO(h:px x y):mY (fS x.2.1 x.2.2) (fS y.2.1 y.2.2) true:=by
 rcases h with z|⟨z,w⟩
 .have:=FX (p:=x.2.2) (q:=y.2.2) (show x.2.1≠y.2.1 by omega);rw [My Z4] at this;exact this
 .rw [z];exact (Gm w).1
def FW (a:∀r∈rules,dk pool r)(T:ZW):(bf 0 (cD rules facts) T).Pairwise px:=C6 _ _ _ λq b=>by
 obtain ⟨r,c,rfl⟩:=Mx.mp b;exact (a r c).bi.inc facts
def IY (f:dk pool r)(l:c∈dy pool (a8 [] r.2) [[]])(m:nW facts r.2 c=true):∃w,w∈fZ r.2 facts/\w.2=(bY r.2).map (λa=>facts.idxOf (eE c a))/\bp r.1 w=eE c r.1:=by
 have i:=f.bi;obtain ⟨V,rfl,y⟩:=(FP<|x9 OS).mp l;have j:cB (a8 [] r.2):=jv eX;have b:∀a∈r.2,∀x∈a,aB x=true->x.name∈a8 [] r.2:=λa d x g e=>nv d g e;obtain ⟨n,o⟩:=(Ko i j b).mp m;have k:∀a∈bY r.2,eE (ar V<|a8 [] r.2) a=a.map (a6 V):=λa d=>by
  have A:=(f.at_ a (Mq.mp d).1).at_;exact qB j A.ne A.hd<|b a (Mq.mp d).1
 refine ⟨(ar V<|a8 []<|bY r.2,(bY r.2).map λa=>facts.idxOf<|eE (ar V<|a8 [] r.2) a),?_,rfl,?_⟩
 .rw [i.mV]
  refine Mq.mpr ⟨(pp i.good).mpr ⟨V,rfl,?_⟩,o⟩;unfold dY;rw [MU];refine ML λa d=>?_;show facts[facts.idxOf<|eE (ar V<|a8 [] r.2) a]?=some (a.map<|a6 V);rw [k a d];have p:=n a d;have h:=List.idxOf_lt_length_iff.mpr p;rw [Mb h,List.getElem_idxOf h]
 .obtain ⟨w,B,e,s,_⟩:=f.hd;have t:=(kf<|Ms _ s).2.1;rw [qB j (by rw [e];exact λz=>nomatch z) (by rw [e];exact t) λx g q=>by
   obtain ⟨a,u,_,v⟩:=f.hb x g q;exact nv u v q]
  unfold bp;exact ML λx g=>kJ (jv eX) λq=>mP (f.hb x g q) q
end
end FL
namespace FL
open PySem L2
def aG (ds:List (List bD)):List (List D):=aV ds.flatten
def jd (a b:List (List bD)):aG (a++b)=aG a++aG b:=by unfold aG;rw [Nn,oC]
def jO (r:List bD):aG [r]=aV r:=by unfold aG;rw [Nd,NO,MP]
def BS {a:List (List bD)}{i:Nat}{r:List bD}(h:a[i]?=some r):aG (a.take (i+1))=aG (a.take i)++aV r:=by
 rw [MX,h,jd];congr 1;exact jO r
def D0 (a:List (List bD))(i:Nat):∃G,aG a=aG (a.take i)++G:=⟨aG<|a.drop i,by rw [<-jd,N8]⟩
def Cu(h:dk a r)(d:w∈fZ r.2 (A++N))(f:dg A.length w=false):w∈fZ r.2 A:=by
 have b:=h.bi;rw [b.mV] at d⊢;obtain ⟨i,j⟩:=Mq.mp d;refine Mq.mpr ⟨?_,j⟩;obtain ⟨V,e,g⟩:=(pp b.good).mp i;refine (pp b.good).mpr ⟨V,e,?_⟩;unfold dY at g⊢;rw [<-g];refine ML λp k=>?_;have c:p<A.length:=by
  unfold dg at f;have:=OI.mp f p k;exact Nat.lt_of_not_le λz=>this<|My z
 rw [ME c]
def F8{V:Str->D}(h:dY A V c b):dY (A++N) V c b:=by
 unfold dY at h⊢;rw [<-h];refine ML λp d=>?_;have:A[p]?∈b.map λi=>A[i]?:=Mx.mpr ⟨p,d,rfl⟩;rw [h] at this;obtain ⟨a,_,e⟩:=Mx.mp this;exact ME (Ma.mp e.symm).1
def ph (pool:List D):List (List D):=(pool.flatMap λx=>pool.map λy=>[D.str "road",x,y])++(pool.map λx=>[D.str "mark",x])
structure pX (pool f:List D):Prop where
 fin:gf pool f
 uo:pool.length=10->f∈ph pool
def zU(h:(w,n)∈dG)(k:(dG.all λp=>decide (p.1=w->p.2=m))=true):n=m:=MC (OM.mp k _ h) rfl
def JT{b:ZW}(m:dk a r)(n:tP a r)(o:∀f∈b,gf a f)(p:w∈fZ r.2 b):bp r.1 w∈ph a:=by
 obtain ⟨V,_,_,_,t,_,d,g,e,l,c⟩:=CQ m o p;have i:∀s:Str,aB (.str s)=false->a6 V (.str s)=.str s:=λs h=>by unfold a6;rw [Mj (by rw [h];exact Mm)]
 have j:d="road"\/d="mark":=by
  rw [t] at e;rcases n with rfl|⟨x,_,y,_,rfl⟩|⟨x,_,rfl⟩
  .have q:a6 V (.str "mark")=.str d:=(Oj e).1;rw [i _ Z9] at q;injection q with q
   exact .inr q.symm
  .have q:a6 V (.str "road")=.str d:=(Oj e).1;rw [i _ Z9] at q;injection q with q
   exact .inl q.symm
  .have q:a6 V (.str "mark")=.str d:=(Oj e).1;rw [i _ Z9] at q;injection q with q
   exact .inr q.symm
 rw [e];unfold ph;rcases j with rfl|rfl
 .have k:g.length=2:=zU l Z9
  match g,k,c with
  |[x,y],_,c=>exact Ms _<|Nm.mpr ⟨x,c x Z8,Mx.mpr ⟨y,c y Z8,rfl⟩⟩
 .have k:g.length=1:=zU l Z9
  match g,k,c with
  |[x],_,c=>exact Ml _<|Mx.mpr ⟨x,c x Z8,rfl⟩
def Gf {a:ZZ}(h:a.length=10):(ph a).length=110:=by
 unfold ph;rw [Mv,oI (n:=10) _ _ λx _=>by rw [Md,h],Md,h]
def Jp {a:ZZ}(h:a.length=3):(oA a).length=40:=by
 unfold oA;rw [Mv,Mv,oI (n:=9) _ _ λw _=>by rw [oI (n:=3) _ _ λx _=>by rw [Md,h],h],Md,h];rfl
def nQ(e:eI a){F:ZW}(c:F.Nodup)(d:∀f∈F,pX a f):F.length<=110:=by
 rcases e.len with z|z
 .exact MF (qv c λf b=>(d f b).fin.mem) (by rw [Jp z];decide)
 .exact MF (qv c λf b=>(d f b).uo z) (by rw [Gf z];decide)
structure fQ (pool:List D)(rules:List bN)(ds:List (List bD)):Prop where
 step:∀(i:Nat) r,ds[i]?=some r->r=bf 0 (cD rules (aG (ds.take i))) (aG (ds.take i))/\r≠[]
 hd:∀f∈aG ds,pX pool f
 nd:(aG ds).Nodup
section
variable {pool:List D}{rules:List bN}{ds:List (List bD)}
def fQ.nil:fQ pool rules []:=⟨λi r h=>by simp at h,λf a=>(by cases a),OS⟩
def fQ.J9 (a:eI pool)(h:fQ pool rules ds):CO pool (aG ds):=⟨λf b=>(h.hd f b).fin,h.nd,MF (nQ a h.nd h.hd) Z1⟩
def CF(a:ia pool rules){F:ZW}(c:∀f∈F,pX pool f)(e:x∈bf 0 (cD rules F) F):x.1∉F/\pX pool x.1:=by
 obtain ⟨g,h,r,w,V,i,j,k,_⟩:=sC a.ok (λf b=>(c f b).fin) e;have d:=Mi i;exact ⟨g,h,λz=>by rw [k];exact JT (a.ok r d) (a.uo z r d) (λf b=>(c f b).fin) j⟩
def fQ.next (d:ia pool rules)(h:fQ pool rules ds):(∀f∈aG ds++aV (bf 0 (cD rules (aG ds)) (aG ds)),pX pool f)/\(aG ds++aV (bf 0 (cD rules (aG ds)) (aG ds))).Nodup:=by
 refine ⟨λf g=>?_,?_⟩
 .rcases MB.mp g with z|z
  .exact h.hd f z
  .obtain ⟨x,c,rfl⟩:=Mx.mp z;exact (CF d h.hd c).2
 .refine OT.mpr ⟨h.nd,vh _ _ _,λa i b j e=>?_⟩
  obtain ⟨x,c,rfl⟩:=Mx.mp j;exact (CF d h.hd c).1<|e▸i
def fQ.snoc (hR:ia pool rules)(h:fQ pool rules ds)(b:bf 0 (cD rules (aG ds)) (aG ds)≠[]):fQ pool rules (ds++[bf 0 (cD rules (aG ds)) (aG ds)]):=by
 obtain ⟨c,d⟩:=h.next hR;refine ⟨λi r a=>?_,by rw [jd,jO];exact c,by rw [jd,jO];exact d⟩;by_cases z:i<ds.length
 .rw [ME z] at a
  rw [NV<|ND z];exact h.step i r a
 .rw [MJ<|MV z] at a
  obtain ⟨q,e⟩:=Ma.mp a;rw [Nv] at q;have f:i=ds.length:=by omega
  subst f;rw [NV<|Mh _,NL];simp only [Q0,List.getElem_cons_zero] at e;rw [<-e];exact ⟨rfl,b⟩
def fQ.yO(h:fQ pool rules ds)(a:i<ds.length)(b:r∈rules)(c:w∈fZ r.2 (aG (ds.take i))):bp r.1 w∈aG (ds.take (i+1)):=by
 have e:=Mb a;obtain ⟨d,_⟩:=h.step i _ e;rw [BS e,d];rcases xE (cD rules<|aG<|ds.take i) 0 (aG<|ds.take i) (r.1,fZ r.2<|aG<|ds.take i) (Mx.mpr ⟨r,b,rfl⟩) w c with z|z
 .exact Ms _ z
 .exact Ml _ z
def gF (rules:List bN)(ds:List (List bD)):List bV:=rules.map λr=>fk (bR r.2) ([]::ds.map aV)
def tT (ds:List (List bD)):([]::ds.map aV).flatten=aG ds:=by
 rw [Nd,OC];unfold aG aV;rw [List.map_flatten]
def LI (rules:List bN)(ds:List (List bD))(r:List bD):(gF rules ds).map (λa=>bX a (aV r))=gF rules (ds++[r]):=by
 unfold gF;rw [MU];refine ML λq _=>?_;show bX _ _=_;rw [<-pL,MK,PL];rfl
def LZ (rules:List bN):(rules.map λr=>bR r.2).map (λa=>bX a [])=gF rules []:=by
 unfold gF;rw [MU];rfl
def Ff (rules:List bN)(g:bN->bV)(a:ZW):fz rules (rules.map g) a=rules.map λr=>(r.1,f6 (bX (g r) a)):=by
 unfold fz;induction rules with
 |nil=>rfl
 |cons r l b=>rw [MW,List.zip_cons_cons,MW,b,MW]
def CA (f:ia pool rules){r:List bD}(h:fQ pool rules (ds++[r])):bf 0 (fz rules (gF rules ds) (aV r)) (aG (ds++[r]))=bf 0 (cD rules (aG (ds++[r]))) (aG (ds++[r])):=by
 have e:fz rules (gF rules ds) (aV r)=(cD rules<|aG<|ds++[r]).map λq=>(q.1,q.2.filter λw=>decide ((aG ds).length=0)||dg (aG ds).length w):=by
  unfold gF cD;rw [Ff,MU];refine ML λq _=>?_;show (q.1,_)=(q.1,_)
  congr 1;rw [<-pL,IR,tT,Nn,tT,Nd,NO,MP,jd,jO]
 rw [e];refine AA _ _ _ _ λq g w c j=>?_;obtain ⟨u,d,rfl⟩:=Mx.mp g;have b:=(ON.mp j).2;rw [jd] at c;have a:=Cu (f.ok u d) c b;have:=h.yO (i:=ds.length) (by rw [Mv];exact NC _) d (w:=w) (by rw [NV<|Mh _,NL];exact a);rwa [MQ (by rw [Mv];exact Mh _)] at this
def Jq (rules:List bN):fz rules (rules.map λr=>bR r.2) []=cD rules []:=BK rules []
def ID (a:ZW)(b:List ZW):(fk (bR a) b).steps=(bX (bR a) b.flatten).steps:=by
 have d:=nH b<|bR a
 have c:=nH [b.flatten]<|bR a
 rw [d.1];rw [Nd,NO,MP] at c;exact c.1.symm
theorem Db:∀(F:ZW) (s:bh) (n:Nat),(ci s n F).of.length<=s.of.length+F.length/\(ci s n F).cJ=s.cJ
 |[],s,n=>by rw [CY];exact ⟨Mh _,rfl⟩
 |g::F,s,n=>by
  rw [qQ];obtain ⟨b,a⟩:=Db F (cK s n g)<|n+1
  have h:(cK s n g).of.length<=s.of.length+1/\(cK s n g).cJ=s.cJ:=by
   unfold cK
   repeat' split
   all_goals first
    |exact ⟨Q3 _,rfl⟩
    |(refine ⟨?_,rfl⟩;simp)
  rw [a,h.2,MN];exact ⟨by omega,rfl⟩
end
end FL
namespace L2
open PySem PySem.Spec PyProof.Rows
section
variable {X:Cx}
def IN (B:X.calm=true):iw X (.builtin "max") (λn H Q=>∃a is,n=[.ref a]/\0<is.length/\aN X.K H a (is.map V.int)/\Q (.int (dM is 0)) H):=by
 intro t s N H n O Q I r h;obtain ⟨a,is,rfl,f,C,q⟩:=h;obtain ⟨u,rfl,E⟩:=Qk r;cases E;have G:X.A.in1.handled=none:=I.ok.hd B;obtain ⟨c,v,p,T⟩:=I.list C;have g:a<s.heap.objs.size:=by obtain ⟨_,e,_⟩:=p.isList;exact MA e
 have k:=v.length;rw [Md] at k;have get:∀{i:Nat} {w:Value},c.toArray[i]?=some w->i<is.length->RelV (.int<|is.getD i 0) w:=λ{i w} d x=>by
  have d:c[i]?=some w:=by simpa using d
  have l:(is.map V.int)[i]?=some (.int<|is.getD i 0):=by
   rw [Mo,Mb x,List.getD,Mb x];rfl
  obtain ⟨U,y,J⟩:=v.get l;rw [d] at y;cases y;exact J
 have lt:∀{i:Nat} {w:Value},c.toArray[i]?=some w->i<is.length:=λ{i w} d=>by
  have d:c[i]?=some w:=by simpa using d
  rw [k];exact (Ma.mp d).1
 refine call_max_walk<|NE p.isList ?_
 refine ⟨s.heap.objs.size,_,_,c.toArray.size,_,_,(λi j=>decide<|is.getD i 0>is.getD j 0),rfl,Walks.list (A:=X.A.in1) G _ a (MM g) c.toArray,⟨⟨_,Mz _ rfl,rfl,rfl⟩,p.isList.push _⟩,λb l=>?_,by rw [Mw,<-k];exact f,CmpOf.ints_gt (λi=>is.getD i 0) λi w d=>get d<|lt d,λw Y L m M=>?_⟩
 .show b<(s.heap.push _).objs.size;rw [Nq];simp only [Mn,MR,M9] at l;rcases l with rfl|rfl
  .exact NC _
  .exact NW g
 .refine ⟨.int<|dM is 0,H,I.kept (t':=L) λb o e=>M b o (λz=>?_)<|Mf _ e,?_,q⟩
  .have:b=s.heap.objs.size:=by simpa using z
   exact absurd (MA e) (by rw [this];exact Nr _)
  .rw [Cm f]
   rw [Mw,<-k] at m;exact get m<|lt m
variable {e:Expr}{te:TE}{p pos:Pos}
def Ik (c:X.mg "max"=none)(h:PE X e te)(d:X.calm=true:=by rfl)(f:Gl X "max":=by rfl)(b:starEach [e] X.env=(false,eval e X.env)::starEach [] X.env:=by rfl):PE X (.Call (.Name "max" p) [e] [] pos) (cM (λg H Q=>∃a is,g=[.ref a]/\0<is.length/\aN X.K H a (is.map V.int)/\Q (.int (dM is 0)) H) (bu te bL)):=
 pE (IN d) f c QM (ai h ap b) Z1 Z1 b
end
end L2
namespace FL
open PySem L2
def Hk{K:W.Frag}{is:List Int}(c:0<is.length)(h:dJ t G b [.lst (is.map D.int)]):ae (cM (λd H Q=>∃a is,d=[.ref a]/\0<is.length/\aN K H a (is.map V.int)/\Q (.int (dM is 0)) H) t) G b (.int (dM is 0)):=
 λM H s l Q k=>h M H s l _ λn f g i=>by
  obtain ⟨v,rfl,q⟩:=iF i;obtain ⟨a,o,rfl,j,m⟩:=q.dX;have e:=rN m;subst e;exact ⟨a,is,rfl,c,aN.of (aw j).2,k _ f g (.int _)⟩
end FL
namespace FL
open PySem L2
section
variable {B:Hp}{M0:List Addr}{δ:List Sl}{E:Ends}{te ty:TE}{d:D}{G:Hp}{σ:St}{j:Nat}
def uE (h:∀G σ,bP G σ δ->ae te G σ d)(k:aX B M0 δ E.nx):aX B M0 δ (ki te E):=λa σ H b=>
 h _ σ b.wide M0 H (ab.refl _) b.live _ λv c e f=>k a σ c<|b.grow e
end
def Dg (B:ZY)(n:Str):(br (eh B) (Sum.inr n)).isSome=decide (n∈B):=by
 unfold br;rw [Pm];induction B with
 |nil=>rfl
 |cons b r a=>
  unfold eh at a⊢;rw [MW,Nk];by_cases e:b=n
  .subst e;simp
  .have c:¬n=b:=λz=>e z.symm;have:decide (((Sum.inr b:aM),V.bl true).1=(Sum.inr n:aM))=false:=by simp [e]
   rw [this];dsimp only;rw [a];simp [c]
def Ih{H:Hp}{i:Nat}(e:a[i]?=some (some (.ref p)))(g:H p=some (.dK (eh B)))(l:au M H)(h:ae c (but H M) a (.str n)):TV (tB (nP c (aU i))) a H (!decide (n∈B)):=
 λj b Q k=>h M j (b.but M) (l.same b) _ λy m f o=>⟨.ref p,e,p,br (eh B)<|Sum.inr n,rfl,by rw [(fO (d:=.str n) rfl o).2];exact c6.k<|f _ _<|b _ _ g,_,rfl,by rw [Dg];exact k m f⟩
def ii (B:List Str)(n:Str):List Str:=if n∈B then B else B++[n]
def Dq:m∈ii B n↔m∈B\/m=n:=by
 unfold ii;split
 .constructor
  .exact .inl
  .rintro (h|h)
   .exact h
   .subst h;assumption
 .simp
theorem v9:∀{l B:ZY} {m:Str},m∈l.foldl ii B↔m∈B\/m∈l
 |[],B,m=>by simp
 |n::r,B,m=>by
  rw [List.foldl_cons,v9,Dq,Mn];constructor
  .rintro ((h|h)|h)
   .exact .inl h
   .exact .inr (.inl h)
   .exact .inr (.inr h)
  .rintro (h|h|h)
   .exact .inl (.inl h)
   .exact .inl (.inr h)
   .exact .inr h
def Jx (B:ZY)(n:Str):(ii B n).length<=B.length+1:=by unfold ii;split<;>simp
theorem u6:∀(l B:ZY),(l.foldl ii B).length<=B.length+l.length
 |[],B=>by simp
 |n::r,B=>by
  have:=u6 r<|ii B n
  have:=Jx B n;rw [List.foldl_cons,MN];omega
def sI (as:List (List D)):List Str:=(as.filter λa=> !aJ a).foldl (λB a=>(ak [] a).foldl ii B) []
def tK (v:V):TE:=λ_ H Q=>Q v H
def c9.known{K:W.Frag}(r:al (but B c) v (.lst L)):c9 B c g (jh K (tK v)) L:=λd j H b R k=>
 BG (G:=but H<|d++c) (tl:=tK v) (λM h s l Q k=>k v h (ab.refl _) ((r.mono (λa u e=>by
  obtain ⟨i,f⟩:=aw e;rw [bn λz=>(MB.mp z).elim (λw=>by rw [(b.kind a w).1] at f;cases f) i];exact b.same _ _ f)).mono s)) _ H (ab.refl _) b.gI R k
def Hd{i:Nat}(h:ax G a b)(e:a[i]?=some (some v))(r:al G v d):ax G a (b.set i (some d)):=by
 refine ⟨by rw [NH];exact h.len,λj c q=>?_⟩;by_cases z:i=j
 .subst z;have f:i<b.length:=by
   have:=(Ma.mp q).1;rwa [NH] at this
  rw [Mr f] at q;cases q;exact ⟨v,e,r⟩
 .rw [Me z] at q
  exact h.get j c q
theorem zJ:∀(l:ZW) (B:ZY),(n∈B\/∃b∈l,n∈ak [] b)->n∈l.foldl (λB a=>(ak [] a).foldl ii B) B
 |[],B,h=>by rcases h with z|⟨b,c,_⟩;exact z;cases c
 |a::l,B,h=>zJ l _ (by
  rcases h with z|⟨b,c,d⟩
  .exact .inl (v9.mpr (.inl z))
  .rcases Mn.mp c with rfl|w
   .exact .inl (v9.mpr (.inr d))
   .exact .inr ⟨b,w,d⟩)
def Bound (xs as:List (List D)):Prop:=∀a∈xs,∀n∈ak [] a,∃b∈as,aJ b=false/\n∈ak [] b
def wM:List D->D->Prop:=λds d=>∃xs as,ds=[cF xs,cb as]/\(∀a∈xs,dF a)/\xs.length<=100/\(∀a∈as,dF a)/\as.length<=3/\Bound xs as/\d=.av
def Cs:List D->D->Prop:=λds d=>∃as,ds=[cb as]/\(∀a∈as,dF a)/\as.length<=3/\(∀g∈as,aJ g=true->g.length=3)/\Bound (as.filter aJ) as/\d=.av
structure Df (r:bN):Prop where
 ok:∀a∈r.2,dF a
 dI:r.2.length<=3
 g3:∀g∈r.2,aJ g=true->g.length=3
 gb:Bound (r.2.filter aJ) r.2
 hd:dF r.1
 hg:aJ r.1=false
 hb:Bound [r.1] r.2
def zE:List D->D->Prop:=λds d=>∃r,ds=[aY r]/\Df r/\d=.av
def CZ:List D->D->Prop:=λds d=>∃rs:List bD,ds=[.lst (rs.map cU)]/\rs.length<=1000/\d=cF (aV rs)
def dk.sound(o:eI c)(h:dk c r):Df r:=by
 have k:∀{a:ZZ},(∀y∈a,aB y=true->∃b∈r.2,aJ b=false/\y∈b)->∀n∈ak [] a,∃b∈r.2,aJ b=false/\n∈ak [] b:=λ{a} f n p=>by
  rcases vp (B:=[]) (as:=[a]) p with z|⟨t,d,x,i,l,rfl⟩
  .cases z
  .rw [MG.mp d] at i
   obtain ⟨b,b1,b2,b3⟩:=f _ i l;exact ⟨b,b1,b2,mU b3 l⟩
 have q:ju r.1:=by
  obtain ⟨w,m,e,d,i⟩:=h.hd;exact ⟨w,m,e,Ms _ d,λx s=>by rcases i x s with z|z;exact o.gp x z;exact pY x z⟩
 refine ⟨λa f=>(h.at_ a f).at_.lM,h.dI,λg j e=>?_,λg j=>k<|h.gb g (Mq.mp j).1 (Mq.mp j).2,?_,?_,λa f=>by rw [MG.mp f];exact k h.hb⟩
 .obtain ⟨w,x,y,rfl⟩:=(h.at_ g j).gd e;rfl
 .exact q.at_.lM
 .obtain ⟨w,m,e,d,i⟩:=h.hd;rw [e];exact (kf<|Ms _ d).2.2.2.1.trans<|MH λz=>z d
end FL
namespace FL
open PySem L2
def dk.Kc(h:dk b r):pC r.2/\ti r.2:=⟨⟨λa c=>(h.at_ a c).at_.lM,by have:=h.dI;omega⟩,λg d e=>(h.at_ g d).gd e⟩
end FL
namespace FL
open PySem L2
def lO (rds:List (List bD)):List D:=rds.map λr=>.lst (r.map cU)
def sJ (ds:List D):Prop:=∃pool rules,ds=[.lst (rules.map aY)]/\eI pool/\ia pool rules/\rules.length<=100
structure jH (pool:List D)(rules:List bN)(rds:List (List bD)):Prop where
 pk:eI pool
 rk:ia pool rules
 run:fQ pool rules rds
 fin:bf 0 (cD rules (aG rds)) (aG rds)=[]
def Bz (ds:List D)(d:D):Prop:=∃pool rules rds,ds=[.lst (rules.map aY)]/\d=.lst (lO rds)/\jH pool rules rds
def xN (ds:List D)(d:D):Prop:=∃pool rules rds,ds=[.lst (rules.map aY)]/\d=.lst (rds.flatten.map cU)/\jH pool rules rds
section
variable {pool:List D}{rules:List bN}{ds:List (List bD)}
def D7 (h:fQ pool rules ds):ds.length<=(aG ds).length:=by
 have:∀{l:List (List bD)},(∀r∈l,r≠[])->l.length<=(aG l).length:=λ{l}=>by
  induction l with
  |nil=>exact λ_=>Mh _
  |cons r l b=>
   intro a;have f:=b λx c=>a x<|L8 _ c
   have g:=List.length_pos_iff.mpr<|a r Mc
   rw [show r::l=[r]++l from rfl,jd,jO,Mv,Mv,Nv];unfold aV;rw [Md];omega
 exact this λr d=>by
  obtain ⟨i,e⟩:=MY.mp d;exact (h.step i r e).2
def Lo (a:eI pool)(b:ia pool rules):qY rules (rules.map λr=>bR r.2) [] []:=EN a b.ok ⟨λf c=>(by cases c),OS,MI _⟩
def xI (d:eI pool)(hR:ia pool rules){r:List bD}(h:fQ pool rules (ds++[r])):qY rules (gF rules ds) (aG (ds++[r])) (aV r):=by
 have i:=h.J9 d;have k:∀g∈aG (ds++[r]),ja g/\gc g:=λg a=>⟨((i.hd g a).flat d).1,((i.hd g a).flat d).2.1⟩
 have b:∀g∈aV r,g∈aG (ds++[r]):=λg a=>by rw [jd,jO];exact Ml _ a
 have o:(aG ds).length+(aV r).length<=110:=by
  have:=nQ d h.nd h.hd;rw [jd,jO,Mv] at this;exact this
 have e:∀q:bN,(bX (fk (bR q.2) ([]::ds.map aV))<|aV r).steps=(bX (bR q.2)<|aG<|ds++[r]).steps:=λq=>by
  rw [<-pL,ID,Nn,tT,Nd,NO,MP,jd,jO]
 refine ⟨λg a=>k g<|b g a,λg a=>(k g a).2,λv w=>?_,λj q v p l=>?_,by unfold gF;rw [Md],?_⟩
 .obtain ⟨q,x,rfl⟩:=Mx.mp w;have c:=hR.ok q x;obtain ⟨m,_,t⟩:=nH ([]::ds.map aV)<|bR q.2;obtain ⟨z,A⟩:=vE (bY q.2) []<|(q.2.filter aJ).filter dj;have L:=c.bi.nM;rw [tT] at m t;refine ⟨?_,?_,λs f=>?_⟩
  .rw [m,Md]
   show (cP _ _ _).length<=100;exact MF (QB z) Z4
  .rw [t]
   show 0+(aG ds).length+_<2^60;omega
  .rw [m] at f
   obtain ⟨u,n,rfl⟩:=Mx.mp f;obtain ⟨B,C⟩:=A u n;obtain ⟨E,G⟩:=Db (aG ds) u (bR q.2).taken;rw [C] at E;rw [G];refine ⟨(c.at_ _ (Mq.mp B).1).at_.lM,?_⟩;have:([]:List dr).length=0:=rfl;omega
 .unfold gF at l;rw [Mo,p] at l;cases l;have c:=hR.ok q<|Mi p
  have f:=c.hd.sc d;have M:=c.dI;have N:=i.dI;exact ⟨_,_,zP c.bi (e q) k Z4 Z4 f.1 Z4 λy H q=>mP (c.hb y H q) q,AG c.bi (e q) Z4⟩
 .rw [uS _ _ b,CA hR h]
  obtain ⟨I,J⟩:=h.next hR;exact MF (nQ d J I) Z1
end
end FL
namespace FL
open PySem L2
def dD:Nat->List (List bD)->List (Nat×bD)
 |_,[]=>[]
 |i,r::l=>r.map (λx=>(i,x))++dD (i+1) l
theorem pA:∀(a:List (List bD)) (i:Nat),(dD i a).map (·.2)=a.flatten
 |[],_=>rfl
 |r::l,i=>by
  unfold dD;rw [MK,pA l,MU,Nd];congr 1;exact OD r
theorem wx:∀(a:List (List bD)) (k j i:Nat) (x:bD),(dD k a)[j]?=some (i,x)->∃(m:Nat) (r:List bD),i=k+m/\a[m]?=some r/\x∈r/\(a.take m).flatten.length<=j/\j<(a.take (m+1)).flatten.length
 |[],k,j,i,x,h=>by simp [dD] at h
 |r::l,k,j,i,x,h=>by
  unfold dD at h;by_cases z:j<r.length
  .rw [ME (by rw [Md];exact z),Mo] at h
   obtain ⟨y,b,e⟩:=M8.mp h;cases e;exact ⟨0,r,rfl,rfl,Mi b,MI _,by simpa using z⟩
  .rw [MJ (by rw [Md];omega),Md] at h
   obtain ⟨m,c,e,d,f,g,n⟩:=wx l _ _ _ _ h;refine ⟨m+1,c,by omega,d,f,?_,?_⟩
   .rw [Ny,Nd,Mv];omega
   .rw [Ny,Nd,Mv];omega
def yL(c:List (List bD))(h:a<=b):(c.take a).flatten.length<=(c.take b).flatten.length:=by
 have e:=N8 a<|c.take b
 rw [List.take_take,O7 h] at e;rw [<-e,Nn,Mv];exact Nb _ _
def qX (a b:Nat×bD):Prop:=a.1<b.1\/(a.1=b.1/\px a.2 b.2)
theorem yo:∀(c:List (List bD)) (k:Nat),(∀r∈c,r.Pairwise px)->(dD k c).Pairwise qX/\∀q∈dD k c,k<=q.1
 |[],_,_=>⟨.nil,λq d=>nomatch d⟩
 |r::l,k,h=>by
  obtain ⟨f,e⟩:=yo l (k+1) λx g=>h x<|L8 _ g;unfold dD;refine ⟨PN.mpr ⟨?_,f,λa i b j=>?_⟩,λq d=>?_⟩
  .rw [Pq]
   exact (h r Mc).imp λq=>.inr ⟨rfl,q⟩
  .obtain ⟨y,_,rfl⟩:=Mx.mp i;exact .inl<|e b j
  .rcases MB.mp d with z|z
   .obtain ⟨y,_,rfl⟩:=Mx.mp z;exact Mh _
   .exact Nat.le_of_succ_le<|e q z
def gv (q:Nat×bD):List Int:=(q.1:Int)::fS q.2.2.1 q.2.2.2
def Kh(h:qX a b):mY (gv a) (gv b) true:=by
 rcases h with z|⟨z,w⟩
 .exact .inr ⟨0,a.1,b.1,rfl,rfl,rfl,by omega,(My Z4).symm⟩
 .rcases GO w with ⟨_,q⟩|⟨i,x,y,c,d,e,f,g⟩
  .cases q
  .refine .inr ⟨i+1,x,y,?_,d,e,f,g⟩
   unfold gv;rw [z,Ny,Ny,c]
def nX (T:List (Nat×bD)):Nat->List Int
 |0=>[-1]
 |j+1=>match T[j]? with|some q=>gv q|none=>[]
def KY{T:List (Nat×bD)}(h:T.Pairwise qX)(c:∀q∈T,q.2.2.2.length<=3){j:Nat}(a:T[j]?=some q):mY (nX T j) (gv q) true/\(nX T j).length<=1000:=by
 cases j with
 |zero=>exact ⟨.inr ⟨0,-1,q.1,rfl,rfl,rfl,by omega,(My Z4).symm⟩,(show 1<=1000 by decide)⟩
 |succ j=>
  have b:j<T.length:=by have:=(Ma.mp a).1;omega
  have e:=Mb b;have d:nX T (j+1)=gv T[j]:=by show (match T[j]? with|some q=>gv q|none=>[])=_;rw [e]
  rw [d];refine ⟨Kh<|vJ h (NC j) e a,?_⟩;have:=c _<|NJ b
  unfold gv fS;rw [MN,MN,Md];omega
def gt (T:List (Nat×bD))(p:Nat):Int:=match T[p]? with|some q=>q.1|none=>0
structure Fe (pool:List D)(rules:List bN)(T:List (Nat×bD))(j i:Nat)(x:bD):Prop where
 hZ:∃r V,vw pool rules ((T.take j).map fun q=>q.2.1) x r V
 new:x.1∉(T.take j).map fun q=>q.2.1
 fin:gf pool x.1
 len:x.2.2.length<=3
 pl:∀p∈x.2.2,p<j
 mx:dM ((-1)::x.2.2.map (gt T)) 0+1=(i:Int)
section
variable {pool:List D}{rules:List bN}{rds:List (List bD)}
def jH.tag(h:jH pool rules rds){j:Nat}(B:(dD 0 rds)[j]?=some (i,x)):Fe pool rules (dD 0 rds) j i x:=by
 obtain ⟨m,r,e,U,C,h3,h4⟩:=wx _ _ _ _ _ B;rw [Og] at e;subst e;obtain ⟨s1,_⟩:=h.run.step i r U;rw [s1] at C;obtain ⟨G,Y⟩:=D0 rds i;have hF:∀f∈aG (rds.take i),gf pool f:=λf g=>(h.run.hd f (by rw [Y];exact Ms _ g)).fin;obtain ⟨g1,g2,ru,w,V,g3,g4,g5,g6,E,_⟩:=sC h.rk.ok hF C;have o:(aG<|rds.take i).length=(rds.take i).flatten.length:=by unfold aG aV;rw [Md]
 have c:∀k,((dD 0 rds).take k).map (λq=>q.2.1)=(aG rds).take k:=λk=>by
  unfold aG aV;rw [<-pA rds 0,MU,<-PF];rfl
 have hj:∃N,(aG rds).take j=aG (rds.take i)++N:=⟨G.take<|j-(aG<|rds.take i).length,by rw [Y,List.take_append,MQ Z4]⟩
 have ac:j<(dD 0 rds).length:=(Ma.mp B).1;have l:∀p∈x.2.2,p<(rds.take i).flatten.length:=λp d=>by
  unfold dY at E;have:(aG<|rds.take i)[p]?∈x.2.2.map λk=>(aG<|rds.take i)[k]?:=Mx.mpr ⟨p,d,rfl⟩;rw [E] at this;obtain ⟨a,_,ha⟩:=Mx.mp this;rw [<-o];exact (Ma.mp ha.symm).1
 have n:∀p,p<j->∃m y,(dD 0 rds)[p]?=some (m,y)/\gt (dD 0 rds) p=(m:Int)/\(rds.take m).flatten.length<=p/\p<(rds.take<|m+1).flatten.length:=λp d=>by
  have H:=Mb (show p<(dD 0 rds).length by omega);obtain ⟨m',r',I,k1,k2,k3,k4⟩:=wx _ _ _ _ _ H;rw [Og] at I;refine ⟨m',_,by rw [<-I];exact H,?_,k3,k4⟩;unfold gt;rw [H,<-I];rfl
 have t:∀p∈x.2.2,gt (dD 0 rds) p<(i:Int):=λp d=>by
  obtain ⟨m,y,_,J,c3,_⟩:=n p (by have:=l p d;omega);rw [J];refine Int.ofNat_lt.mpr<|Nat.lt_of_not_le λz=>?_;have:=yL rds z;have:=l p d;omega
 have s:0<i->∃p∈x.2.2,((i:Int)-1)<=gt (dD 0 rds) p:=λhi=>by
  refine Classical.byContradiction λL=>g1 ?_;have u:i-1<rds.length:=by have:=(Ma.mp U).1;omega
  have ei:=Mb u;have hA:=BS ei;rw [show i-1+1=i by omega] at hA;have af:(aG<|rds.take<|i-1).length=(rds.take<|i-1).flatten.length:=by unfold aG aV;rw [Md]
  have v:dg (aG<|rds.take<|i-1).length w=false:=by
   unfold dg;rw [<-g6];refine OI.mpr λp d=>?_;rw [Of];intro z;refine L ⟨p,d,?_⟩;obtain ⟨m,y,_,J,_,c4⟩:=n p (by have:=l p d;omega);rw [J];have:¬m+1<=i-1:=λq=>by
    have:=yL rds q;omega
   omega
  rw [hA] at g4;have A:=Mi g3;have:=h.run.yO u A<|Cu (h.rk.ok ru A) g4 v
  rw [show i-1+1=i by omega,<-g5] at this;exact this
 refine ⟨?_,?_,g2,by rw [vV E];exact (h.rk.ok ru<|Mi g3).bi.nM,λp d=>by have:=l p d;omega,?_⟩
 .obtain ⟨M,V',g⟩:=Ji h.pk h.rk.ok hF C;obtain ⟨N,hN⟩:=hj;rw [c,hN];exact ⟨M,V',g.at_,g.rk,g.pk,F8 g.Le,g.sc,g.gs,g.hd,g.fd⟩
 .rw [c]
  intro z;have O:(aG rds)[j]?=some x.1:=by
   unfold aG aV;rw [<-pA rds 0,MU,Mo,B];rfl
  obtain ⟨k,hk,Q⟩:=List.mem_take_iff_getElem.mp z;exact vJ (R:=λa b=>a≠b) h.run.nd (show k<j by omega) (by rw [<-Q];exact Mb Z4) O rfl
 .rcases xG ((-1)::x.2.2.map (gt<|dD 0 rds)) 0 with ⟨z,_⟩|⟨z1,z2⟩
  .cases z
  .have aj:dM ((-1)::x.2.2.map (gt<|dD 0 rds)) 0<=(i:Int)-1:=by
    rcases Mn.mp z1 with w|w
    .rw [w];omega
    .obtain ⟨p,d,e⟩:=Mx.mp w;have:=t p d;omega
   have am:(i:Int)-1<=dM ((-1)::x.2.2.map (gt<|dD 0 rds)) 0:=by
    by_cases hi:0<i
    .obtain ⟨p,d,T⟩:=s hi;exact Int.le_trans T<|z2 _<|L8 _<|Mx.mpr ⟨p,d,rfl⟩
    .have:=z2 (-1) Mc;omega
   omega
def jH.inc (h:jH pool rules rds):(dD 0 rds).Pairwise qX:=(yo rds 0 λr a=>by
 obtain ⟨i,b⟩:=MY.mp a;rw [(h.run.step i r b).1];exact FW h.rk.ok _).1
def jH.HW (rds:List (List bD)):(dD 0 rds).map (λq=>q.2.1)=aG rds:=by
 unfold aG aV;rw [<-pA rds 0,MU];rfl
def jH.closed(h:jH a rules rds)(b:r∈rules)(d:dk pool r)(e:c∈dy pool (a8 [] r.2) [[]])(f:nW (aG rds) r.2 c=true):eE c r.1∈aG rds:=by
 obtain ⟨w,g,_,i⟩:=IY d e f;rw [<-i];rcases xE (cD rules<|aG rds) 0 (aG rds) (r.1,fZ r.2<|aG rds) (Mx.mpr ⟨r,b,rfl⟩) w g with z|z
 .exact z
 .rw [h.fin] at z;cases z
end
structure Cv (pool:List D)(rules:List bN)(T:List (List D)):Prop where
 pk:eI pool
 rk:∀r∈rules,dk pool r
 cl:∀r∈rules,∀c∈dy pool (a8 [] r.2) [[]],nW T r.2 c=true->eE c r.1∈T
def A1:List Sl->D->Prop:=λss d=>∃pool rules there,ss=[.d (.lst (rules.map aY)),.d (.lst pool),.td there]/\Cv pool rules (there.map (·.1))/\d=.bl true
def pI (xs:List D):Prop:=xs.length<=10/\((∀x∈xs,x.sc=true)\/∃as:List (List D),xs=as.map D.tup/\∀a∈as,bZ a)
def Ab:List D->D->Prop:=λds d=>∃xs,ds=[.tup xs,.tup xs]/\pI xs/\d=.bl true
def Bg:List D->D->Prop:=λds d=>∃rs:List bN,ds=[.lst (rs.map aY),.lst (rs.map aY)]/\rs.length<=1000/\(∀r∈rs,pI r.1/\pI (r.2.map D.tup))/\d=.bl true
end FL
namespace a5
open PySem L2 FL
section
variable {P:Program}{w:World}{K:PySem.W.Frag}{mg:Str->Option Value}{base:Heap}{f:Addr}{fd:FuncData}
abbrev Cz:List Str:=["_law_script","_law_rules","_law_handed","_law_found","_law_facts","_law_there","_law_came","_law_last","_law_reason","_law_latest","_law_mine"]
def gx:bW Cz ["_law_script"] (bb mQ):=⟨rfl,rfl,rfl,Z9,rfl,Z9,Z9⟩
def Kz (F:aF K "law" "law" mQ f fd)(B:Bl mg)(an:mg "max"=none)(I:aT P w K mg base 1 "_law_mixed" ["_law_script"] (bv xO))(u:aT P w K mg base 2 "_law_pool_by" ["_law_script"] (bv vZ))(o:aT P w K mg base 3 "_law_rules_by" ["_law_script"] (jz Am zv))(M:aT P w K mg base 12 "reasons" ["rules"] (jz sJ xN))(J:aT P w K mg base 3 "_law_stays" ["_law_handed","_law_rules"] (bv Bg))(y:aT P w K mg base 3 "_law_follows" ["_law_reason","_law_rules","_law_ahead"] (bv CK))(m:aT P w K mg base 1 "_law_stands_ahead" ["_law_one","_law_two"] (bv Co))(C:aT P w K mg base 3 "_law_closed" ["_law_rules","_law_pool","_law_there"] (spS A1)):bq P w K mg base bA 13 f fd ["_law_script"] (sf K):=by
 refine F.ok gx (λvs H Q E h=>?_) λdd A b8 s H vs Q E N h=>?_
 .obtain ⟨a,ns,rfl,_⟩:=h;rfl
 obtain ⟨a,ns,rfl,hS,af,q⟩:=h;have hu:=dQ N;have bd:=fJ N;refine ⟨_,(az (bj 0 gx.nd<|nI AT (pv 0) pe<|m4 aC)
   (az (bj 0 gx.nd<|bB I N<|ai (pv 0) ap)
   (az (bj 1 gx.nd<|bB o N<|ai (pv 0) ap)
   (az (bj 2 gx.nd<|w6 B<|pv 1)
   (az (bj 3 gx.nd<|bB M N<|ai (pv 2) ap)
   (az (bQ (fC (dA<|cG<|bB J N<|ai (pv 2)<|ai (pv 1) ap)<|gY<|dA<|cG<|fX B (pv 3) B.list Pn).pt (ay<|bm cV) ce)
   (az (bj 4 gx.nd<|cY ap)
   (az (bj 5 gx.nd t0)
   (az (bj 6 gx.nd<|cY ap)
   (az (bj 7 gx.nd<|cY<|ai (kl kC aC) ap)
   (az (cI MD rfl (cr<|pv 3) (bo 8 gx.nd) (az (bQ (fC (dA<|cG<|bB y N<|ai (pv 8)<|ai (pv 1)<|ai (pv 4) ap)<|gY<|jS<|pr (by exact bd) (aS (pv 8) aC)<|pv 5).pt (ay<|bm cV) ce)
   (az (bj 9 gx.nd<|Ik an<|cQ m9 (cY<|ai (kl kC aC) ap)<|fm ["_law_came","_law_place"] [6] 1 (cr<|aS (pv 8) aC) (λ_ _ _ _ _=>(bo 1 (show (["_law_came","_law_place"]:ZY).Nodup from by decide+kernel))) (λ_ _ _ _ _=>je) λ_ _ _ _ _=>(jU (pv 0)<|pv 1))
   (az (bj 10 gx.nd<|cQ m9 (cY<|ai (cQ jq (pv 9) aC)<|ai (aS (pv 8) aC) ap)<|w6 B<|aS (pv 8) aC)
   (az (bQ (dA<|cG<|bB m N<|ai (pv 7)<|ai (pv 10) ap) (ay<|bm cV) ce)
   (az (bj 7 gx.nd<|pv 10)
   (az (iK (pv 6)<|cQ jq (pv 9) aC)
   (az (iK (pv 4)<|aS (pv 8) aC)
   (ay<|lq bd (pv 5) (aS (pv 8) aC) cV rfl)))))))))
   (ay<|bm<|bB C N<|ai (pv 1)<|ai (bB u N<|ai (pv 0) ap)<|ai (pv 5) ap)))))))))))),?_⟩
 refine ⟨_,rfl,500,rfl,a,_,rfl,hS,λp hp=>?_⟩;rw [Kb af];have E1:=LP (H:=H) (p:=p) (ns:=ns) Cz a 10 rfl;dsimp only;have b0:Bx _ [] [] _ _ [Sl.d (.lst<|ns.map D.int),.no,.no,.no,.no,.no,.no,.no,.no,.no,.no]:=Bx.JN au.nil Z8 E1;refine aX.HP b0 ?_;clear b0 E1 hS;generalize upd H p (HO.lst<|List.map V.int ns)=H1;refine bw<|fM (i:=0) (d:=.lst<|(nu ns).map D.int) (λG L e=>bM ⟨ns,rfl,af,rfl⟩<|aa (e.vd rfl) ag) ?_
 have cd:(nu ns).length<=63:=by rw [Hn];exact af
 generalize nu ns=ms at cd;clear af;refine bw<|xx (i:=1) (ds:=[.lst<|ms.map D.int]) (λG L e=>aa (e.vd rfl) ag) ⟨ms,rfl,by omega⟩ λd hd=>?_
 obtain ⟨ch,g,he,rfl,bi,di⟩:=hd;simp only [QI,D.lst.injEq] at he;have em:ms=ch:=(Qh λa b e=>by injection e).mp he.1;subst em;have hP:=AS ms;refine bw<|fM (i:=2) (d:=.lst<|g.map aY) (λG L e=>Dk<|aa (e.vd rfl) ag) ?_;refine bw<|xx (i:=3) (ds:=[.lst<|g.map aY]) (λG L e=>aa (e.vd rfl) ag) ⟨_,g,rfl,hP,bi,by omega⟩ λd hd=>?_;obtain ⟨ao,aj,O,he,rfl,hE⟩:=hd;simp only [QI,D.lst.injEq] at he;have em:g=aj:=(Qh λa b e=>DZ e).mp he.1;subst em;have hR:=bi.ok;have bk:∀r∈g,pI r.1/\pI (r.2.map D.tup):=λr N=>by
  have hk:=hR r N;have hs:=hk.hd.sc hP;exact ⟨⟨by omega,.inl hs.1⟩,by rw [Md];have:=hk.dI;omega,.inr ⟨r.2,rfl,λa ha x hx=>((hk.at_ a ha).at_.lM.sc x hx).1⟩⟩
 refine gK (λG L e=>fK (b:=false) (c:=false) (bg.eq (dB<|cH<|bM (d:=.bl true) ⟨g,rfl,by omega,bk,rfl⟩<|aa (e.v rfl)<|aa (e.v rfl) ag) rfl) λ_=>bg.eq (dB<|cH<|HS<|e.v rfl) rfl) ?_;refine bw<|ql (i:=4) ?_
 refine bw<|JO (i:=5) ?_
 refine bw<|ql (i:=6) ?_
 refine bw<|fM (i:=7) (d:=.lst [.int (-1)]) (λG L e=>eP<|aa (mL aq) ag) ?_
 have U:(aG O).length<=110:=nQ hE.pk hE.run.nd hE.run.hd;have am:=hE.inc;have as:=λ{j i:Nat} {x:bD} (h:(dD 0 O)[j]?=some (i,x))=>hE.tag h;have bs:=pA O 0;have bt:=jH.HW O;have a0:Cv (jc ms) g (aG O):=⟨hP,hR,λr N c hc hs=>hE.closed N (hR r N) hc hs⟩
 rw [<-bs,MU];rw [<-bt] at U a0;have cl:(dD 0 O).length<=110:=by rw [Md] at U;exact U
 have co:=hE.pk;generalize dD 0 O=T at am as a0 cl;clear bs bt hE U;refine bw<|fH (i:=8) (ds:=T.map λq=>cU q.2) (c9.of λG L e=>dH<|e.vd rfl) (λj a1=>∃s8 s9 a2,a1=[Sl.d (.lst<|ms.map D.int),.d (.lst<|g.map aY),.d (.lst<|g.map aY),.d (.lst<|T.map λq=>cU q.2),.l<|((T.take j).map λq=>q.2.1).map D.tup,.t<|(T.take j).map λq=>(q.2.1,.bl true),.l<|(T.take j).map λq=>.int (q.1:Nat),.d (.lst<|(nX T j).map D.int),s8,s9,a2]) ⟨_,_,_,rfl⟩ (λB' sB hk j x a1 hx hp=>?_) λa1 hp=>?_
 .obtain ⟨s8,s9,a2,rfl⟩:=hp;rw [Mo] at hx;obtain ⟨⟨i,x⟩,Y,rfl⟩:=M8.mp hx;have hA:=as Y;obtain ⟨r,V,cs⟩:=hA.hZ;have a3:=(hA.fin.flat co).1.2;have bx:=hA.new;have dp:=(Ma.mp Y).1;obtain ⟨ct,c0⟩:=KY am (λq hq=>by
   obtain ⟨j',c1⟩:=MY.mp hq;exact (as (x:=q.2) (i:=q.1) c1).len) Y
  have a4:nX T (j+1)=gv (i,x):=by show (match T[j]? with|some q=>gv q|none=>[])=_;rw [Y]
  have b6:T.take (j+1)=T.take j++[(i,x)]:=by rw [MX,Y];rfl
  have c2:=hA.len;have bc:=hA.mx;have V1:∀{d:D} {G:Hp} {L:St} {δ:List Sl} {i:Int},bP G L δ->(δ[8]?).bind Sl.ij=some (cU x)->de [D.tup x.1,.int ((x.2.1:Nat):Int),.tup<|x.2.2.map λn=>D.int (n:Nat)] i=some d->ae (bJ (d6 K) (aU 8)<|tC (.int i)) G L d:=λe h k=>bK k (e.v h) aq;have ac:((T.take j).map λq=>(q.2.1,D.bl true)).map (·.1)=(T.take j).map λq=>q.2.1:=by rw [MU];rfl
  have b7:nY ((T.take j).map λq=>(q.2.1,D.bl true)) x.1 (.bl true)=(T.take<|j+1).map λq=>(q.2.1,D.bl true):=by
   have:=qS x.1<|(T.take j).map λq=>(q.2.1,D.bl true)
   rw [ac,MH bx] at this;rw [Jo (by
    cases e:fU ((T.take j).map λq=>(q.2.1,D.bl true)) x.1 with
    |none=>rfl
    |some d=>rw [e] at this;cases this),b6,MK]
   rfl
  have dc:(T.take j).length<=110:=by rw [MT];omega
  refine gK (λG L e=>fK (b:=false) (c:=false) (bg.eq (dB<|cH<|bM (d:=.bl true) ⟨x,ao,g,_,r,V,rfl,cs,rfl⟩<|aa (e.v rfl)<|aa (e.v rfl)<|aa (e.v rfl) ag) rfl) λ_=>bg.eq (cH<|e.BY (j:=5) rfl a3<|V1 (d:=.tup x.1) e rfl rfl) (by rw [ac];exact MH bx)) ?_;have c3:∀p∈x.2.2,((T.take j).map λq=>D.int (q.1:Nat))[p]?=some (.int<|gt T p):=λp hp=>by
   have c4:=hA.pl p hp;have ep:=Mb (show p<T.length by omega);unfold gt;rw [Mo,NP c4,ep];rfl
  refine bw<|fj (i:=9) (d:=.int<|dM ((-1)::x.2.2.map (gt T)) 0) (λG L e=>Hk (Q1 _)<|aa (ae.eq (mj (xs:=[.int (-1)]) (ys:=x.2.2.map λp=>.int<|gt T p) (by rw [Md];show 1+_<=1000;omega) (eP<|aa (mL aq) ag)<|ae.eq (e.comp (idx:=[6]) (k:=1) (i:=1) (λ_=>true) (λd=>match d with|.int n=>.int (gt T n.toNat)|_=>.av) (h9<|V1 (d:=.tup<|x.2.2.map λn=>D.int (n:Nat)) e rfl rfl) (λG' c5 d hd e'=>jw) (λG' c5 d hd _ e'=>?_) (by rw [Md];exact cq Z4)) ?_) (by rw [MW,MU];rfl)) ag) rfl ?_
  .obtain ⟨p,hp,rfl⟩:=Mx.mp hd;exact cy (ds:=(T.take j).map λq=>D.int (q.1:Nat)) (d:=.int<|gt T p) (jo<|c3 p hp) (e'.v rfl)<|e'.v rfl
  .rw [Nc.mpr λ_ _=>rfl,MU]
   rfl
  generalize dM ((-1)::x.2.2.map (gt T)) 0=mv at bc;refine bw<|fM (i:=10) (d:=.lst<|(gv (i,x)).map D.int) (λG L e=>ae.eq (mj (xs:=[.int<|mv+1,.int ((x.2.1:Nat):Int)]) (ys:=x.2.2.map λn=>D.int (n:Nat)) (by rw [Md];show 2+_<=1000;omega) (eP<|aa (j7 (e.vd rfl) aq)<|aa (bK (ds:=[D.tup x.1,.int ((x.2.1:Nat):Int),.tup<|x.2.2.map λn=>D.int (n:Nat)]) (d:=.int ((x.2.1:Nat):Int)) rfl (e.vd rfl) aq) ag)<|K9<|aa (bK (ds:=[D.tup x.1,.int ((x.2.1:Nat):Int),.tup<|x.2.2.map λn=>D.int (n:Nat)]) (d:=.tup<|x.2.2.map λn=>D.int (n:Nat)) rfl (e.vd rfl) aq) ag) (by unfold gv fS;rw [bc,MW,MW,MU];rfl)) ?_
  refine gK (λG L e=>bg.eq (dB<|cH<|bM (d:=.bl true) ⟨nX T j,gv (i,x),true,rfl,c0,ct,rfl⟩<|aa (e.v rfl)<|aa (e.v rfl) ag) rfl) ?_;refine bw<|fM (i:=7) (d:=.lst<|(gv (i,x)).map D.int) (λG L e=>e.vd rfl) ?_
  refine bw<|t6 (j:=6) (d:=.int (i:Nat)) rfl (λG L e=>ae.eq (j7 (e.v rfl) aq) (by rw [bc])) rfl (by rw [Md];exact cq Z4) ?_
  refine bw<|t6 (j:=4) (d:=.tup x.1) rfl (λG L e=>V1 (d:=.tup x.1) e rfl rfl) (iW a3) (by rw [Md,Md];exact cq Z4) ?_
  refine DD (j:=5) (key:=x.1) (d:=.bl true) rfl a3 (λG L e=>lS) (λG L e=>V1 (d:=.tup x.1) e rfl rfl) (by rw [Md];omega) ?_;rw [b7];refine dO ⟨.d<|cU x,.d (.int mv),.d (.lst<|(gv (i,x)).map D.int),?_⟩;rw [a4,b6];simp only [MK];rfl
 obtain ⟨s8,s9,a2,rfl⟩:=hp;rw [Md,NL];dsimp only;refine eJ (d:=.bl true) (λG L e=>vD ⟨jc ms,g,T.map λq=>(q.2.1,.bl true),rfl,?_,rfl⟩<|e.es (i:=1) rfl (λz=>nomatch z)<|wO (bM ⟨ms,rfl,rfl⟩<|aa (e.v rfl) ag)<|e.es (i:=5) rfl (λz=>nomatch z) vv) λv H' s' r'=>?_
 .rw [MU];exact a0
 rw [r'.jm];exact q H'
end
end a5
namespace a5
open PySem L2 FL
section
variable {P:Program}{w:World}{K:PySem.W.Frag}{mg:Str->Option Value}{base:Heap}{f:Addr}{fd:FuncData}
def B1:bW ["_law_found","_law_due","_law_k"] ["_law_found","_law_due"] (bb uz):=⟨rfl,rfl,rfl,Z9,rfl,Z9,Z9⟩
def ED (F:aF K "_law_alike" "_law_alike" uz f fd)(B:Bl mg)(g:aT P w K mg base 1 "_law_whole" ["_law_found"] (bv nD)):bq P w K mg base bA 2 f fd ["_law_found","_law_due"] (bv Ab):=by
 refine F.ok B1 (d7 (n:=2) λN d O=>by obtain ⟨_,e,_⟩:=O;rw [e];rfl) λT A t s H vs Q E I h=>?_;obtain ⟨M,N,d,U,Y,⟨k,rfl,⟨hl,J⟩,rfl⟩,q⟩:=h;have u:=dQ I;refine ⟨_,(az (bQ (fC (dA<|cG<|fX B (pv 0) B.tuple Ng)<|gY<|cp (fD (by exact u)) (cA B<|pv 0)<|cA B<|pv 1).pt (ay<|bm cV) ce)
   (az (cI MD rfl (lF rfl B.range<|ai (cA B<|pv 1) ap) (bo 2 B1.nd)<|ay<|bQ (cG<|fX B (aS (pv 1)<|pv 2) B.tuple Ng) (ay<|bQ (fC (dA<|cG<|fX B (aS (pv 0)<|pv 2) B.tuple Ng)<|gY<|cp (fD (by exact u)) (cA B<|aS (pv 0)<|pv 2)<|cA B<|aS (pv 1)<|pv 2).pt (ay<|bm cV) ce)<|ay<|bQ (jT (dA<|cG<|fX B (aS (pv 0)<|pv 2) B.str OH)<|jV<|dA<|cG<|bB g I<|ai (aS (pv 0)<|pv 2) ap).pt (ay<|bm cV) ce)
   (ay<|bm<|iB (fP (by exact u)) (pv 0)<|pv 1))),?_⟩
 have b0:Bx H M [] _ H [Sl.d (.tup k),.d (.tup k),.no]:=gr U Y ["_law_found","_law_due","_law_k"];refine aX.run b0 ?_;refine gK (λG p e=>fK (b:=false) (c:=false) (bg.eq (dB<|cH<|ml<|e.v rfl) rfl) λ_=>bg.eq (ck<|iA (fA (K:=K)<|aa (e.v rfl) ag)<|fA (K:=K)<|aa (e.v rfl) ag) Z8) ?_;refine bw<|fH (i:=2) (c9.lW (n:=k.length) Z4 λG p e=>aa (fA (K:=K)<|aa (e.v rfl) ag) ag) (λ_ m=>∃s,m=[Sl.d (.tup k),.d (.tup k),s]) ⟨_,rfl⟩ (λB' sB hk j z m hj y=>?_) λm y=>?_
 .obtain ⟨s,rfl⟩:=y;obtain ⟨r,rfl⟩:=iQ 0 _ j z hj;have o:de k (0+(j:Int))=some k[j]:=jy<|Mb r;have C:=NJ r;generalize k[j]=x at o C;refine dC (λG p e=>cH<|ml<|bK o (e.v rfl)<|e.v rfl) (λz=>?_) λz=>?_
  .obtain ⟨l,rfl⟩:∃l,x=.tup l:=by cases x<;>first|exact ⟨_,rfl⟩|cases z
   exact dC (b:=false) (λG p e=>fK (b:=false) (c:=false) (bg.eq (dB<|cH<|ml<|bK o (e.v rfl)<|e.v rfl) rfl) λ_=>bg.eq (ck<|iA (fA (K:=K)<|aa (bK o (e.v rfl)<|e.v rfl) ag)<|fA (K:=K)<|aa (bK o (e.v rfl)<|e.v rfl) ag) Z8) (λz=>nomatch z) λ_=>eQ<|dO ⟨_,rfl⟩
  .have cv:x.sc=true:=by
    rcases J with w|⟨as,rfl,_⟩
    .exact w x C
    .obtain ⟨a,_,rfl⟩:=Mx.mp C;cases z
   exact dC (b:=false) (λG p e=>bg.eq (ly (dB<|cH<|kA<|bK o (e.v rfl)<|e.v rfl) λ_=>dB<|cH<|bM ⟨x,rfl,rfl⟩<|aa (bK o (e.v rfl)<|e.v rfl) ag)<|AJ cv) (λz=>nomatch z) λ_=>eQ<|dO ⟨_,rfl⟩
 .obtain ⟨s,rfl⟩:=y;dsimp only;have L:cw (.tup k) (.tup k)=true/\(D.tup k).cN<=40:=by
   rcases J with w|⟨as,rfl,w⟩
   .exact pS w w
   .obtain ⟨e1,e2⟩:=sq w w;exact ⟨by rw [cw];exact e1,by rw [D.cN];omega⟩
  exact eJ (λG p e=>ae.eq (jl L.1 L.2 (e.v rfl)<|e.v rfl) (by rw [My rfl])) q
def BL:bW ["_law_handed","_law_rules","_law_k"] ["_law_handed","_law_rules"] (bb tG):=⟨rfl,rfl,rfl,Z9,rfl,Z9,Z9⟩
def Ds (F:aF K "_law_stays" "_law_stays" tG f fd)(B:Bl mg)(a:aT P w K mg base 2 "_law_alike" ["_law_found","_law_due"] (bv Ab)):bq P w K mg base bA 3 f fd ["_law_handed","_law_rules"] (bv Bg):=by
 refine F.ok BL (d7 (n:=2) λU d Y=>by obtain ⟨_,e,_⟩:=Y;rw [e];rfl) λac A I s H vs Q E J h=>?_;obtain ⟨M,U,d,lv,rs,⟨g,rfl,hl,hx,rfl⟩,q⟩:=h;have T:=dQ J;refine ⟨_,(az (bQ (cp (fD (by exact T)) (cA B<|pv 0)<|cA B<|pv 1) (ay<|bm cV) ce)
   (az (cI MD rfl (lF rfl B.range<|ai (cA B<|pv 1) ap) (bo 2 BL.nd) (az (bQ (fC (dA<|cG<|fX B (aS (pv 0)<|pv 2) B.tuple Ng)<|gY<|cp (fD (by exact T)) (cA B<|aS (pv 0)<|pv 2) aC).pt (ay<|bm cV) ce)
   (az (bQ (dA<|cG<|bB a J<|ai (aS (aS (pv 0)<|pv 2) aC)<|ai (aS (aS (pv 1)<|pv 2) aC) ap) (ay<|bm cV) ce)
   (ay<|bQ (dA<|cG<|bB a J<|ai (aS (aS (pv 0)<|pv 2) aC)<|ai (aS (aS (pv 1)<|pv 2) aC) ap) (ay<|bm cV) ce))))
   (ay<|bm cV))),?_⟩
 have b0:Bx H M [] _ H [Sl.d (.lst<|g.map aY),.d (.lst<|g.map aY),.no]:=gr lv rs ["_law_handed","_law_rules","_law_k"];refine aX.run b0 ?_;refine gK (λG o e=>bg.eq (ck<|iA (d9 (K:=K)<|aa (e.v rfl) ag)<|d9 (K:=K)<|aa (e.v rfl) ag) Z8) ?_;refine bw<|fH (i:=2) (c9.lW (n:=g.length) Z4 λG o e=>aa ((d9 (K:=K)<|aa (e.v rfl) ag).eq (by rw [Md])) ag) (λ_ p=>∃s,p=[Sl.d (.lst<|g.map aY),.d (.lst<|g.map aY),s]) ⟨_,rfl⟩ (λB' sB hk j z p hj L=>?_) λp L=>?_
 .obtain ⟨s,rfl⟩:=L;obtain ⟨t,rfl⟩:=iQ 0 _ j z hj;have u:=Mb t;obtain ⟨x,y⟩:=hx _<|NJ t;generalize g[j]=r at u x y;have N:de (g.map aY) (0+(j:Int))=some (aY r):=jy (by rw [Mo,u];rfl);have C:∀{d:D} {G:Hp} {o:St} {O:List Sl} {i:Int} {m:Nat},bP G o O->(O[m]?).bind Sl.ij=some (.lst<|g.map aY)->(O[2]?).bind Sl.ij=some (.int<|0+(j:Int))->de [D.tup r.1,cb r.2] i=some d->ae (bJ (d6 K) (bJ (d6 K) (aU m)<|aU 2)<|tC (.int i)) G o d:=λe x y k=>bK k (cy N (e.v x)<|e.v y) aq;refine gK (λG o e=>fK (b:=false) (c:=false) (bg.eq (dB<|cH<|ml<|cy N (e.v rfl)<|e.v rfl) rfl) λ_=>bg.eq (ck<|iA (fA (K:=K) (l:=[D.tup r.1,cb r.2])<|aa (cy N (e.v rfl)<|e.v rfl) ag) aq) rfl) ?_;refine gK (λG o e=>bg.eq (dB<|cH<|bM (d:=.bl true) ⟨r.1,rfl,x,rfl⟩<|aa (C e rfl rfl rfl)<|aa (C e rfl rfl rfl) ag) rfl) ?_;exact dC (b:=false) (λG o e=>bg.eq (dB<|cH<|bM (d:=.bl true) ⟨r.2.map D.tup,rfl,y,rfl⟩<|aa (C e rfl rfl rfl)<|aa (C e rfl rfl rfl) ag) rfl) (λz=>nomatch z) λ_=>eQ<|dO ⟨_,rfl⟩
 .obtain ⟨s,rfl⟩:=L;dsimp only;exact eJ (λG o e=>lS (b:=true)) q
def rP:bW ["_law_rules","_law_pool","_law_there","_law_head","_law_body","_law_things"] ["_law_rules","_law_pool","_law_there"] (bb rG):=⟨rfl,rfl,rfl,Z9,rfl,Z9,Z9⟩
def Lr (F:aF K "_law_closed" "_law_closed" rG f fd)(B:Bl mg)(y:aT P w K mg base 1 "_law_choices" ["_law_blanks","_law_pool"] qL)(u:aT P w K mg base 1 "_law_blanks_in" ["_law_atoms"] (bv y4))(C:aT P w K mg base 2 "_law_true" ["_law_atom","_law_there"] (spS xD))(l:aT P w K mg base 1 "_law_fill_in" ["_law_atom","_law_things"] (iL rp)):bq P w K mg base bA 3 f fd ["_law_rules","_law_pool","_law_there"] (spS A1):=by
 refine F.ok rP (Av (n:=3) λds d q0=>by obtain ⟨_,_,_,e,_⟩:=q0;rw [e];rfl) λbd A ao s H vs Q E hr h=>?_;obtain ⟨M,ds,d,lv,rs,⟨I,J,t,rfl,⟨hP,as,a0⟩,rfl⟩,q⟩:=h;have hu:=dQ hr;have a1:=fJ hr;refine ⟨_,(az (cI MD rfl (cr<|pv 0) (kP rfl<|e9 (bo 3 rP.nd)<|e9 (bo 4 rP.nd) jG)<|ay<|cI MD rfl (cr<|bB y hr<|ai (bB u hr<|ai (pv 4) ap)<|ai (pv 1) ap) (bo 5 rP.nd)<|ay<|bQ (cG<|wP B<|fm ["_law_there","_law_things","_law_atom"] [2,5] 1 (cr<|pv 4) (λ_ _ _ _ _=>(bo 2 (show (["_law_there","_law_things","_law_atom"]:ZY).Nodup from by decide+kernel))) (λ_ _ _ _ _=>je) λ_ _ _ _ _=>(jf C hr<|ai (jf l hr<|ai (pv 2)<|ai (pv 1) ap)<|ai (pv 0) ap)) (ay<|bQ (jS<|pB (by exact a1) (bB l hr<|ai (pv 3)<|ai (pv 5) ap)<|pv 2) (ay<|bm cV) ce) ce)
   (ay<|bm cV)),?_⟩
 have b0:Bx H M [] _ H [Sl.d (.lst<|J.map aY),.d (.lst I),.td t,.no,.no,.no]:=yw lv rs (by simp [Sl.own]) ["_law_rules","_law_pool","_law_there","_law_head","_law_body","_law_things"];refine aX.run b0 ?_;refine bw<|KS (i:=3) (i':=4) (c9.of λG σ e=>dH<|e.vd rfl) (λ_ L=>∃s3 s4 U,L=[Sl.d (.lst<|J.map aY),.d (.lst I),.td t,s3,s4,U]) ⟨_,_,_,rfl⟩ (λB' sB hk k x L hx N=>?_) λL N=>?_
 .obtain ⟨s3,s4,U,rfl⟩:=N;obtain ⟨r,aj,rfl⟩:=Mx.mp<|Mi hx;have O:=as r aj;have a2:=a0 r aj;obtain ⟨T,o⟩:=r;refine ⟨.tup T,cb o,rfl,?_⟩;have hI:BI (bY o) o:=O.bi;have hA:=hI.at_;have bk:o.length<=3:=O.dI;have Y:∀a∈o,∀x∈a,x.sc=true:=λa ha x hx=>((hA a ha).ok x hx).1;obtain ⟨w,xs,hw⟩:∃w xs,T=D.str w::xs:=by
   obtain ⟨w,xs,e,_⟩:=O.hd;exact ⟨w,xs,e⟩
  have ac:T≠[]:=by rw [hw];exact λz=>nomatch z
  have af:(∀x∈T,x.sc=true)/\T.length<=3:=O.hd.sc hP;refine Hv (i:=5) (Bs:=a8 [] o) (pool:=I) (λG σ e=>aa (bM ⟨o,rfl,DH hA Z4,rfl⟩<|aa (e.vd rfl) ag)<|aa (e.vd rfl) ag) (λx hx=>(hP.gp x hx).1) (HA hA) (by rcases hP.len with z|z<;>omega) (λ_ L=>∃U,L=[Sl.d (.lst<|J.map aY),.d (.lst I),.td t,.d (.tup T),.d<|cb o,U]) ⟨_,rfl⟩ (λB2 bt bx j c a3 hc N=>?_) λa3 N=>?_
  .obtain ⟨U,rfl⟩:=N;have am:=Mi hc;have an:∀p∈c,p.2.sc=true:=ro I _ [[]] c (λx hx=>(hP.gp x hx).1) (λm hm p N=>by rw [MG.mp hm] at N;cases N) am;refine dC (b:=nW (t.map (·.1)) o c) (λG σ e=>cH<|ae.eq (uI (bs:=o.map λa=>fh (t.map (·.1))<|eE c a)<|aa (ae.eq (e.comp (idx:=[2,5]) (k:=1) (i:=2) (λ_=>true) (λd=>match d with|.tup a=>.bl (fh (t.map (·.1))<|eE c a)|_=>.av) (h9<|e.v rfl) (λG' a4 d T e'=>jw) (λG' a4 d T _ e'=>?_) (by rw [Md];exact cq Z4)) ?_) ag) ?_) (λz=>?_) λz=>eQ<|dO ⟨.kd c,rfl⟩
   .obtain ⟨a,ha,rfl⟩:=Mx.mp T;have Aa:=hA a ha;exact vD ⟨eE c a,t,rfl,C8 Aa.ne (Y a ha) an λg=>(hI.gd a ha g).1,rfl⟩<|wO (e'.oZ (j:=1) (.inr rfl) Aa.ne (Y a ha) Aa.len<|e'.v rfl)<|e'.es (i:=0) rfl (λz=>nomatch z) vv
   .rw [Nc.mpr λ_ _=>rfl,MU,MU]
    rfl
   .rw [Pp]
    rfl
   .have bc:=a2 c am z;exact dC (b:=false) (λG σ e=>bg.eq (cH<|e.LF (j:=2) rfl (vm ac af.1 an)<|e.oZ (j:=5) (.inr rfl) ac af.1 (MF af.2 Z1)<|e.v rfl) (by rw [My bc];rfl)) (λz=>nomatch z) λ_=>eQ<|dO ⟨.kd c,rfl⟩
  .obtain ⟨U,rfl⟩:=N;exact dO ⟨_,_,U,rfl⟩
 .obtain ⟨s3,s4,U,rfl⟩:=N;dsimp only;exact eJ (λG σ e=>lS (b:=true)) q
end
end a5
namespace a5
open PySem L2 FL
section
variable {P:Program}{w:World}{K:PySem.W.Frag}{mg:Str->Option Value}{base:Heap}{f:Addr}{fd:FuncData}
def J2:bW ["self","asker","shared","guards"] ["self","asker","shared","guards"] (bb mX):=⟨rfl,rfl,rfl,Z9,rfl,Z9,Z9⟩
def Gp(F:aF K "__init__" "Step.__init__" mX f fd)(T:ln K C):bq P w K mg base bA 1 f fd ["self","asker","shared","guards"] (zM C):=by
 refine F.ok J2 (λk H Q E l=>by obtain ⟨_,_,_,_,_,e,_⟩:=l;rw [e];rfl) λm A d s H k Q E o h=>?_;obtain ⟨x,b,g,i,j,rfl,n,q⟩:=h;refine ⟨_,(az (fB (pv 0) (pv 1) rfl)
   (az (fB (pv 0) (pv 2) rfl)
   (az (fB (pv 0) (pv 3) rfl)
   (az (fB (pv 0) t0 rfl)
   (ay<|fB (pv 0) (kl kC aC) rfl))))),?_⟩
 refine ⟨g,rfl,.ref x,rfl,x,C,b,[],rfl,n,T.cl,T.nA,by decide,?_⟩;refine ⟨i,rfl,.ref x,rfl,x,C,b,_,rfl,aO,T.cl,T.nS,(show 1<1000 by decide),?_⟩;refine ⟨j,rfl,.ref x,rfl,x,C,b,_,rfl,aO,T.cl,T.nG,(show 2<1000 by decide),?_⟩;rw [lj,lj];intro p c;have a:p≠x:=λz=>by rw [z,aO] at c;cases c
 rw [aD a] at c;refine ⟨.ref x,rfl,x,C,b,[("asker",g),("shared",i),("guards",j)],rfl,by rw [aD<|M6 a];exact aO,T.cl,T.nO,(show 3<1000 by decide),?_⟩;rw [JC a];refine ⟨1,rfl,.ref x,rfl,x,C,b,_,rfl,aO,T.cl,T.nN,(show 4<1000 by decide),?_⟩;rw [lj];exact q p c a
def sm:bW ["self","place","fact","setting","shared_things","pairs"] ["self","place","fact"] (bb mZ):=⟨rfl,rfl,rfl,Z9,rfl,Z9,Z9⟩
def Hu(F:aF K "offer" "Step.offer" mZ f fd)(T:ln K C)(B:Bl mg)(r:aT P w K mg base 2 "matched" ["atom","fact","setting"] (bv xU)):bq P w K mg base bA 3 f fd ["self","place","fact"] (Ap C):=by
 refine F.ok sm (λvs H Q E q0=>by obtain ⟨_,_,_,_,_,_,_,e,_⟩:=q0;rw [e];rfl) λcs A bt s H vs Q E hr h=>?_;obtain ⟨Z,os,st,a,n,g,v2,rfl,lv,an,v,Y,hA,hg,hz,q⟩:=h;have ac:=fJ hr;refine ⟨_,(az (bj 3 sm.nd<|bB r hr<|ai (dR (pv 0) rfl)<|ai (pv 2)<|ai (cY ap) ap)
   (ay (bQ (cp FD (pv 3) vi) (az (bj 4 sm.nd<|sT B<|fm ["self","blank","thing"] [0] 2 (cr<|pv 3) (λ_ _ _ _ _=>(vz (n:=2) rfl<|e9 (bo 1 (show (["self","blank","thing"]:ZY).Nodup from by decide+kernel))<|e9 (bo 2 (show (["self","blank","thing"]:ZY).Nodup from by decide+kernel)) jG)) (λ_ _ _ _ _=>(io<|jS<|pr (by exact ac) (pv 1)<|pG (pv 0) rfl)) λ_ _ _ _ _=>(pv 2))
   (az (qr (i:=5) ["self","blank","thing"] [0] 2 sm.nd rfl (Or.inl rfl) (cr<|pv 3) (λ_ _ _ _ _=>(vz (n:=2) rfl<|e9 (bo 1 (show (["self","blank","thing"]:ZY).Nodup from by decide+kernel))<|e9 (bo 2 (show (["self","blank","thing"]:ZY).Nodup from by decide+kernel)) jG)) (λ_ _ _ _ _=>(io<|jS<|pB (by exact ac) (pv 1)<|pG (pv 0) rfl)) λ_ _ _ _ _=>(ef<|ai (pv 1)<|ai (pv 2) ap))
   (az (iK (CH ac (dR (pv 0) rfl) (pv 4) (cY ap) ⟨rfl,rfl,rfl,rfl⟩)<|ef<|ai (pv 1)<|ai (pv 5) ap)
   (ay<|fB (pv 0) (pv 1) rfl)))) ce))),?_⟩
 obtain ⟨dx,v0,sa,w2,l,ls,oS,G,ha,r0,as,rg,hO⟩:=an.at_;have aZ:a∈Z:=v a (by rw [G];simp);have a0:l∈Z:=v l (by rw [G];simp);have a1:∀x∈ls,x∈Z:=λx c=>v x (by rw [G];simp [c]);obtain ⟨I,af,bx⟩:∃I:ZX,(∀x,x∈a::I↔x∈Z)/\a∉I:=⟨Z.filter λy=>decide<|y≠a,λx=>by
  by_cases e:x=a
  .simp [e,aZ]
  .simp [e],by simp⟩
 have G1:ab (but H Z) (but H I):=eA λx c=>(af x).mp<|L8 _ c
 have lr:au I H:=λx c=>lv x<|(af x).mp<|L8 _ c
 have ga:but H I a=some (.ins C dx<|jJ v0 sa w2 l st.newest):=by rw [bn bx];exact ha
 have E0:ax (but H I) (L2.start ["self","place","fact","setting","shared_things","pairs"] [.ref a,.int ((n:Nat):Int),v2]) [none,some (.int ((n:Nat):Int)),some (.tup g),none,none,none]:=f9 (.raw (.dat (.int _) (.dat (Y.mono G1) .nil))) _;refine gj (i:=3) lr E0 (bM (d:=oM<|bC st.cJ g []) ⟨st.cJ,g,[],rfl,hA.sc,hg.2,(λp hp=>nomatch hp),hA.len,MI _,hA.ne,hg.1,rfl⟩<|aa (gQ T.cl T.nA rfl ga rfl<|r0.mono G1)<|aa (aI E0 rfl)<|aa (eP (ds:=pairD []) ag (hz:=MI _)) ag) λa2 H4 o4 s4 l4 E4=>?_;have c0:a2[0]?=some (some (.ref a)):=o4 0 Z1;refine ik l4 E4 (ck<|Ez<|aI E4 rfl) (λe H5 s5 l5 E5=>?_) λe H5 s5 l5 E5=>?_
 .obtain ⟨m,J⟩:∃m,bC st.cJ g []=some m:=by
   cases J:bC st.cJ g [] with
   |some m=>exact ⟨m,rfl⟩
   |none=>rw [J] at e;exact absurd e Z1
  have cv:=Cq J (λt ht=>nomatch ht) hg.2;have ct:=yP J;have c1:=hA.len;rw [J] at E5;have E5:ax (but H5 I) a2 [none,some (.int ((n:Nat):Int)),some (.tup g),some (.lst<|pairD m),none,none]:=E5;have a3:=((s4.trans s5).but I) _ _ ga;have a4:=((s4.trans s5).but I) _ _<|G1 _ _ as
  have c2:(jF m).length<=100:=by unfold jF;rw [Md];omega
  refine gj (i:=4) l5 E5 (qP<|aa (ae.eq (y6 (K:=K) (caps:=a9 [0] 2) (i:=1) (j:=2) Z1 (ps:=jF m) (p:=λq=>decide<|q.1.name∈fo st) (f:=λq=>q.2) (dH<|(aI E5 rfl).eq (by rw [zt])) (λG' v1 v2 q sG hq r1 Y=>?_) (λG' v1 v2 q sG hq _ r1 Y=>cL (by simp [a9]) Y)<|cq Z4) (by rw [G6])) ag) λc3 H6 o6 s6 l6 E6=>?_
  .obtain ⟨t,ht,rfl⟩:=Mx.mp hq;exact EK (n:=t.1) (a:=a) T.cl T.nS (by simp [a9,c0]) (sG _ _ a3) rfl (sG _ _ a4)<|cL (by simp [a9]) r1
  have d0:=(o6 0 Z1).trans c0;have b0:=(s6.but I) _ _ a3;have b6:=(s6.but I) _ _ a4;refine gj (i:=5) l6 E6 (ae.eq (y6 (K:=K) (caps:=a9 [0] 2) (i:=1) (j:=2) Z1 (ps:=jF m) (p:=λq=> !decide (q.1.name∈fo st)) (f:=λq=>.tup [q.1,q.2]) (dH<|(aI E6 rfl).eq (by rw [zt])) (λG' v1 v2 q sG hq r1 Y=>?_) (λG' v1 v2 q sG hq _ r1 Y=>aQ<|aa (cL (by simp [a9]) r1)<|aa (cL (by simp [a9]) Y) ag)<|cq Z4) (by rw [FA])) λbc H7 o7 s7 l7 E7=>?_
  .obtain ⟨t,ht,rfl⟩:=Mx.mp hq;exact Fw (n:=t.1) (a:=a) T.cl T.nS (by simp [a9,d0]) (sG _ _ b0) rfl (sG _ _ b6)<|cL (by simp [a9]) r1
  have S7:ab H H7:=s4.trans<|s5.trans<|s6.trans s7
  have e0:bc[0]?=some (some (.ref a)):=(o7 0 Z1).trans d0;have aj:=S7 _ _ ha;have b7:ax (but H7 Z) bc [none,some (.int ((n:Nat):Int)),some (.tup g),some (.lst<|pairD m),some (.tup<|dv (fo st) m),some (.lst<|pairD<|restOf (fo st) m)]:=by
   have:=E7.fi aj rfl;rw [jQ af] at this;exact this
  have b8:but H7 (ls++l::Z)=but H7 Z:=jQ<|tj a0 a1
  have cd:au (ls++l::Z) H7:=λx c=>(lv.same S7) x<|(tj a0 a1 x).mp c
  have L:=b7;rw [<-b8] at L;refine EU (K:=K) (to:=lA K (aU 0) "offers") (ty:=aU 4) (te:=tQ<|bu (aU 1)<|bu (aU 5) bL) (M:=Z) (o:=(n,restOf (fo st) m)) (key:=dv (fo st) m) cd (λQ q=>⟨.ref a,e0,a,C,dx,_,.ref l,rfl,aj,T.cl,T.nO,rfl,q⟩) (hO.same S7) (Kf cv _) hz (aI L (i:=4) rfl) (aQ<|aa (aI L (i:=1) rfl)<|aa (aI L (i:=5) rfl) ag) λk H8 n8 i8 k8 l8 O8=>?_;have N:a≠l:=λz=>by
   obtain ⟨c4,O,_⟩:=hO.kvs;rw [<-z,ha] at O;cases O
  have bd:a∉ls:=λz=>by
   obtain ⟨vs,O⟩:=hO.lists a z;rw [ha] at O;cases O
  have bi:=k8 _ _ N bd aj;have am:a∉k:=λz=>by
   obtain ⟨vs,O⟩:=O8.lists a z;rw [bi] at O;cases O
  obtain ⟨u1,bk,ch⟩:=E7.get 1 _ rfl;have co:=ch.eM;subst co;refine ⟨.int ((n:Nat):Int),bk,.ref a,e0,a,C,dx,_,rfl,bi,T.cl,T.nN,(show 5<1000 by decide),?_⟩;have U:∀x∈a::l::k,x∈os\/H x=none:=λx c=>by
   rw [G];rcases Mn.mp c with z|z
   .exact .inl (by rw [z];simp)
   .rcases Mn.mp z with z|z
    .exact .inl (by rw [z];simp)
    .rcases n8 x z with w|w
     .exact .inl (by simp [w])
     .refine .inr ?_
      cases qq:H x with
      |none=>rfl
      |some u=>rw [S7 _ _ qq] at w;cases w
  have bl:∀x∈os,x∈a::l::k:=λx c=>by
   rw [G] at c;rcases Mn.mp c with z|z
   .rw [z];simp
   .rcases Mn.mp z with z|z
    .rw [z];simp
    .exact L8 _<|L8 _<|i8 x z
  have bs:∀b u,b∉os->H b=some u->upd H8 a (.ins C dx<|jJ v0 sa w2 l ((n:Nat):Int)) b=some u:=λb u hb qb=>by
   rw [G] at hb;simp only [Mn,Q2] at hb;rw [aD hb.1];exact k8 b u hb.2.1 hb.2.2<|S7 _ _ qb
  have SZ:ab (but H Z) (but (upd H8 a (.ins C dx<|jJ v0 sa w2 l ((n:Nat):Int)))<|(a::l::k)++Z):=uR U v bs;have O9:eU (upd H8 a (.ins C dx<|jJ v0 sa w2 l ((n:Nat):Int))) ((a::l::k)++Z) l k (st.of++[(dv (fo st) m,(n,restOf (fo st) m))]):=by
   have hc:∀x,x∈k++l::Z↔x∈k++l::((a::l::k)++Z):=λx=>by
    simp only [MB,Mn];constructor
    .rintro (z|z|z)
     .exact .inl z
     .exact .inr (.inl z)
     .exact .inr (.inr (.inr z))
    .rintro (z|z|(z|z|z)|z)
     .exact .inl z
     .exact .inr (.inl z)
     .exact .inr (.inr (by rw [z];exact aZ))
     .exact .inr (.inl z)
     .exact .inl z
     .exact .inr (.inr z)
   refine (O8.JF hc).frame Z8 (λx c=>by simp [c]) Z8 (λx c=>by simp [c]) (λb u hb qb=>?_) ?_
   .rw [aD]
    .exact qb
    .intro z;rcases Mn.mp hb with w|w
     .exact N (by rw [<-z,w])
     .exact am (by rw [<-z];exact w)
   .rw [dN Z8]
    exact ab.refl _
  refine q (a::l::k) _ U bl bs (λx c=>?_) ?_
  .refine (l8.upd (a:=a)) x ?_
   rcases MB.mp c with z|z
   .rcases Mn.mp z with z|z
    .rw [z];exact Ml _<|L8 _ aZ
    .rcases Mn.mp z with z|z
     .rw [z];exact Ml _ Mc
     .exact Ms _ z
   .exact Ml _<|L8 _ z
  .have eS:cK st n g={st with of:=st.of++[(dv (fo st) m,(n,restOf (fo st) m))],newest:=n}:=by unfold cK;rw [J]
   rw [eS];exact ⟨⟨dx,v0,sa,w2,l,k,oS,rfl,aO,r0.mono SZ,SZ _ _ as,rg.mono SZ,O9⟩⟩
 .have J:bC st.cJ g []=none:=by
   cases J:bC st.cJ g [] with
   |none=>rfl
   |some m=>rw [J] at e;exact absurd e (by simp [oM])
  have S5:=s4.trans s5;have eS:cK st n g=st:=by unfold cK;rw [J]
  have hc:∀x,x∈os++Z↔x∈Z:=λx=>⟨λh=>by
   rcases MB.mp h with z|z
   .exact v x z
   .exact z,λh=>Ml _ h⟩
  refine q os H5 (λx c=>.inl c) (λx c=>c) (λb u _ qb=>S5 _ _ qb) (λx c=>(lv.same S5) x<|(hc x).mp c) ?_;rw [eS];refine an.frame v (λx c=>Ms _ c) (λb u _ qb=>S5 _ _ qb) ?_;rw [jQ hc];exact S5.but Z
end
end a5
namespace a5
open PySem L2 FL
section
variable {P:Program}{w:World}{K:PySem.W.Frag}{mg:Str->Option Value}{base:Heap}{f:Addr}{fd:FuncData}
def xz:bW ["self","setting","guard","slots"] ["self","setting"] (bb nC):=⟨rfl,rfl,rfl,Z9,rfl,Z9,Z9⟩
def Js(F:aF K "allows" "Step.allows" nC f fd)(T:ln K C)(B:Bl mg)(k:aT P w K mg base 1 "filled" ["atom","setting"] (bv pO))(l:aT P w K mg base 1 "holds" ["guard"] (bv rj)):bq P w K mg base bA 2 f fd ["self","setting"] (vo C):=by
 refine F.ok xz (λvs H Q E q0=>by obtain ⟨_,_,_,_,_,e,_⟩:=q0;rw [e];rfl) λa2 A ac s H vs Q E hr h=>?_;obtain ⟨M,st,S,v0,v1,rfl,lv,af,r1,hS,hg,q⟩:=h;obtain ⟨a,dx,w0,sa,w3,ao,oS,rfl,ga,g0,g1,g3,g2⟩:=af;refine ⟨_,(az (cI MD rfl (cr<|dR (pv 0) rfl) (kP rfl<|e9 (bo 2 xz.nd)<|e9 (bo 3 xz.nd) jG)<|ay<|bQ (dA<|cG<|bB l hr<|ai (bB k hr<|ai (pv 2)<|ai (fm ["setting","slot"] [1] 1 (cr<|pv 3) (λ_ _ _ _ _=>(bo 1 (show (["setting","slot"]:ZY).Nodup from by decide+kernel))) (λ_ _ _ _ _=>je) λ_ _ _ _ _=>(jU (pv 0)<|pv 1)) ap) ap) (ay<|bm cV) ce)
   (ay<|bm cV)),?_⟩
 have E0:ax (but H M) (L2.start ["self","setting","guard","slots"] [.ref a,v1]) [none,some (.lst<|pairD S),none,none]:=f9 (.raw (.dat r1 .nil)) _;refine gZ (M:=M) (ds:=st.gs.map kN) (dH<|gQ T.cl T.nG rfl ga rfl g3) lv λH1 I=>?_;refine ⟨λj b G=>ab H1 G/\b[0]?=some (some (.ref a))/\ax (but G M) b [none,some (.lst<|pairD S),none,none]/\fg S (st.gs.take j)=true,⟨ab.refl _,rfl,E0.same I,rfl⟩,λj b G q3=>by obtain ⟨x,_⟩:=q3;exact ⟨x.but M,(lv.same I).same x⟩,?_,?_⟩
 .rintro j d x b G J o ⟨L,i0,E',c⟩ Y rx
  obtain ⟨g,t,rfl⟩:∃g,st.gs[j]?=some g/\d=kN g:=by
   rw [Mo] at o;cases e:st.gs[j]? with
   |none=>rw [e] at o;cases o
   |some y=>rw [e] at o;exact ⟨y,rfl,(Mu o).symm⟩
  obtain ⟨⟨r,a1,b1,eg,N,O,aj⟩,hi,hz⟩:=hg g<|Mi t;refine mo rx λu1 u2 q1 q2=>?_;have E3:ax (but J M) ((b.set 2<|some u1).set 3<|some u2) [none,some (.lst<|pairD S),some (.tup g.1),some (.lst<|g.2.map λn=>D.int (n:Nat))]:=((E'.same Y).set 2 q1).set 3 q2;have l3:au M J:=(lv.same<|I.trans L).same Y;obtain ⟨vS,am,rS⟩:=E3.get 1 _ rfl;have hp:=By hS hi;have cv:∀y∈g.1,y.sc=true:=λy hy=>by
   rw [eg] at hy;simp only [Mn,MR,M9] at hy;rcases hy with rfl|rfl|rfl
   .rfl
   .exact N
   .exact O
  have an:cj (eo S g.2) (.str r)=.str r:=by
   refine kK ?_;cases e:ff (eo S g.2) (.str r) with
   |false=>rfl
   |true=>
    obtain ⟨p,u,e2⟩:=Pj.mp e;have e2:D.str p.1=.str r:=MC e2;have:=(hp p u).2;rw [e2,aj] at this;cases this
  have m:g.1.map (cj<|eo S g.2)=[.str r,cj (eo S g.2) a1,cj (eo S g.2) b1]:=by
   rw [eg,MW,MW,MW,an];rfl
  have z:∀p∈eo S g.2,p.2.sc=true:=λp u=>(hp p u).1;have U:holdsA (g.1.map<|cj<|eo S g.2)=holdsD r (cj (eo S g.2) a1) (cj (eo S g.2) b1):=by rw [m];rfl
  have as:=bM (R:=rj) (E:=L2.E0) (d:=.bl<|holdsA<|g.1.map<|cj<|eo S g.2) (ds:=[.tup<|g.1.map<|cj<|eo S g.2]) ⟨r,_,_,by rw [m],(kM N z).2,(kM O z).2,by rw [U]⟩
   (aa (bM (R:=pO) (E:=L2.E0) (ds:=[.tup g.1,.lst<|pairD<|eo S g.2]) ⟨g.1,eo S g.2,rfl,cv,z,by rw [eg];exact (show 3<=1000 by decide),rfl⟩<|aa (aI E3 (i:=2) rfl)<|aa (ae.eq (gP (caps:=a9 [1] 1) (i:=1) (p:=λ_=>true) (f:=λd=>match d with|.int n=>Ah (S.getD n.toNat (("":Str),.av))|_=>.av) (tt:=lh) (te:=bJ (d6 K) (aU 0)<|aU 1) (dH (K:=K)<|aI E3 (i:=3) rfl) (λG' v d _ _ _=>jw) (λG' v d sG o _ rv=>?_) (by rw [Md];exact cq Z4)) ?_) ag) ag)
  .refine ik l3 E3 (dB<|cH as) (λe H4 s4 l4 E4=>?_) (λe H4 s4 l4 E4=>nx ?_)
   .have hf:fg S st.gs=false:=by
     unfold fg;rw [List.all_eq_false];exact ⟨g,Mi t,by simpa using e⟩
    rw [hf] at q;exact q H4<|I.trans<|L.trans<|Y.trans s4
   .refine ⟨L.trans<|Y.trans s4,?_,(E4.drop 2).drop 3,?_⟩
    .rw [Me Z1,Me Z1];exact i0
    .unfold fg at c⊢;rw [MX,t,List.all_append,c];simpa using e
  .obtain ⟨n,hn,rfl⟩:=Mx.mp o;have a0:=hi n hn;have h0:((a9 [1] 1<|(b.set 2<|some u1).set 3<|some u2).set 1<|some v)[0]?=some (some vS):=by simp only [a9,MW,OR,am];rfl
   have h1:((a9 [1] 1<|(b.set 2<|some u1).set 3<|some u2).set 1<|some v)[1]?=some (some v):=by simp [a9]
   refine cy (ds:=pairD S) ?_ (cL h0<|rS.mono sG)<|cL h1 rv
   refine lK Z4 ?_;show (pairD S)[n]?=some (Ah<|S.getD n (("":Str),.av));unfold pairD;rw [Mo,List.getD,Mb a0];rfl
  .rw [Nc.mpr λ_ _=>rfl]
   unfold eo pairD;rw [MU,MU];rfl
 .rintro b G ⟨L,i0,E',c⟩
  rw [Md,MQ<|Mh _] at c;rw [c] at q;exact q G<|I.trans L
def kU:bW ["self","way","lowest","setting","places","shared_things","found","place","pairs","further"] ["self","way","lowest"] (bb mh):=⟨rfl,rfl,rfl,Z9,rfl,Z9,Z9⟩
def F6(F:aF K "carry_on" "Step.carry_on" mh f fd)(T:ln K C)(B:Bl mg)(t:eB P w K mg base 2 C "allows" ["self","setting"] (vo C)):bq P w K mg base bA 3 f fd ["self","way","lowest"] (wa C):=by
 refine F.ok kU (λvs H Q E q0=>by obtain ⟨_,_,_,_,_,_,e,_⟩:=q0;rw [e];rfl) λeg A cd s H vs Q E hr h=>?_;obtain ⟨M,st,w0,lo,v0,v1,rfl,lv,an,r1,hS,a0,a1,Y,q⟩:=h;obtain ⟨a,dx,w1,sa,w3,ao,oS,rfl,ga,g0,gs,g3,g2⟩:=id an;have ch:=fJ hr;have mE:=T.cl;refine ⟨_,(az (bj 3 kU.nd<|aS (pv 1) aC)
   (az (bj 4 kU.nd<|aS (pv 1) aC)
   (az (bj 5 kU.nd<|sT B<|fm ["setting","slot"] [3] 1 (FS<|JP<|dR (pv 0) rfl) (λ_ _ _ _ _=>(bo 1 (show (["setting","slot"]:ZY).Nodup from by decide+kernel))) (λ_ _ _ _ _=>je) λ_ _ _ _ _=>(jU (jU (pv 0)<|pv 1) aC))
   (az (bj 6 kU.nd<|cY ap)
   (az (cI MD rfl (Iy B.reversed<|ai (sR ch (dR (pv 0) rfl) (pv 5) (cY ap) ⟨rfl,rfl,rfl,rfl⟩) ap) (kP rfl<|e9 (bo 7 kU.nd)<|e9 (bo 8 kU.nd) jG) (az (bQ (cp ka (pv 7)<|pv 2) (ay LL) ce)
   (az (bj 9 kU.nd<|cQ m9 (pv 3)<|pv 8)
   (ay<|bQ (cG<|j8 (pv 0) mE t hr<|ai (pv 9) ap) (ay<|iK (pv 6)<|ef<|ai (pv 9)<|ai (cQ yQ (pv 4)<|ef<|ai (pv 7) ap) ap) ce))))
   (ay<|bm<|pv 6)))))),?_⟩
 have E0:ax (but H M) (L2.start ["self","way","lowest","setting","places","shared_things","found","place","pairs","further"] [.ref a,v1,.int lo]) [none,some<|db w0,some (.int lo),none,none,none,none,none,none,none]:=f9 (.raw (.dat r1 (.dat (.int lo) .nil))) _;obtain ⟨S,c⟩:=w0;have hS:jL S:=hS;have a0:S.length<=500:=a0;have a1:c.length<=500:=a1;have Y:kq S.length st:=Y;refine gj (i:=3) lv E0 (bK (ds:=[.lst<|pairD S,.tup<|c.map λn=>D.int (n:Nat)]) (d:=.lst<|pairD S) gO (aI E0 rfl) aq) λei H1 o1 s1 l1 E1=>?_;refine gj (i:=4) l1 E1 (bK (ds:=[.lst<|pairD S,.tup<|c.map λn=>D.int (n:Nat)]) (d:=.tup<|c.map λn=>D.int (n:Nat)) rfl (aI E1 rfl) aq) λac H2 o2 s2 l2 E2=>?_;have a2:ac[0]?=some (some (.ref a)):=(o2 0 Z1).trans<|(o1 0 Z1).trans rfl
 have a3:ab (but H M) (but H2 M):=(s1.trans s2).but M;obtain ⟨vS,co,rS⟩:=E2.get 3 _ rfl;have cs:(fV st.shared).map (·.2)=(st.shared.map λp=>((p.2:Nat):Int)).map V.int:=by unfold fV;rw [MU,MU];rfl
 refine gj (i:=5) (d:=.tup<|f8 S<|gL st) l2 E2 (qP<|aa (ae.eq (gP (caps:=a9 [3] 1) (i:=1) (p:=λ_=>true) (f:=λd=>match d with|.int n=>(S.getD n.toNat (("":Str),.av)).2|_=>.av) (tt:=lh) (te:=bJ (d6 K) (bJ (d6 K) (aU 0)<|aU 1)<|tC (.int 1)) (FV (lC T.cl T.nS a2 (a3 _ _ ga) rfl) (a3 _ _ gs) cs) (λG' v d _ _ _=>jw) (λG' v d sG hd _ rv=>?_) (by rw [Md,Md];have:=Y.shl;exact cq Z4)) ?_) ag) λej H3 o3 s3 l3 E3=>?_
 .obtain ⟨z,ct,rfl⟩:=Mx.mp hd;obtain ⟨p,c1,rfl⟩:=Mx.mp ct;have af:=Y.sh p.2<|Mx.mpr ⟨p,c1,rfl⟩;generalize p.2=n at af rv;have h0:((a9 [3] 1 ac).set 1<|some v)[0]?=some (some vS):=by simp only [a9,MW,OR,co];rfl
  have h1:((a9 [3] 1 ac).set 1<|some v)[1]?=some (some v):=by simp [a9]
  have hp:(pairD S)[n]?=some (.tup [.str S[n].1,S[n].2]):=by unfold pairD;rw [Mo,Mb af];rfl
  have hg:S.getD n (("":Str),.av)=S[n]:=by rw [List.getD,Mb af];rfl
  refine ae.eq (bK (ds:=[.str S[n].1,S[n].2]) (d:=S[n].2) rfl (cy (ds:=pairD S) (d:=.tup [.str S[n].1,S[n].2]) (lK (i:=(n:Int)) Z4 (by rw [Od];exact hp)) (cL h0<|rS.mono sG)<|cL h1 rv) aq) ?_;show S[n].2=(S.getD (n:Int).toNat (("":Str),.av)).2;rw [Od,hg]
 .show D.lst _=D.lst (f8 S<|gL st);rw [Nc.mpr λ_ _=>rfl];unfold f8 eo gL;rw [MU,MU,MU,MU];rfl
 have a4:=Lp hS Y.sh;refine nZ (i:=6) l3 E3 Z8 ag (MI _) λb c2 c3 H5 o5 i5 n5 h5 r5 l5 k5 E5=>?_;have bc:ab H H5:=(s1.trans<|s2.trans s3).trans λb o e=>(k5 b o e).2;have aj:H b=none:=none_of (s1.trans<|s2.trans s3) k5;have SG:ab (but H M) (but H5 (b::M)):=i6 aj bc;have bd:c3[0]?=some (some (.ref a)):=(o5 0 Z1).trans<|(o3 0 Z1).trans a2
 generalize bi:f8 S (gL st)=m at a4 E5 q;unfold fq at q;rw [show f8 ((S,c):aH).1 (gL st)=m from bi] at q;have c4:((fe st.of m).reverse).length<=st.of.length:=by rw [P1];exact MO _ _
 have bk:∀o∈(fe st.of m).reverse,o∈st.of:=λo hm=>(Mq.mp<|NU.mp hm).1;have bl:(iC st.of m).reverse=((fe st.of m).reverse).map λo=>nn o.2:=by unfold iC;rw [Qy]
 generalize (fe st.of m).reverse=L at q c4 bk bl;refine gZ (M:=b::M) (ds:=L.map λo=>nn o.2) (by
  have:=JV (K:=K) (aa (DK T.cl T.nO bd (SG _ _ ga) rfl (g2.mono SG) a4<|aI E5 (i:=5) rfl) ag);rw [bl] at this;exact this) l5 λH6 s6=>?_
 refine ⟨λj k J=>∃ws,k[0]?=some (some (.ref a))/\k[6]?=some (some (.ref b))/\J b=some (.lst ws)/\aE (but J (b::M)) ws (((L.take j).map<|fR (S,c)).filter (λx=>fg x.1 st.gs)|>.map db)/\ab H J/\au (b::M) J/\ab (but H6 (b::M)) (but J (b::M))/\ax (but J (b::M)) k [none,some<|db (S,c),some (.int lo),some (.lst<|pairD S),some (.tup<|c.map λn=>D.int (n:Nat)),some (.tup m),none,none,none,none]/\∀o∈L.take j,fresh lo o=true,
  ⟨c2,bd,i5,s6 _ _ h5,r5.mono<|s6.but _,bc.trans s6,l5.same s6,ab.refl _,E5.same s6,λo hm=>by simp at hm⟩,λj k J q3=>by obtain ⟨_,_,_,_,_,_,x,y,_,_⟩:=q3;exact ⟨y,x⟩,?_,?_⟩
 .rintro j d x k J bs hd ⟨ws,j0,j5,hb,rb,S0,l',S',E',u⟩ r rx
  obtain ⟨o,G,rfl⟩:∃o,L[j]?=some o/\d=nn o.2:=by
   rw [Mo] at hd;cases e:L[j]? with
   |none=>rw [e] at hd;cases hd
   |some y=>rw [e] at hd;exact ⟨y,rfl,(Mu hd).symm⟩
  have dc:=Mi G;have am:=Y.of o<|bk o dc
  have ek:=(Ma.mp G).1;have ed:=Y.uM;refine mo rx λu1 u2 q1 q2=>?_;have E7:ax (but bs (b::M)) ((k.set 7<|some u1).set 8<|some u2) [none,some<|db (S,c),some (.int lo),some (.lst<|pairD S),some (.tup<|c.map λn=>D.int (n:Nat)),some (.tup m),none,some (.int (o.2.1:Nat)),some (.lst<|pairD o.2.2),none]:=((E'.same r).set 7 q1).set 8 q2;have l7:=l'.same r;have c0:((k.set 7<|some u1).set 8<|some u2)[0]?=some (some (.ref a)):=by rw [Me Z1,Me Z1];exact j0
  have c5:((k.set 7<|some u1).set 8<|some u2)[6]?=some (some (.ref b)):=by rw [Me Z1,Me Z1];exact j5
  have dd:pairD S++pairD o.2.2=pairD (S++o.2.2):=by unfold pairD;rw [MK]
  have bt:∀ps:aR,(pairD ps).length=ps.length:=λps=>by unfold pairD;rw [Md]
  refine ik l7 E7 (ck<|kD (aI E7 rfl)<|aI E7 rfl) (λe bx I b0 N=>?_) λe bx I b0 N=>?_
  .have di:fresh lo o=false:=by
    have h1:=MC e;unfold FL.fresh;exact MH Z4
   refine ⟨.ref b,c5,q (.ref b) bx (S0.trans<|r.trans I)<|me n5 (I _ _<|r _ _ hb) ?_⟩;rw [BW u G di];exact rb.mono<|(r.trans I).but _
  refine nx ?_;have b6:fresh lo o=true:=by
   have h1:=Ni e;unfold FL.fresh;exact My Z4
  have U:∀x∈L.take (j+1),fresh lo x=true:=λx hx=>by
   rw [MX,G] at hx;rcases MB.mp hx with z|z
   .exact u x z
   .have:x=o:=by simpa using z
    rw [this];exact b6
  refine gj (i:=9) b0 N ((mj (by rw [bt,bt];have:=am.2.1;omega) (aI N rfl)<|aI N rfl).eq (by rw [dd])) λel H8 o8 s8 l8 E8=>?_;have l:ab bs H8:=I.trans s8;have d0:=(o8 0 Z1).trans c0;have d5:=(o8 6 Z1).trans c5;have dp:jL (S++o.2.2):=λp hp=>by
   rcases MB.mp hp with z|z
   .exact hS p z
   .exact am.1 p z
  have dt:ab (but H M) (but H8 (b::M)):=i6 aj<|S0.trans<|r.trans l
  have tk:(L.take<|j+1).map (fR (S,c))=(L.take j).map (fR (S,c))++[(S++o.2.2,c++[o.2.1])]:=by
   rw [MX,G,MK];rfl
  refine ik l8 E8 (GF d0 (an.mono dt) dp (λg hg=>by rw [Mv];exact am.2.2 g hg)<|aI E8 rfl) (λe H9 O l9 E9=>?_) λe H9 O l9 E9=>nx ?_
  .have d1:∀(L:List aH),((L.filter λx=>fg x.1 st.gs).map db).length<=L.length:=λL=>by rw [Md];exact MO _ _
   have b7:=d1<|(L.take j).map<|fR (S,c)
   rw [Md (as:=List.take j L),MT] at b7;refine qZ l9 E9 (a:=b) Z8 d5 (O _ _<|l _ _<|r _ _ hb) (rb.mono<|(r.trans<|l.trans O).but _) (cq<|MF b7 Z4) (aQ<|aa (aI E9 rfl)<|aa (yd (by simp;omega) (aI E9 rfl)<|aQ<|aa (aI E9 rfl) ag) ag) λem d2 b8 d3 d4 ea eb=>?_;have ec:ab (but H9 (b::M)) (but d2 (b::M)):=mJ Z8 b8;refine ⟨_,d0,d5,d4,?_,mN (S0.trans<|r.trans<|l.trans O) aj b8,d3,S'.trans<|((r.trans<|l.trans O).but _).trans ec,((eb.drop 7).drop 8).drop 9,U⟩;rw [tk,Nu,MK];have e1:List.map db (List.filter (λx=>fg x.1 st.gs) [((S++o.2.2,c++[o.2.1]):aH)])=[db (S++o.2.2,c++[o.2.1])]:=by simp [e]
   rw [e1];have e2:db (S++o.2.2,c++[o.2.1])=.tup [.lst<|pairD<|S++o.2.2,.tup<|(c.map λn=>D.int (n:Nat))++[.int (o.2.1:Nat)]]:=by unfold db;rw [MK];rfl
   rw [e2];exact ea
  .refine ⟨ws,d0,d5,O _ _<|l _ _<|r _ _ hb,?_,S0.trans<|r.trans<|l.trans O,l9,S'.trans<|(r.trans<|l.trans O).but _,((E9.drop 7).drop 8).drop 9,U⟩
   rw [tk,Nu,MK];have e1:List.map db (List.filter (λx=>fg x.1 st.gs) [((S++o.2.2,c++[o.2.1]):aH)])=[]:=by simp [e]
   rw [e1,MP];exact rb.mono<|(r.trans<|l.trans O).but _
 .rintro k J ⟨ws,j0,j5,hb,rb,S0,l',S',E',u⟩
  rw [Md,MQ<|Mh _] at rb u;refine ⟨.ref b,j5,q (.ref b) J S0<|me n5 hb ?_⟩;rw [pR u];exact rb
end
end a5
namespace a5
open PySem L2 FL
section
variable {P:Program}{w:World}{K:PySem.W.Frag}{mg:Str->Option Value}{base:Heap}{f:Addr}{fd:FuncData}
def kE:bW ["body","waiting","slots","steps","asker","shared","blank","guards"] ["body"] (bb sj):=⟨rfl,rfl,rfl,Z9,rfl,Z9,Z9⟩
def Et(F:aF K "steps_for" "steps_for" sj f fd)(B:Bl mg)(L:aT P w K mg base 2 "guards_in" ["body"] (bv qf))(N:aT P w K mg base 2 "askers_in" ["body"] (bv vn))(c:aT P w K mg base 2 "blanks_in" ["atom"] (bv oN))(U:aT P w K mg base 3 "slots_of" ["atom","slots"] (iL xi))(G:aT P w K mg base 4 "is_ready" ["guard","slots"] (iL zl))(bc:jI P w K mg base 1 C "Step" ["self","asker","shared","guards"] (zM C)):bq P w K mg base bA 6 f fd ["body"] (zX C):=by
 refine F.ok kE (λvs H Q E q0=>by obtain ⟨_,_,_,e,_⟩:=q0;rw [e];rfl) λf1 A el s H vs Q E hr h=>?_;obtain ⟨M,O,v0,rfl,lv,r1,hB,q⟩:=h;have hu:=dQ hr;have bs:=fJ hr;refine ⟨_,(az (qr (i:=1) ["guard"] [] 1 kE.nd rfl (Or.inl rfl) (cr<|bB L hr<|ai (pv 0) ap) (λ_ _ _ _ _=>(bo 0<|jR _)) (λ_ _ _ _ _=>(io<|BO (jf c hr<|ai (pv 0) ap) λ_=>rfl)) λ_ _ _ _ _=>(pv 0))
   (az (bj 2 kE.nd pT)
   (az (bj 3 kE.nd<|cY ap)
   (az (cI MD rfl (cr<|bB N hr<|ai (pv 0) ap) (bo 4 kE.nd) (az (bj 5 kE.nd<|LR<|uK B<|fm ["slots","blank"] [2] 1 (cr<|bB c hr<|ai (pv 4) ap) (λ_ _ _ _ _=>(bo 1 (show (["slots","blank"]:ZY).Nodup from by decide+kernel))) (λ_ _ _ _ _=>(io<|jS<|pr (by exact bs) (pv 1)<|pv 0)) λ_ _ _ _ _=>(ef<|ai (pv 1)<|ai (zI (by exact bs) (pv 0) (pv 1) λ_ _=>rfl) ap))
   (az (cI MD rfl (cr<|bB c hr<|ai (pv 4) ap) (bo 6 kE.nd)<|ay<|iT<|CH bs (pv 2) (pv 6) (LC B<|pv 2) ⟨rfl,rfl,rfl,rfl⟩)
   (az (qr (i:=7) ["slots","guard"] [2] 1 kE.nd rfl (Or.inl rfl) (cr<|pv 1) (λ_ _ _ _ _=>(bo 1 (show (["slots","guard"]:ZY).Nodup from by decide+kernel))) (λ_ _ _ _ _=>(io<|cG<|jf G hr<|ai (pv 1)<|ai (pv 0) ap)) λ_ _ _ _ _=>(ef<|ai (pv 1)<|ai (jf U hr<|ai (pv 1)<|ai (pv 0) ap) ap))
   (az (qr (i:=1) ["slots","guard"] [2] 1 kE.nd rfl (Or.inl rfl) (cr<|pv 1) (λ_ _ _ _ _=>(bo 1 (show (["slots","guard"]:ZY).Nodup from by decide+kernel))) (λ_ _ _ _ _=>(io<|dA<|cG<|jf G hr<|ai (pv 1)<|ai (pv 0) ap)) λ_ _ _ _ _=>(pv 1))
   (ay<|iK (pv 3)<|wE bc hr<|ai (pv 4)<|ai (pv 5)<|ai (pv 7) ap))))))
   (ay<|bm<|pv 3))))),?_⟩
 have E0:ax (but H M) (L2.start ["body","waiting","slots","steps","asker","shared","blank","guards"] [v0]) [some<|cb O,none,none,none,none,none,none,none]:=f9 (.dat r1 .nil) _;have em:(O.filter aJ).length<=100:=MF (MO _ _) hB.2;refine gj (i:=1) (d:=cF<|(O.filter aJ).filter dj) lv E0 (ae.eq (gP (caps:=a9 [] 1) (i:=0) (p:=uv dj) (f:=λd=>d) (dH (ds:=(O.filter aJ).map D.tup)<|bM ⟨O,rfl,hB.1,hB.2,rfl⟩<|aa (aI E0 rfl) ag) (λG' v d sG J r=>?_) (λG' v d sG J _ r=>cL (by simp [a9]) r) (by rw [Md];exact cq Z4)) ?_) λf2 H1 o1 s1 l1 E1=>?_
 .obtain ⟨g,hg,rfl⟩:=Mx.mp J;exact xW<|bM (d:=fY<|ak [] g) ⟨g,rfl,hB.1 g (Mq.mp hg).1,rfl⟩<|aa (cL (by simp [a9]) r) ag
 .exact M7 D.lst<|tm _ dj _ D.tup _ (λ_ _=>rfl) λ_ _=>rfl
 refine wn (i:=2) l1 E1 Z8 λp f3 H2 o2 i2 n2 h2 l2 k2 E2=>?_;refine nZ (i:=3) l2 E2 Z8 ag (MI _) λb en ep H3 o3 i3 n3 h3 r3 l3 k3 E3=>?_;have er:ep[2]?=some (some (.ref p)):=(o3 2 Z1).trans i2;obtain ⟨a0,es⟩:=k3 _ _ h2;have co:en=[]:=by cases r3;rfl
 subst co;have cs:ab H1 H2:=λx o e=>(k2 x o e).2;have et:ab H2 H3:=λx o e=>(k3 x o e).2;have eu:ab H H3:=s1.trans<|cs.trans et
 have ev:H p=none:=none_of s1 k2;have ct:H b=none:=none_of (s1.trans cs) k3;have ew:b∉M:=λz=>n3<|L8 _ z
 have ex:(O.filter λa=> !aJ a).length<=100:=MF (MO _ _) hB.2;have c0:∀a∈(O.filter λa=> !aJ a),dF a:=λa ha=>hB.1 a (Mq.mp ha).1;refine gZ (M:=b::p::M) (ds:=(O.filter λa=> !aJ a).map D.tup) (dH<|bM ⟨O,rfl,hB.1,hB.2,rfl⟩<|aa (aI E3 rfl) ag) l3 λH4 s4=>?_;unfold eY at q;generalize ft:(O.filter λa=> !aJ a)=ac at q ex c0;have c1:∀g∈(O.filter aJ).filter dj,dF g:=λg hg=>hB.1 g (Mq.mp (Mq.mp hg).1).1;have c2:((O.filter aJ).filter dj).length<=100:=MF (MO _ _) em;generalize (O.filter aJ).filter dj=W0 at q c1 c2 E3;refine ⟨λj t T=>∃m Wj done us am,cP ac [] W0=done++cP (ac.drop j) m Wj/\m.length<=100*j/\done.length<=j/\(∀g∈Wj,dF g)/\Wj.length<=100/\t[2]?=some (some (.ref p))/\t[3]?=some (some (.ref b))/\T p=some (.dK<|dZ m)/\T b=some (.lst us)/\gM C (but T (b::p::M)) us am done/\(∀os∈am,∀x∈os,H x=none)/\ab H T/\au (b::p::M) T/\ab (but H4 (b::p::M)) (but T (b::p::M))/\ax (but T (b::p::M)) t [some<|cb O,some<|cF Wj,none,none,none,none,none,none],
  ⟨[],W0,[],[],[],rfl,Mh _,Mh _,c1,c2,er,i3,s4 _ _ es,s4 _ _ h3,.nil,(λos ho=>nomatch ho),eu.trans s4,l3.same s4,ab.refl _,E3.same s4⟩,λj t T q1=>by obtain ⟨_,_,_,_,_,_,_,_,_,_,_,_,_,_,_,_,_,x,y,_⟩:=q1;exact ⟨y,x⟩,?_,?_⟩
 .rintro j d x t T bt J ⟨m,Wj,done,us,am,I,ey,ez,a1,bi,j3,j4,hp,hb,a2,a3,S0,l',S',E'⟩ s5 rx
  obtain ⟨a,c3,rfl⟩:∃a,ac[j]?=some a/\d=.tup a:=by
   rw [Mo] at J;cases e:ac[j]? with
   |none=>rw [e] at J;cases J
   |some y=>rw [e] at J;exact ⟨y,rfl,(Mu J).symm⟩
  have bx:=c0 a<|Mi c3
  obtain ⟨e0,e1⟩:=Ma.mp c3;rw [N9 e0,e1] at I;have E5:ax (but bt (b::p::M)) (t.set 4<|some x) [some<|cb O,some<|cF Wj,none,none,some (.tup a),none,none,none]:=(E'.same s5).set 4 rx;have b3:(t.set 4<|some x)[2]?=some (some (.ref p)):=(Me Z1).trans j3;have b4:(t.set 4<|some x)[3]?=some (some (.ref b)):=(Me Z1).trans j4;have c4:=s5 _ _ hp;have l5:=l'.same s5;have lV:∀{X:Hp},au (b::p::M) X->au (b::M) X:=λl z hz=>l z (by
   rcases Mn.mp hz with w|w
   .rw [w];exact Mc
   .exact L8 _<|L8 _ w)
  have pV:p∉b::M:=λz=>by
   rcases Mn.mp z with z|z
   .exact a0 z
   .exact n2 z
  have c5:(ak [] a).Nodup:=Aw OS;have e2:=kj a [];rw [N6] at e2;have fv:=bx.len;have dc:but bt (b::M) p=some (.dK<|dZ m):=by rw [bn pV];exact c4
  refine Ht (i:=5) (M:=b::M) (ps:=((ak [] a).filter λb=>decide<|b∈m).map λb=>(b,D.int (m.idxOf b:Nat))) (lV l5) (E5.mono xn) Z8 (ae.eq (gP (caps:=a9 [2] 1) (i:=1) (p:=λd=>decide<|d.name∈m) (f:=λd=>.tup [d,.int (m.idxOf d.name:Nat)]) (dH (ds:=(ak [] a).map D.str)<|bM ⟨a,rfl,bx,rfl⟩<|aa (aI (E5.mono xn) rfl) ag) (λG' v d sG J r=>?_) (λG' v d sG J e3 r=>?_) (by rw [Md];exact cq Z4)) ?_) (λz hz=>?_) ?_ λsa oS b0 H7 o7 i7 n7 m7 h7 s7 f4 E7=>?_
  .obtain ⟨n,hn,rfl⟩:=Mx.mp J;exact zO (n:=n) (a:=p) (by simp [a9,b3]) (sG _ _ dc)<|cL (by simp [a9]) r
  .obtain ⟨n,hn,rfl⟩:=Mx.mp J;exact aQ<|aa (cL (by simp [a9]) r)<|aa (y3 (n:=n) (a:=p) (by simp [a9,b3]) (sG _ _ dc) (MC e3)<|cL (by simp [a9]) r) ag
  .unfold pairD;rw [NK,MU,MU];rfl
  .obtain ⟨n,hn,rfl⟩:=Mx.mp hz;rfl
  .rw [MU]
   show (List.map (λb=>b) _).Nodup;rw [OD];exact PM _ c5
  have e4:bI (((ak [] a).filter λb=>decide<|b∈m).map λb=>(b,D.int (m.idxOf b:Nat)))=fV (jt a m):=by
   unfold bI fV jt;rw [MU,MU];rfl
  rw [e4] at h7;have d3:b0[2]?=some (some (.ref p)):=(o7 2 Z1).trans b3;have d4:b0[3]?=some (some (.ref b)):=(o7 3 Z1).trans b4;have b6:=s7 _ _ c4;have l7:au (b::p::M) H7:=l5.same s7;have dd:ax (but H7 (b::p::M)) b0 [some<|cb O,some<|cF Wj,none,none,some (.tup a),none,none,none]:=yz E7 b6;have bk:sa≠p:=λz=>by rw [z,b6] at h7;cases h7
  have di:sa≠b:=λz=>m7 (by rw [z];exact Mc);have dp:sa∉M:=λz=>m7<|L8 _ z
  refine gZ (M:=b::p::M) (ds:=(ak [] a).map D.str) (dH<|bM ⟨a,rfl,bx,rfl⟩<|aa (aI dd rfl) ag) l7 λH8 s8=>?_;refine ⟨λk t T=>t[2]?=some (some (.ref p))/\t[3]?=some (some (.ref b))/\t[5]?=some (some (.ref sa))/\T p=some (.dK<|dZ<|m++((ak [] a).take k).filter λx=> !decide (x∈m))/\(∀z o,z≠p->H8 z=some o->T z=some o)/\au (b::p::M) T/\ab (but H8 (b::p::M)) (but T (b::p::M))/\ax (but T (b::p::M)) t [some<|cb O,some<|cF Wj,none,none,some (.tup a),none,none,none],
   ⟨d3,d4,i7,by rw [QT,QH,MP];exact s8 _ _ b6,λz o _ e=>e,l7.same s8,ab.refl _,dd.same s8⟩,λk t T q2=>by obtain ⟨_,_,_,_,_,x,y,_⟩:=q2;exact ⟨y,x⟩,?_,?_⟩
  .rintro k d y τ X X' J ⟨t3,t4,t7,tp,tk,tl,tS,tE⟩ s9 ry
   obtain ⟨n,e5,rfl⟩:∃n,(ak [] a)[k]?=some n/\d=.str n:=by
    rw [Mo] at J;cases e:(ak [] a)[k]? with
    |none=>rw [e] at J;cases J
    |some y=>rw [e] at J;exact ⟨y,rfl,(Mu J).symm⟩
   have E9:ax (but X' (b::p::M)) (τ.set 6<|some y) [some<|cb O,some<|cF Wj,none,none,some (.tup a),none,some (.str n),none]:=(tE.same s9).set 6 ry;have w3:(τ.set 6<|some y)[2]?=some (some (.ref p)):=(Me Z1).trans t3;refine IT (n:=n) (tl.same s9) E9 Z8 w3 (s9 _ _ tp) ?_ (aI E9 rfl) λY kY lY hY EY=>?_
   .have h1:(m++((ak [] a).take k).filter λx=> !decide (x∈m)).length<=100*j+100:=by
     rw [Mv];have:=MO (λx=> !decide (x∈m))<|(ak [] a).take k
     rw [MT] at this;omega
    exact Oz (MF h1 (show 100*j+100<=20000 by omega)) (show 20000<sizeLine by decide)
   .have SY:ab (but X' (b::p::M)) (but Y (b::p::M)):=mJ Z8 kY;refine ⟨w3,(Me Z1).trans t4,(Me Z1).trans t7,?_,λz o hz e=>kY z o hz<|s9 _ _<|tk z o hz e,lY,tS.trans<|(s9.but _).trans SY,EY.drop 6⟩;rw [<-Jk c5 e5];exact hY
  .rintro τ X ⟨t3,t4,t7,tp,tk,tl,tS,tE⟩
   rw [Md,MQ<|Mh _,<-ng] at tp;have b7:but X (b::M) p=some (.dK<|dZ<|ak m a):=by rw [bn pV];exact tp
   have dt:(ak m a).length<=100*(j+1):=by have:=kj a m;omega
   have EV:=tE.mono<|xn (p:=p)
   refine gj (i:=7) (M:=b::M) (d:=.lst<|((Wj.filter λg=>cz g<|ak m a).map λg=>(g,c7 g<|ak m a)).map kN) (lV tl) EV (ae.eq (gP (caps:=a9 [2] 1) (i:=1) (p:=uv λg=>cz g<|ak m a) (f:=yY λg=>kN (g,c7 g<|ak m a)) (dH (ds:=Wj.map D.tup)<|aI EV rfl) (λG' v d sG J r=>?_) (λG' v d sG J _ r=>?_) (by rw [Md];exact cq Z4)) ?_) λf5 H9 o9 s9 l9 E9=>?_
   .obtain ⟨g,hg,rfl⟩:=Mx.mp J;exact cH<|o0 (d:=.bl<|cz g<|ak m a) ⟨g,_,rfl,a1 g hg,rfl⟩<|pf (cL (by simp [a9]) r)<|qE (a:=p) (by simp [a9,t3]) (sG _ _ b7) pH
   .obtain ⟨g,hg,rfl⟩:=Mx.mp J;exact aQ<|aa (cL (by simp [a9]) r)<|aa (o0 ⟨g,_,rfl,a1 g hg,rfl⟩<|pf (cL (by simp [a9]) r)<|qE (a:=p) (by simp [a9,t3]) (sG _ _ b7) pH) ag
   .rw [tm _ (λg=>cz g<|ak m a) _ (λg=>kN (g,c7 g<|ak m a)) _ (λ_ _=>rfl) λ_ _=>rfl,MU]
    rfl
   have d0:=(s9.but (b::M)) _ _ b7;have w3:=(o9 2 Z1).trans t3;refine gj (i:=1) (M:=b::M) (d:=cF<|Wj.filter λg=> !cz g (ak m a)) l9 E9 (ae.eq (gP (caps:=a9 [2] 1) (i:=1) (p:=uv λg=> !cz g (ak m a)) (f:=λd=>d) (dH (ds:=Wj.map D.tup)<|aI E9 rfl) (λG' v d sG J r=>?_) (λG' v d sG J _ r=>cL (by simp [a9]) r) (by rw [Md];exact cq Z4)) ?_) λd1 Ha oa e6 la Ea=>?_
   .obtain ⟨g,hg,rfl⟩:=Mx.mp J;exact dB<|cH<|o0 (d:=.bl<|cz g<|ak m a) ⟨g,_,rfl,a1 g hg,rfl⟩<|pf (cL (by simp [a9]) r)<|qE (a:=p) (by simp [a9,w3]) (sG _ _ d0) pH
   .exact M7 D.lst<|tm _ (λg=> !cz g (ak m a)) _ D.tup _ (λ_ _=>rfl) λ_ _=>rfl
   have z3:=(oa 2 Z1).trans w3;have z4:d1[3]?=some (some (.ref b)):=(oa 3 Z1).trans<|(o9 3 Z1).trans t4
   have z5:d1[5]?=some (some (.ref sa)):=(oa 5 Z1).trans<|(o9 5 Z1).trans t7
   have an:=s9.trans e6;have d2:=an _ _ tp;have b8:=yz Ea d2;have e7:ab (but H8 (b::p::M)) (but Ha (b::p::M)):=tS.trans<|an.but _
   have cd:ab (but bt (b::p::M)) (but Ha (b::p::M)):=(((s7.trans s8).but _)).trans e7;have d5:Ha b=some (.lst us):=an _ _<|tk b _ (M6 a0)<|s8 _ _<|s7 _ _<|s5 _ _ hb
   have ea:Ha sa=some (.cW oS (.dK<|fV<|jt a m)):=an _ _<|tk sa _ bk<|s8 _ _ h7
   obtain ⟨u4,e8,q4⟩:=b8.get 4 _ rfl;obtain ⟨u7,fa,q7⟩:=b8.get 7 _ rfl;have ch:au (b::p::M) Ha:=tl.same an;have ec:∀z o,H z=some o->Ha z=some o:=λz o e=>by
    have fl:z≠p:=dm e ev;exact an _ _<|tk z o fl<|s8 _ _<|s7 _ _<|s5 _ _<|S0 _ _ e
   have af:∀{z:Addr},Ha z=none->H z=none:=λ{z} e=>by
    cases qz:H z with
    |none=>rfl
    |some u=>rw [ec _ _ qz] at e;cases e
   refine ⟨.ref b,z4,(show gW K "list" (.ref b) _ from .inl ⟨rfl,us,aN.of d5⟩),u4,e8,.ref sa,z5,u7,fa,λx dx hx ed ga=>⟨x,dx,u4,.ref sa,u7,rfl,aO,λpo a4 cl=>⟨rfl,?_⟩⟩⟩;have aj:Ha po=none:=by
    rw [aD cl] at a4;by_cases e:po=dx
    .rw [e];exact ed
    .rw [aD e] at a4;exact a4
   have f0:po≠dx:=λe=>by rw [aD cl,e,aO] at a4;cases a4
   have SX:ab Ha (upd (upd (upd (upd Ha dx (.own x)) x (.ins C dx [])) po (.dT [])) x (.ins C dx<|jJ u4 sa u7 po (-1))):=λz o e=>by
    rw [aD<|dm e hx,aD<|dm e aj,aD<|dm e hx,aD<|dm e ed];exact e
   refine ⟨b,us,.ref x,rfl,rfl,SX _ _ d5,by rw [a2.l1];exact cq Z4,?_⟩;generalize eg:upd (upd (upd (upd Ha dx (.own x)) x (.ins C dx [])) po (.dT [])) x (.ins C dx<|jJ u4 sa u7 po (-1))=HX at SX;have fn:HX x=some (.ins C dx<|jJ u4 sa u7 po (-1)):=by rw [<-eg];exact aO
   have ei:HX po=some (.dT []):=by rw [<-eg,aD cl];exact aO
   have eb:but (upd HX b (.lst<|us++[.ref x])) (b::p::M)=but HX (b::p::M):=dN Mc;have ao:ab (but Ha (b::p::M)) (but (upd HX b (.lst<|us++[.ref x])) (b::p::M)):=by rw [eb];exact SX.but _
   have fp:x∉b::p::M:=ch.fresh hx;have ej:po∉b::p::M:=ch.fresh aj;have fr:sa∉b::p::M:=by
    simp only [Mn,Q2];exact ⟨di,bk,dp⟩
   refine ⟨ak m a,Wj.filter λg=> !cz g (ak m a),done++[oy a m Wj],us++[.ref x],am++[[x,po]],?_,dt,by rw [Mv,Nv];omega,λg hg=>a1 g (Mq.mp hg).1,MF (MO _ _) bi,z3,z4,?_,aO,?_,?_,?_,(ch.same SX).upd,S'.trans<|(s5.but _).trans<|cd.trans ao,?_⟩
   .rw [I]
    show done++(_::_)=_;rw [M5];rfl
   .rw [aD a0];exact SX _ _ d2
   .have ek:=(a2.mono<|(s5.but _).trans<|cd.trans ao)
    refine ek.snoc ⟨x,dx,u4,sa,u7,po,oS,rfl,rfl,?_,q4.mono ao,?_,q7.mono ao,?_,rfl⟩ λo ho z hz fs=>?_
    .rw [eb,bn fp];exact fn
    .refine ao _ _ ?_
     rw [bn fr];exact ea
    .rw [eb,bn ej];exact ei
    .obtain ⟨i,hi⟩:=MY.mp ho;obtain ⟨u,hu,_⟩:=a2.seen hi z hz;obtain ⟨_,bd⟩:=aw<|(s5.but _|>.trans cd) _ _ hu;rcases Mn.mp fs with e|e
     .rw [e,hx] at bd;cases bd
     .have e:z=po:=by simpa using e
      rw [e,aj] at bd;cases bd
   .intro os ho z hz;rcases MB.mp ho with e|e
    .exact a3 os e z hz
    .have e:os=[x,po]:=by simpa using e
     rw [e] at hz;rcases Mn.mp hz with e|e
     .rw [e];exact af hx
     .have e:z=po:=by simpa using e
      rw [e];exact af aj
   .refine mN (a:=b) (λz o e=>?_) ct (λz o hz e=>by rw [aD hz];exact e)
    exact SX _ _<|ec z o e
   .exact (((b8.mono ao).drop 4).drop 7)
 .rintro t T ⟨m,Wj,done,us,am,I,ey,ez,a1,bi,j3,j4,hp,hb,a2,a3,S0,l',S',E'⟩
  rw [Md,Ps<|Mh _] at I;have I:cP ac [] W0=done++[]:=I;rw [MP] at I;rw [I] at q;refine ⟨.ref b,j4,q b us am T S0 (by rw [bn ew];exact hb) (a2.mono<|eA λz hz=>L8 _<|L8 _ hz) a3 ct⟩
end
end a5
namespace a5
open PySem L2 FL
section
variable {P:Program}{w:World}{K:PySem.W.Frag}{mg:Str->Option Value}{base:Heap}{f:Addr}{fd:FuncData}
def JG:bW ["self","body"] ["self","body"] (bb md):=⟨rfl,rfl,rfl,Z9,rfl,Z9,Z9⟩
def Gv(F:aF K "__init__" "Loom.__init__" md f fd)(I:lJ K CL)(B:Bl mg)(c:aT P w K mg base 2 "guards_in" ["body"] (bv qf))(j:aT P w K mg base 2 "blanks_in" ["atom"] (bv oN))(t:aT P w K mg base 1 "holds" ["guard"] (bv rj))(k:aT P w K mg base 6 "steps_for" ["body"] (zX C)):bq P w K mg base bA 7 f fd ["self","body"] (xp C CL):=by
 refine F.ok JG (λvs H Q E q0=>by obtain ⟨_,_,_,_,_,e,_⟩:=q0;rw [e];rfl) λbi A a2 s H vs Q E hr h=>?_;obtain ⟨M,m,x,n,T,rfl,hx,lv,r1,U,hG,q⟩:=h;refine ⟨_,(az (fB (pv 0) (bB k hr<|ai (pv 1) ap) rfl)
   (az (fB (pv 0) (zq<|wP B<|fm ["guard"] [] 1 (cr<|bB c hr<|ai (pv 1) ap) (λ_ _ _ _ _=>(bo 0<|jR _)) (λ_ _ _ _ _=>(io<|dA<|BO (jf j hr<|ai (pv 0) ap) λ_=>rfl)) λ_ _ _ _ _=>(jf t hr<|ai (pv 0) ap)) rfl)
   (az (fB (pv 0) aC rfl)
   (az (fB (pv 0) aC rfl)
   (ay<|fB (pv 0) (kl kC aC) rfl))))),?_⟩
 have lx:au (x::M) H:=lv.cons hx;have Y:al (but H (x::M)) T (cb m):=al.fi hx rfl r1;have E0:ax (but H (x::M)) (L2.start ["self","body"] [.ref x,T]) [none,some<|cb m]:=f9 (.raw (.dat Y .nil)) _;have bk:(m.filter aJ).length<=100:=MF (MO _ _) U.2;have ac:∀g∈m.filter aJ,dF g/\∃r a b,g=[.str r,a,b]:=λg L=>⟨U.1 g (Mq.mp L).1,hG g (Mq.mp L).1 (Mq.mp L).2⟩
 refine ⟨T,rfl,x::M,m,T,rfl,lx,Y,U,λp us af H1 s1 hp aj a3 bt=>?_⟩;have a4:=s1 _ _ hx;refine ⟨.ref x,rfl,x,CL,n,[],rfl,a4,I.cl,I.nS,by decide,?_⟩;generalize J:upd H1 x (.ins CL n<|c8 "steps" (.ref p) [])=H2;have bc:H2 x=some (.ins CL n [("steps",.ref p)]):=by rw [<-J];exact aO
 have am:but H2 (x::M)=but H1 (x::M):=by rw [<-J];exact dN Mc
 have l2:au (x::M) H2:=by rw [<-J];exact (lx.same s1).upd
 have E2:ax (but H2 (x::M)) (L2.start ["self","body"] [.ref x,T]) [none,some<|cb m]:=by rw [am];exact E0.same s1
 have K2:∀b u,b≠x->H b=some u->H2 b=some u:=λb u hb e=>by rw [<-J,aD hb];exact s1 _ _ e
 refine A8<|CN (zb<|uI (bs:=((m.filter aJ).filter λg=> !dj g).map holdsA)<|aa (ae.eq (gP (caps:=a9 [] 1) (i:=0) (p:=uv λg=> !dj g) (f:=yY λg=>.bl<|holdsA g) (dH (ds:=(m.filter aJ).map D.tup)<|bM (R:=qf) (E:=L2.E0) ⟨m,rfl,U.1,U.2,rfl⟩<|aa (aI E2 (i:=1) rfl) ag) (λG' v d sG hd r=>?_) (λG' v d sG hd _ r=>?_) (by rw [Md];exact cq Z4)) ?_) ag) l2 λv3 H3 s3 r3=>?_
 .obtain ⟨g,L,rfl⟩:=Mx.mp hd;exact dB<|xW<|bM (d:=fY<|ak [] g) ⟨g,rfl,(ac g L).1,rfl⟩<|aa (cL (by simp [a9]) r) ag
 .obtain ⟨g,L,rfl⟩:=Mx.mp hd;obtain ⟨an,r0,a0,b0,rfl⟩:=ac g L;exact bM ⟨r0,a0,b0,rfl,(an.sc a0 Z8).1,(an.sc b0 Z8).1,rfl⟩<|aa (cL (by simp [a9]) r) ag
 .rw [tm _ (λg=> !dj g) _ (λg=>.bl<|holdsA g) _ (λ_ _=>rfl) λ_ _=>rfl,MU]
  rfl
 have e3:v3=.bl (k9 m):=by
  have:=r3.jm;rw [this,Pp];rfl
 subst e3;refine ⟨.ref x,rfl,x,CL,n,_,rfl,s3 _ _ bc,I.cl,I.nB,(show 1<1000 by decide),?_⟩;refine ⟨.ref x,rfl,x,CL,n,_,rfl,aO,I.cl,I.nT,(show 2<1000 by decide),?_⟩;refine ⟨.ref x,rfl,x,CL,n,_,rfl,aO,I.cl,I.nF,(show 3<1000 by decide),?_⟩;refine ⟨1,rfl,.ref x,rfl,x,CL,n,_,rfl,aO,I.cl,I.nL,(show 4<1000 by decide),?_⟩;rw [lj,lj,lj];have bd:but (upd H3 x (.ins CL n<|iO p (k9 m) 0 0 (-1))) (x::M)=but H3 (x::M):=dN Mc;have ao:ab (but H1 (x::M)) (but (upd H3 x (.ins CL n<|iO p (k9 m) 0 0 (-1))) (x::M)):=by
  rw [bd,<-am];exact s3.but _
 have l:=aj.mono ao;have a1:=l.own;have G:∀os∈af,∀y∈os,∃o,upd H3 x (.ins CL n<|iO p (k9 m) 0 0 (-1)) y=some o/\y∉x::M:=λos N y hy=>by
  obtain ⟨i,hi⟩:=MY.mp N;obtain ⟨o,h1,_⟩:=l.seen hi y hy;obtain ⟨q1,q2⟩:=aw h1;exact ⟨o,q2,q1⟩
 refine q af (upd H3 x (.ins CL n<|iO p (k9 m) 0 0 (-1))) (λb u hb e=>by rw [aD hb];exact s3 _ _<|K2 b u hb e) a3 (λy hy=>?_) ⟨n,p,us,aO,?_,a1,Ml _ Mc,λos N z=>(G os N x z).choose_spec.2 Mc⟩
 .rcases MB.mp hy with z|z
  .obtain ⟨os,N,O⟩:=M1.mp z;obtain ⟨o,h1,_⟩:=G os N y O;rw [h1];exact λz=>nomatch z
  .exact (l2.same s3).upd y z
 .obtain ⟨q1,q2⟩:=aw (ao _ _ hp);rw [bn]
  .exact q2
  .intro z;rcases MB.mp z with z|z
   .obtain ⟨os,N,O⟩:=M1.mp z;obtain ⟨i,hi⟩:=MY.mp N;obtain ⟨o,h1,h2⟩:=l.seen hi p O;rw [(aw h1).2] at q2;cases q2;cases h2
   .exact q1 z
def uj:bW ["self","facts","step","place","fact"] ["self","facts"] (bb nz):=⟨rfl,rfl,rfl,Z9,rfl,Z9,Z9⟩
def KG(F:aF K "take_in" "Loom.take_in" nz f fd)(T:ln K C)(TL:lJ K CL)(B:Bl mg)(b8:mg "max"=none)(a3:eB P w K mg base 3 C "offer" ["self","place","fact"] (Ap C)):bq P w K mg base bA 4 f fd ["self","facts"] (zc C CL):=by
 refine F.ok uj (λvs H Q E q0=>by obtain ⟨_,_,_,_,_,_,e,_⟩:=q0;rw [e];rfl) λfn A es s H vs Q E hr h=>?_;obtain ⟨Z,an,k,c,a,v1,rfl,lv,hL,r1,hF,hS,fp,hz,q⟩:=h;have mE:=T.cl;refine ⟨_,(az (fB (pv 0) (dR (pv 0) rfl) rfl)
   (az (fB (pv 0) (cQ jq (dR (pv 0) rfl)<|cA B<|pv 1) rfl)
   (az (cI MD rfl (cr<|dR (pv 0) rfl) (bo 2 uj.nd)<|ay<|cI MD rfl (F5 B.enumerate (pv 1)<|dR (pv 0) rfl) (kP rfl<|e9 (bo 3 uj.nd)<|e9 (bo 4 uj.nd) jG)<|ay<|iT<|j8 (pv 2) mE a3 hr<|ai (pv 3)<|ai (pv 4) ap)
   (ay<|fB (pv 0) (ye b8 (fm ["self","n","step"] [0] 2 (BD B.enumerate<|ai (dR (pv 0) rfl) ap) (λ_ _ _ _ _=>(vz (n:=2) rfl<|e9 (bo 1 (show (["self","n","step"]:ZY).Nodup from by decide+kernel))<|e9 (bo 2 (show (["self","n","step"]:ZY).Nodup from by decide+kernel)) jG)) (λ_ _ _ _ _=>(io<|cp tN (pG (pv 2) rfl)<|pG (pv 0) rfl)) λ_ _ _ _ _=>(pv 1))<|kl kC aC) rfl)))),?_⟩
 obtain ⟨dx,sl,us,ha,di,cd,aZ,ch⟩:=hL;have dp:∀os∈an,∀x∈os,x∈Z:=λos L x J=>by
  obtain ⟨i,hi⟩:=MY.mp L;have a1:=(Ma.mp hi).1;have ds:=cd.l2;have co:i<k.steps.length:=by omega
  obtain ⟨_,o2,_,h2,_,h4⟩:=cd.get i k.steps[i]<|Mb co;rw [hi] at h2;cases h2;exact h4 x J
 refine ⟨.ref a,rfl,a,CL,dx,_,.int k.taken,rfl,ha,TL.cl,TL.nT,rfl,.ref a,rfl,a,CL,dx,_,rfl,ha,TL.cl,TL.nF,(show 5<1000 by decide),?_⟩;obtain ⟨af,vf,e1,hf,rf⟩:=r1.dX;subst e1;have et:af≠a:=λz=>(aw hf).1 (by rw [z];exact aZ);refine ⟨.ref a,rfl,a,CL,dx,_,.int k.taken,rfl,aO,TL.cl,TL.nF,rfl,.ref af,rfl,af,vf,rfl,.inl<|aN.of (by rw [aD et];exact (aw hf).2),_,_,rfl,rfl,.ref a,rfl,a,CL,dx,_,rfl,aO,TL.cl,TL.nT,(show 5<1000 by decide),?_⟩;rw [lj];have eu:vf.length=c.length:=by rw [rf.length,Md]
 rw [eu];generalize bl:upd H a _=H2;have dt:H2 a=some (.ins CL dx<|iO sl k.fE ((k.taken:Nat)+(c.length:Nat)) (k.taken:Nat) k.last):=by rw [<-bl];exact aO
 have cs:but H2 Z=but H Z:=by rw [<-bl];exact dN aZ
 have l2:au Z H2:=by rw [<-bl];exact lv.upd
 have K2:∀b u,b≠a->H b=some u->H2 b=some u:=λb u hb e=>by rw [<-bl,aD hb];exact e
 have as:eG C H2 Z us an k.steps:=cd.frame (λx J=>J) (λb u q4 e=>by obtain ⟨os,L,hb⟩:=q4;exact K2 b u (λz=>ch os L (by rw [<-z];exact hb)) e) (by rw [cs];exact ab.refl _);have N2:∀{x:Addr},H2 x=none->H x=none:=λ{x} e=>by
  cases qx:H x with
  |none=>rfl
  |some u=>
   by_cases z:x=a
   .rw [z,dt] at e;cases e
   .rw [K2 x u z qx] at e;cases e
 have ev:al (but H2 Z) (.ref af) (.lst<|c.map D.tup):=by rw [cs];exact r1
 have d1:but H2 Z sl=some (.lst us):=by rw [cs];exact di
 obtain ⟨Zr,bs,ew⟩:∃Zr:ZX,(∀x,x∈a::Zr↔x∈Z)/\a∉Zr:=⟨Z.filter λy=>decide<|y≠a,λx=>by
  by_cases e:x=a
  .simp [e,aZ]
  .simp [e],by simp⟩
 have G1:ab (but H2 Z) (but H2 Zr):=eA λx J=>(bs x).mp<|L8 _ J
 have lr:au Zr H2:=λx J=>l2 x<|(bs x).mp<|L8 _ J
 have ga:but H2 Zr a=some (.ins CL dx<|iO sl k.fE ((k.taken:Nat)+(c.length:Nat)) (k.taken:Nat) k.last):=by rw [bn ew];exact dt
 have d5:but H2 Zr sl=some (.lst us):=G1 _ _ d1;have ex:al (but H2 Zr) (.ref af) (.lst<|c.map D.tup):=ev.mono G1;have N:∀os∈an,∀x∈os,x∈Zr:=λos L x J=>by
  have:=(bs x).mpr<|dp os L x J
  rcases Mn.mp this with z|z
  .exact absurd (by rw [<-z];exact J)<|ch os L
  .exact z
 have bx:eG C H2 Zr us an k.steps:=⟨as.l1,as.l2,λj s qs=>by
  obtain ⟨a',os,h1,h2,h3,h4⟩:=as.get j s qs;have L:=Mi h2;exact ⟨a',os,h1,h2,h3.frame h4 (N os L) (λb u _ e=>e) G1,N os L⟩,as.apart⟩
 have E2:ax (but H2 Zr) (L2.start ["self","facts","step","place","fact"] [.ref a,.ref af]) [none,some (.lst<|c.map D.tup),none,none,none]:=f9 (.raw (.dat ex .nil)) _;have ct:=bx.l1;refine tH (M:=Zr) (xl (lC TL.cl TL.nS rfl ga rfl) d5) lr λH3 s3=>?_;have c1:=bx.mono s3;have ea:=(s3.but Zr) _ _ ga;have eb:=(s3.but Zr) _ _ d5;have E3:=E2.same s3;let O:Nat->Nat->List bh:=λj i=>(k.steps.zipIdx).map λp=>if p.2<j then ci p.1 k.taken c else if p.2=j then ci p.1 k.taken (c.take i) else p.1;have l:∀j i m s,k.steps[m]?=some s->(O j i)[m]?=some (if m<j then ci s k.taken c else if m=j then ci s k.taken (c.take i) else s):=λj i m s e=>by
  show ((k.steps.zipIdx).map _)[m]?=_;rw [Mo,QR,e];simp
 have r:∀j i,(O j i).length=k.steps.length:=λj i=>by simp [O]
 clear_value O
 have c3:O 0 0=k.steps:=by
  apply Oe;intro m;cases e:k.steps[m]? with
  |none=>rw [M3 (by rw [r];exact Ob.mp e)]
  |some s=>
   rw [l 0 0 m s e];by_cases z:m=0
   .rw [Mj Z4,Mp z];rfl
   .rw [Mj Z4,Mj z]
 have a4:O k.steps.length 0=k.steps.map λs=>ci s k.taken c:=by
  apply Oe;intro m;rw [Mo];cases e:k.steps[m]? with
  |none=>rw [M3 (by rw [r];exact Ob.mp e)];rfl
  |some s=>
   rw [l _ 0 m s e,Mp (Ma.mp e).1];rfl
 have a2:∀j,O j c.length=O (j+1) 0:=λj=>by
  apply Oe;intro m;cases e:k.steps[m]? with
  |none=>
   have:=Ob.mp e;rw [M3 (by rw [r];exact this),M3 (by rw [r];exact this)]
  |some s=>
   rw [l j _ m s e,l (j+1) 0 m s e,MQ<|Mh _];by_cases z:m<j
   .rw [Mp z,Mp Z4]
   .by_cases z2:m=j
    .rw [Mj z,Mp z2,Mp Z4]
    .rw [Mj z,Mj z2,Mj Z4]
     by_cases z3:m=j+1
     .rw [Mp z3];rfl
     .rw [Mj z3]
 have bc:∀j i g s,k.steps[j]?=some s->c[i]?=some g->(O j i).set j (cK (ci s k.taken<|c.take i) (k.taken+i) g)=O j (i+1):=λj i g s e eg=>by
  apply Oe;intro m;by_cases z:j=m
  .subst z;rw [Mr (by rw [r];exact (Ma.mp e).1),l j (i+1) j s e,Mj<|Nr _,Mp rfl,DP eg]
  .rw [Me z]
   cases e2:k.steps[m]? with
   |none=>
    have:=Ob.mp e2;rw [M3 (by rw [r];exact this),M3 (by rw [r];exact this)]
   |some t=>
    have z':¬m=j:=λw=>z w.symm;rw [l j i m t e2,l j (i+1) m t e2,Mj z',Mj z']
 have b0:∀{H':Hp} {Z':ZX} {G:List ZX} {ey:List bh},iR C us H3 Zr an H' Z' G ey->but H' Z' a=some (.ins CL dx<|iO sl k.fE ((k.taken:Nat)+(c.length:Nat)) (k.taken:Nat) k.last):=λI=>I.same N _ _ ea;refine ⟨λj M' Y H'=>∃G,iR C us H3 Zr an H' M' G (O j 0)/\Y[0]?=some (some (.ref a))/\ax (but H3 Zr) Y [none,some (.lst<|c.map D.tup),none,none,none],
  ⟨an,⟨by rw [c3];exact c1,λos L x J=>.inl ⟨os,L,J⟩,λb u _ e=>e,lr.same s3,λx J=>J,λx J=>.inl J⟩,rfl,E3⟩,λj M' Y H' q5=>by obtain ⟨G,I,_,_⟩:=q5;exact ⟨I.same N,I.live⟩,?_,?_⟩
 .rintro j M' x Y H' ez fr ⟨G,I,i0,E'⟩ s4 J
  have J:us[j]?=some x:=J;have e0:j<k.steps.length:=by omega
  have c4:k.steps[j]?=some k.steps[j]:=Mb e0;have I4:=I.mono s4;have E4:ax (but ez M') (Y.set 2<|some x) [none,some (.lst<|c.map D.tup),none,none,none]:=(E'.mono<|I4.same N).off 2 _;have c0:(Y.set 2<|some x)[0]?=some (some (.ref a)):=(Me Z1).trans i0;have e3:Y.length=5:=E'.len;have c2:(Y.set 2<|some x)[2]?=some (some x):=Mr Z4;have EB:ax (but H3 Zr) (Y.set 2<|some x) [none,some (.lst<|c.map D.tup),none,none,none]:=E'.off 2 _;have g4:=b0 I4;refine tH (M:=M') (IZ<|K4 (n:=k.taken) Z4 (aI E4 rfl)<|gQ TL.cl TL.nF c0 g4 rfl (.int _)) I4.live λH5 s5=>?_;have I5:=I4.mono s5;have ec:(lQ k.taken<|c.map D.tup).length=c.length:=by simp [lQ]
  refine ⟨λi M2 U X=>∃ac,iR C us H3 Zr an X M2 ac (O j i)/\ab (but H5 M') (but X M2)/\U[0]?=some (some (.ref a))/\U[2]?=some (some x)/\ax (but H3 Zr) U [none,some (.lst<|c.map D.tup),none,none,none],
   ⟨G,I5,ab.refl _,c0,c2,EB⟩,λi M2 U X q6=>by obtain ⟨ac,I2,S2,_,_,_⟩:=q6;exact ⟨S2,I2.live⟩,?_,?_⟩
  .rintro i M2 y U X X' a1 ⟨ac,I2,S2,c5,ed,bt⟩ s6 ⟨d,hd,ry⟩
   have a1:i<c.length:=by rw [ec] at a1;exact a1
   have dc:c[i]?=some c[i]:=Mb a1;have dz:d=.tup [.int ((k.taken+i:Nat):Int),.tup c[i]]:=by
    have:(lQ k.taken<|c.map D.tup)[i]?=some (.tup [.int ((k.taken+i:Nat):Int),.tup c[i]]):=by
     simp [lQ,dc]
    rw [this] at hd;exact (Mu hd).symm
   subst dz;have I6:=I2.mono s6;refine mo ry λu1 u2 q1 q2=>?_;have e1:=q1.eM;subst e1;have ds:U.length=5:=bt.len;have d0:((U.set 3<|some (.int ((k.taken+i:Nat):Int))).set 4<|some u2)[0]?=some (some (.ref a)):=by rw [Me Z1,Me Z1];exact c5
   have d2:((U.set 3<|some (.int ((k.taken+i:Nat):Int))).set 4<|some u2)[2]?=some (some x):=by rw [Me Z1,Me Z1];exact ed
   have d3:((U.set 3<|some (.int ((k.taken+i:Nat):Int))).set 4<|some u2)[3]?=some (some (.int ((k.taken+i:Nat):Int))):=by rw [Me Z1];exact Mr Z4
   have d4:((U.set 3<|some (.int ((k.taken+i:Nat):Int))).set 4<|some u2)[4]?=some (some u2):=Mr (by rw [NH];omega);have bd:=l j i j _ c4;rw [Mj<|Nr _,Mp rfl] at bd;obtain ⟨aj,os,h1,h2,h3,h4⟩:=I6.st.get j _ bd;have e4:x=.ref aj:=by rw [J] at h1;exact Mu h1
   subst e4;obtain ⟨ei,w0,sa,w2,ao,ls,oS,e5,bi,_⟩:=h3.at_;have e7:=hF _<|Mi dc
   have ej:=hS _<|Mi c4
   have ek:=ze k.steps[j] k.taken<|c.take i
   rw [MT] at ek;refine ⟨.ref aj,d2,aj,ei,_,rfl,bi,rfl,.int ((k.taken+i:Nat):Int),d3,u2,d4,M2,os,_,aj,k.taken+i,c[i],u2,rfl,I6.live,h3,h4,q2,by rw [Fj];exact ej.1,e7,by have:=ej.2;omega,λdd e8 n1 n2 n3 n4 n5=>?_⟩;have I7:=I6.put bd h1 h2 h4 n1 n2 n3 n4 n5;rw [bc j i _ _ c4 dc] at I7;have S7:ab (but X' M2) (but e8<|dd++M2):=uR n1 h4 n3;exact ⟨dd++M2,ac.set j dd,I7,S2.trans<|(s6.but _).trans S7,d0,d2,(bt.off 3 _).off 4 _⟩
  .rintro M2 U X ⟨ac,I2,S2,c5,ed,bt⟩
   rw [ec,a2] at I2;exact ⟨M2,ac,I2,c5,bt⟩
 .rintro M' Y H' ⟨G,I,i0,E'⟩
  rw [show us.length=k.steps.length from ct,a4] at I;have bk:=(aw<|b0 I).2;have b6:=I.same N _ _ eb;have a0:=(aw b6).2;have en:∀b,but H' [] b=H' b:=λb=>bn Z8;refine CN (M:=[]) (KC (K:=K) (is:=((List.range us.length).filter λj=>decide<|(k.taken:Int)<=((k.steps.map λs=>ci s k.taken c).getD j ⟨[],[],[],[],-1⟩).newest).map λj=>((j:Nat):Int)) (n:=-1) (ae.eq (Gq (K:=K) (caps:=a9 [0] 2) (i:=1) (j:=2) Z1 (p:=λj=>decide<|(k.taken:Int)<=((k.steps.map λs=>ci s k.taken c).getD j ⟨[],[],[],[],-1⟩).newest) (f:=λj=>.int (j:Nat)) (A5 (lC TL.cl TL.nS i0 (by rw [en];exact bk) rfl) (by rw [en];exact a0)) (λG' v m sG hv=>?_) (λG' v m sG hv _=>cL (by simp [a9]) (.int _)) (by rw [ct];exact cq Z4)) (by rw [MU];rfl))<|mL aq) au.nil λv6 H6 s6 r6=>?_
  .have hm:=(Ma.mp hv).1;have el:m<(k.steps.map λs=>ci s k.taken c).length:=by rw [Md];omega
   obtain ⟨am,os,h1,h2,h3,h4⟩:=I.st.get m _<|Mb el;have e1:v=.ref am:=by rw [hv] at h1;exact Mu h1
   subst e1;obtain ⟨ei,w0,sa,w2,ao,ls,oS,e5,bi,_⟩:=h3.at_;have eN:(k.steps.map λs=>ci s k.taken c).getD m ⟨[],[],[],[],-1⟩=(k.steps.map λs=>ci s k.taken c)[m]:=by rw [List.getD,Mb el];rfl
   rw [eN];exact ck<|uw (gQ (a:=am) T.cl T.nN (by simp [a9]) (sG _ _ (by rw [en];exact bi)) rfl (.int _))<|gQ (a:=a) TL.cl TL.nF (by simp [a9,i0]) (sG _ _ (by rw [en];exact bk)) rfl (.int _)
  have e6:=r6.eM;subst e6;refine ⟨.ref a,i0,a,CL,dx,_,rfl,s6 _ _ bk,TL.cl,TL.nL,(show 5<1000 by decide),?_⟩;rw [show us.length=(k.steps.map λs=>ci s k.taken c).length by rw [Md];exact ct];generalize em:upd H6 a _=H7;have ep:H7 a=some (.ins CL dx<|iO sl k.fE ((k.taken:Nat)+(c.length:Nat)) (k.taken:Nat)<|kg (k.steps.map λs=>ci s k.taken c) k.taken):=by rw [<-em];exact aO
  have K7:∀b u,b≠a->H' b=some u->H7 b=some u:=λb u hb e=>by rw [<-em,aD hb];exact s6 _ _ e
  have fa:H3 a=some (.ins CL dx<|iO sl k.fE ((k.taken:Nat)+(c.length:Nat)) (k.taken:Nat) k.last):=(aw ea).2;have er:∀os∈G,a∉os:=λos L z=>by
   rcases I.own os L a z with ⟨o,h1,h2⟩|h1
   .exact ch o h1 h2
   .rw [fa] at h1;cases h1
  have b7:∀os∈G,∀x∈os,x∈M':=λos L x J=>by
   obtain ⟨i,hi⟩:=MY.mp L;have a1:=(Ma.mp hi).1;have ds:=I.st.l2;have co:i<(k.steps.map λs=>ci s k.taken c).length:=by omega
   obtain ⟨_,o2,_,h2,_,h4⟩:=I.st.get i _<|Mb co;rw [hi] at h2;cases h2;exact h4 x J
  have ZM:∀x∈Z,x=a\/x∈M':=λx J=>by
   rcases Mn.mp ((bs x).mpr J) with z|z
   .exact .inl z
   .exact .inr<|I.sub x z
  have S7:ab (but H' (a::M')) (but H7<|G.flatten++Z):=λb u e=>by
   obtain ⟨q1,q2⟩:=aw e;simp only [Mn,Q2] at q1;rw [bn]
   .exact K7 b u q1.1 q2
   .intro z;rcases MB.mp z with z|z
    .obtain ⟨os,L,J⟩:=M1.mp z;exact q1.2<|b7 os L b J
    .rcases ZM b z with w|w
     .exact q1.1 w
     .exact q1.2 w
  have l7:au (G.flatten++Z) H7:=λx J=>by
   have hM:x=a\/x∈M':=by
    rcases MB.mp J with z|z
    .obtain ⟨os,L,J⟩:=M1.mp z;exact .inr<|b7 os L x J
    .exact ZM x z
   by_cases z:x=a
   .rw [z,ep];exact λz=>nomatch z
   .rcases hM with w|w
    .exact absurd w z
    .cases q7:H' x with
     |none=>exact absurd q7<|I.live x w
     |some u=>rw [K7 x u z q7];exact λz=>nomatch z
  refine q G H7 (λos L x J=>?_) (λb u hb L e=>K7 b u hb<|I.keep b u L<|s3 _ _<|K2 b u hb e) l7 ⟨dx,sl,us,?_,?_,?_,Ml _ aZ,er⟩
  .rcases I.own os L x J with z|z
   .exact .inl z
   .refine .inr (N2 ?_)
    cases q3:H2 x with
    |none=>rfl
    |some u=>rw [s3 _ _ q3] at z;cases z
  .exact ep
  .refine S7 _ _ ?_
   have fl:sl≠a:=λz=>by rw [z,bk] at a0;cases a0
   rw [bn (by simp only [Mn,Q2];exact ⟨fl,(aw b6).1⟩)];exact a0
  .exact (I.st.fi bk rfl).zY (λos L x J=>Ms _<|M1.mpr ⟨os,L,J⟩) (λb u q8 e=>by obtain ⟨os,L,hb⟩:=q8;exact K7 b u (λz=>er os L (by rw [<-z];exact hb)) e) S7
end
end a5
namespace a5
open PySem L2 FL
section
variable {P:Program}{w:World}{K:PySem.W.Frag}{mg:Str->Option Value}{base:Heap}{f:Addr}{fd:FuncData}
def El:bW ["self"] ["self"] (bb mI):=⟨rfl,rfl,rfl,Z9,rfl,Z9,Z9⟩
def GG(F:aF K "beginnings" "Loom.beginnings" mI f fd)(T:ln K C)(k:lJ K CL)(B:Bl mg):bq P w K mg base bA 1 f fd ["self"] (CS C CL):=by
 refine F.ok El (λvs H Q E q0=>by obtain ⟨_,_,_,e,_⟩:=q0;rw [e];rfl) λac A L s H vs Q E hr h=>?_;obtain ⟨M,b,v0,rfl,lv,hL,hn,q⟩:=h;refine ⟨_,(az (bQ (fC (cG<|dR (pv 0) rfl)<|gY (jT (cp ka (dR (pv 0) rfl) aC)<|jV<|cp sL (dR (pv 0) rfl) aC).pt).pt (ay<|bm<|cY ap) ce)
   (az (bQ (dA<|cG<|wP B<|fm ["step"] [] 1 (cr<|dR (pv 0) rfl) (λ_ _ _ _ _=>(bo 0<|jR _)) (λ_ _ _ _ _=>je) λ_ _ _ _ _=>(iB tN (pG (pv 0) rfl) aC)) (ay<|bm<|cY ap) ce)
   (ay<|bm<|cY<|ai (ef<|ai (cY ap)<|ai (ef ap) ap) ap))),?_⟩
 obtain ⟨a,dx,sl,us,rfl,I,gs,o⟩:=hL;have E0:ax (but H M) (L2.start ["self"] [.ref a]) [none]:=f9 (.raw .nil) _;have r:=o.len;refine ik lv E0 (fK (cH<|gQ k.cl k.nB rfl I rfl (.bl _)) λ_=>ly (ck<|kD (gQ k.cl k.nL rfl I rfl (.int _)) aq) λ_=>ck<|uc (gQ k.cl k.nF rfl I rfl (.int _)) aq) (λe H1 g N E1=>?_) λe H1 g N E1=>nx ?_
 .have c:eD b=[]:=by unfold eD;rw [Mp e]
  rw [c] at q;exact xq N ag (MI _) λp d O l t U r2=>q p d O (g.trans l) (ib g t) U r2
 have u:=o.mono<|g.but M
 refine ik N E1 (dB<|cH<|uI (bs:=b.steps.map λs=>decide<|(0:Int)<=s.newest)<|aa (ae.eq (Ek (caps:=a9 [] 1) (i:=0) (p:=λ_=>true) (f:=λj=>.bl<|decide<|(0:Int)<=(b.steps.getD j ⟨[],[],[],[],-1⟩).newest) (xl (K:=K) (lC k.cl k.nS rfl ((g.but M) _ _ I) rfl)<|(g.but M) _ _ gs) (λj G G' v _ h=>h) (λG' v j _ _ _=>jw) (λG' v j sG hj _ Y=>?_) (by rw [r];exact cq Z4)) ?_) ag) (λn O l l2 E2=>?_) λn O l l2 E2=>nx ?_
 .have Y:us[j]?=some v:=Y;have x:j<b.steps.length:=by omega
  obtain ⟨v',h1,U⟩:=u.get j _<|Mb x;rw [Y] at h1;cases h1;obtain ⟨am,af,w0,sa,w2,ao,oS,rfl,g1,_⟩:=U;have eN:b.steps.getD j ⟨[],[],[],[],-1⟩=b.steps[j]:=by rw [List.getD,Mb x];rfl
  rw [eN];exact uw (gQ T.cl T.nN (by simp [a9]) (sG _ _ g1) rfl (.int _)) aq
 .rw [Nc.mpr λ_ _=>rfl,r,MU]
  congr 1;apply Oe;intro m;rw [Mo,Mo];by_cases y:m<b.steps.length
  .rw [List.getElem?_range y,Mb y]
   show some (D.bl<|decide<|(0:Int)<=(b.steps.getD m ⟨[],[],[],[],-1⟩).newest)=_;rw [List.getD,Mb y];rfl
  .rw [M3 (by simpa using MV y),M3<|MV y]
   rfl
 .have c:eD b=[]:=by
   unfold eD;rw [Mj (by rw [e];exact Mm),Mj];intro z;rw [Pp] at n;have J:(b.steps.all<|id∘λs=>decide<|(0:Int)<=s.newest)=true:=z;rw [J] at n;cases n
  rw [c] at q;exact xq l2 ag (MI _) λp d H3 s3 t h3 r3=>q p d H3 (g.trans<|l.trans s3) (ib (g.trans l) t) h3 r3
 .have c:eD b=[([],[])]:=by
   unfold eD;rw [Mj (by rw [e];exact Mm),Mp];rw [Pp] at n;have J:(!(b.steps.all<|id∘λs=>decide<|(0:Int)<=s.newest))=false:=n;rw [Bool.not_eq_false'] at J;exact J
  rw [c] at q;exact xq l2 (ds:=[.tup [.lst [],.tup []]]) (aa (aQ<|aa (eP (ds:=[]) ag (hz:=MI _))<|aa (aQ (ds:=[]) ag (hz:=MI _)) ag) ag) (show 1<=sizeLine by decide) λp d H3 s3 t h3 r3=>q p d H3 (g.trans<|l.trans s3) (ib (g.trans l) t) h3 r3
def GV:bW ["self","way"] ["self","way"] (bb mr):=⟨rfl,rfl,rfl,Z9,rfl,Z9,Z9⟩
def Ib(F:aF K "is_whole" "Loom.is_whole" mr f fd)(m:lJ K CL)(B:Bl mg):bq P w K mg base bA 1 f fd ["self","way"] (vI C CL):=by
 refine F.ok GV (λp H Q E r=>by obtain ⟨_,_,_,_,_,e,_⟩:=r;rw [e];rfl) λt A c s H p Q E u h=>?_;obtain ⟨M,x,b,U,y,rfl,z,G,g,q⟩:=h;have I:=dQ u;refine ⟨_,(ay<|bm<|iB (fP (by exact I)) (cA B<|aS (pv 1) aC)<|cA B<|dR (pv 0) rfl),?_⟩;obtain ⟨a,Y,sl,o,rfl,J,L,k⟩:=G;have l:=k.len;have E0:ax (but H M) (L2.start ["self","way"] [.ref a,y]) [none,some<|db b]:=f9 (.raw (.dat g .nil)) _;refine eR z (lD (i:=((b.2.map λn=>D.int (n:Nat)).length:Nat)) (j:=(o.length:Nat)) (fA<|aa (bK (ds:=[.lst<|pairD b.1,.tup<|b.2.map λn=>D.int (n:Nat)]) (d:=.tup<|b.2.map λn=>D.int (n:Nat)) rfl (aI E0 rfl) aq) ag)<|Iz (lC m.cl m.nS rfl J rfl) L) λv N O g=>?_;have T:=g.jm;subst T;have:decide ((((b.2.map λn=>D.int (n:Nat)).length:Nat):Int)=((o.length:Nat):Int))=decide (b.2.length=x.steps.length):=by
  rw [Md,l];exact OU.mpr ⟨λh=>by omega,λh=>by omega⟩
 rw [this];exact q N O
def sM:bW ["self","way","taken","lowest"] ["self","way"] (bb mH):=⟨rfl,rfl,rfl,Z9,rfl,Z9,Z9⟩
def Hf(F:aF K "carried_on" "Loom.carried_on" mH f fd)(T:ln K C)(k:lJ K CL)(B:Bl mg)(o:mg "max"=none)(c:eB P w K mg base 3 C "carry_on" ["self","way","lowest"] (wa C)):bq P w K mg base bA 4 f fd ["self","way"] (uP C CL):=by
 refine F.ok sM (λvs H Q E q0=>by obtain ⟨_,_,_,_,_,_,e,_⟩:=q0;rw [e];rfl) λam A ac s H vs Q E hr h=>?_;obtain ⟨M,l,w0,v0,v1,sz,rfl,lv,hL,r1,hR,hW,p,q⟩:=h;have hu:=dQ hr;have mE:=T.cl;refine ⟨_,(az (bj 2 sM.nd<|cA B<|aS (pv 1) aC)
   (az (bj 3 sM.nd aC)
   (az (bQ (jT (cp (fP (by exact hu)) (pv 2)<|dR (pv 0) rfl)<|jV<|cp ka (ye o (aS (pv 1) aC)<|kl kC aC)<|dR (pv 0) rfl).pt (ay<|bj 3 sM.nd<|dR (pv 0) rfl) ce)
   (ay<|bm<|j8 (aS (dR (pv 0) rfl)<|pv 2) mE c hr<|ai (pv 1)<|ai (pv 3) ap)))),?_⟩
 obtain ⟨a,dx,sl,us,rfl,z,gs,G⟩:=hL;have an:=G.len;obtain ⟨S,b⟩:=w0;have p:b.length<l.steps.length:=p;have E0:ax (but H M) (L2.start ["self","way","taken","lowest"] [.ref a,v1]) [none,some<|db (S,b),none,none]:=f9 (.raw (.dat r1 .nil)) _;have af:(b.map λn=>D.int (n:Nat))=(b.map λn=>((n:Nat):Int)).map D.int:=by rw [MU];rfl
 refine gj (i:=2) (d:=.int (b.length:Nat)) lv E0 ((fA<|aa (bK (ds:=[.lst<|pairD S,.tup<|b.map λn=>D.int (n:Nat)]) (d:=.tup<|b.map λn=>D.int (n:Nat)) rfl (aI E0 rfl) aq) ag).eq (by rw [Md])) λao H1 o1 u l1 E1=>?_;dsimp only;refine A8<|gj (i:=3) (d:=.int 0) l1 E1 (aq (i:=0)) λaj H2 o2 x l2 E2=>?_
 have g:aj[0]?=some (some (.ref a)):=(o2 0 Z1).trans<|(o1 0 Z1).trans rfl
 have I:=(u.trans x).but M;have hs:=Mb p;obtain ⟨vj,J,m⟩:=G.get b.length _ hs;have L:cn l (S,b)=fq l.steps[b.length] (S,b) (gT l (S,b)):=by
  unfold cn;rw [show l.steps[((S,b):aH).2.length]?=some l.steps[b.length] from hs]
 have N:kq S.length l.steps[b.length]:=by
  have:=(hR.st _ _ hs).1;have e:=hW.one;have e:S.length=sz b.length:=e;rw [e];exact this
 have O:S.length<=500:=by have e:S.length=sz b.length:=hW.one;rw [e];exact hR.le _
 have U:b.length<=500:=by have:=hR.len;omega
 rw [L] at q;refine ik l2 E2 (ly (ck<|lD (aI E2 rfl)<|gQ k.cl k.nL g (I _ _ z) rfl (.int _)) λ_=>ck<|kD (HB (K:=K) (is:=b.map λn=>((n:Nat):Int)) ((bK (ds:=[.lst<|pairD S,.tup<|b.map λn=>D.int (n:Nat)]) (d:=.tup<|b.map λn=>D.int (n:Nat)) rfl (aI E2 rfl) aq).eq (by rw [af]))<|mL aq)<|gQ k.cl k.nF g (I _ _ z) rfl (.int _)) (λe H3 y l3 Y=>?_) λe H3 y l3 Y=>nx ?_
 .have j:=(u.trans<|x.trans y).but M;refine gj (i:=3) l3 Y (gQ k.cl k.nF g (j _ _ z) rfl (.int _)) λas H4 o4 s4 l4 E4=>?_;have r:=(u.trans<|x.trans<|y.trans s4).but M;have t:gT l (S,b)=l.fresh:=by unfold gT;rw [Mp e]
  rw [t] at q;exact eR l4 (yG (lC k.cl k.nS ((o4 0 Z1).trans g) (r _ _ z) rfl) (r _ _ gs) (aI E4 rfl) J (m.mono r) hW.ok O U N (aI E4 rfl)<|aI E4 rfl) λv H5 s5 r5=>q v H5 (u.trans<|x.trans<|y.trans<|s4.trans s5) r5
 .have j:=(u.trans<|x.trans y).but M;have t:gT l (S,b)=0:=by unfold gT;rw [Mj (by rw [e];exact Mm)]
  rw [t] at q;exact eR l3 (yG (lC k.cl k.nS g (j _ _ z) rfl) (j _ _ gs) (aI Y rfl) J (m.mono j) hW.ok O U N (aI Y rfl)<|aI Y rfl) λv H5 s5 r5=>q v H5 (u.trans<|x.trans<|y.trans s5) r5
end
end a5
namespace a5
open PySem L2 FL
section
variable {P:Program}{w:World}{K:PySem.W.Frag}{mg:Str->Option Value}{base:Heap}{f:Addr}{fd:FuncData}
def oo:bW ["self","number","loom","head","found","unfinished","way","fact"] ["self","number","loom"] (bb nc):=⟨rfl,rfl,rfl,Z9,rfl,Z9,Z9⟩
def Fu(F:aF K "given_by" "Weaving.given_by" nc f fd)(TL:lJ K CL)(TW:qg K CW)(B:Bl mg)(a4:aT P w K mg base 1 "filled" ["atom","setting"] (bv pO))(Y:eB P w K mg base 1 CL "beginnings" ["self"] (CS C CL))(ao:eB P w K mg base 1 CL "is_whole" ["self","way"] (vI C CL))(ac:eB P w K mg base 4 CL "carried_on" ["self","way"] (uP C CL)):bq P w K mg base bA 5 f fd ["self","number","loom"] (Bt C CL CW):=by
 refine F.ok oo (λvs H Q E q0=>by obtain ⟨_,_,_,_,_,_,_,_,_,_,_,_,_,_,_,e,_⟩:=q0;rw [e];rfl) λhj A fp s H vs Q E hr h=>?_;obtain ⟨M,r,a,dx,vr,ll,N,bs,G,I,bt,T,R,sz,v2,rfl,lv,ha,ek,bx,hT,rr,el,ch,em,hG,hN,q⟩:=h;have en:=fJ hr;have nl:=TL.cl;refine ⟨_,(az (bj 3 oo.nd<|aS (aS (dR (pv 0) rfl)<|pv 1) aC)
   (az (bj 4 oo.nd<|cY ap)
   (az (bj 5 oo.nd<|LD (pv 2) nl Y hr)
   (az (zg MD (uJ (pv 5) λ_=>rfl) (az (bj 6 oo.nd<|z6 NX PySem.F.slot_list_pop PySem.F.type_list_pop Io<|pv 5)
   (az (bj 7 oo.nd<|bB a4 hr<|ai (pv 3)<|ai (aS (pv 6) aC) ap)
   (ay (bQ (jS<|pB (by exact en) (pv 7)<|dR (pv 0) rfl) (ay (bQ (cG<|j8 (pv 2) nl ao hr<|ai (pv 6) ap) (az (lq en (dR (pv 0) rfl) (pv 7) cV rfl)
   (ay<|iK (pv 4)<|ef<|ai (pv 7)<|ai (pv 1)<|ai (aS (pv 6) aC) ap))<|ay<|iT<|qV NX Ov O2 u3 (pv 5)<|ai (j8 (pv 2) nl ac hr<|ai (pv 6) ap) ap)) ce)))))
   (ay<|bm<|pv 4))))),?_⟩
 have hR:=hG.run;obtain ⟨aL,fr,hk,hm,eL,fs,hn,hh⟩:=id ch;subst eL;have E0:ax (but H M) (L2.start ["self","number","loom","head","found","unfinished","way","fact"] [.ref a,.int ((G:Nat):Int),.ref aL]) [none,some (.int ((G:Nat):Int)),none,none,none,none,none,none]:=f9 (.raw (.dat (.int _) (.raw .nil))) _;have ft:(bs.map aY)[G]?=some (aY (I,bt)):=by rw [Mo,el];rfl
 refine gj (i:=3) (d:=.tup I) lv E0 (bK (ds:=[.tup I,cb bt]) (d:=.tup I) rfl (cy (ds:=bs.map aY) (d:=aY (I,bt)) (jo ft) (gQ TW.cl TW.nR rfl ha rfl rr)<|aI E0 rfl) aq) λep H1 o1 s1 l1 E1=>?_;dsimp only;have fv:ep[0]?=some (some (.ref a)):=(o1 0 Z1).trans rfl;have f0:ep[2]?=some (some (.ref aL)):=(o1 2 Z1).trans rfl;refine nZ (i:=4) l1 E1 Z8 ag (MI _) λy vF a0 H4 o4 i4 n4 h4 r4 l4 k4 E4=>?_;have d4:ab H1 H4:=λx o e=>(k4 x o e).2;have f1:H1 y=none:=none_of (ab.refl H1) k4;have HF:H y=none:=none_of s1 k4;have f2:vF=[]:=by cases r4;rfl
 subst f2;have f3:a0[0]?=some (some (.ref a)):=(o4 0 Z1).trans fv;have eq:a0[2]?=some (some (.ref aL)):=(o4 2 Z1).trans f0;have d5:ab (but H M) (but H4 (y::M)):=(s1.but M).trans<|i6 f1 d4
 have er:=ch.mono d5;refine ⟨.ref aL,eq,aL,fr,_,rfl,(aw<|d5 _ _ fs).2,rfl,y::M,r,.ref aL,rfl,l4,er,em,λk vU H5 s5 co h5 r5=>?_⟩;have b6:y≠k:=λz=>by rw [<-z,h4] at co;cases co
 have HU:H k=none:=ib (s1.trans d4) co;have es:ab H H5:=s1.trans<|d4.trans s5
 have et:H5 N=some (.dT<|cE T):=es _ _ bx;have dd:N≠y:=λz=>by rw [z,HF] at bx;cases bx
 have b7:N≠k:=λz=>by rw [z,HU] at bx;cases bx
 have eu:ab (but H4 (y::M)) (but H5 (k::y::M)):=i6 co s5;have f4:ab (but H M) (but H5 (k::y::M)):=d5.trans eu;have l5:au (k::y::M) H5:=(l4.same s5).cons h5;have f5:=E4.len;have E5:ax (but H5 (k::y::M)) (a0.set 5<|some (.ref k)) [none,some (.int ((G:Nat):Int)),none,some (.tup I),none,none,none,none]:=(E4.mono eu).off 5 _;have ga:(a0.set 5<|some (.ref k))[0]?=some (some (.ref a)):=(Me Z1).trans f3;have gb:(a0.set 5<|some (.ref k))[2]?=some (some (.ref aL)):=(Me Z1).trans eq;have gd:(a0.set 5<|some (.ref k))[4]?=some (some (.ref y)):=(Me Z1).trans i4;have gh:(a0.set 5<|some (.ref k))[5]?=some (some (.ref k)):=Mr (by rw [f5];exact (show 5<8 by decide));have gl:=s5 _ _ h4;have ea:eD r=[]\/eD r=[([],[])]:=by
  unfold eD;split
  .exact .inl rfl
  .split
   .exact .inr rfl
   .exact .inl rfl
 have di:(eD r).reverse=eD r:=by rcases ea with z|z<;>rw [z]<;>rfl
 have ev:0+((eD r).map λw=>dP r (bT r w) w).sum<=dP r r.steps.length ([],[]):=by
  rcases ea with z|z
  .rw [z];exact MI _
  .rw [z]
   show 0+(dP r (r.steps.length-0) ([],[])+0)<=_;rw [QY];omega
 have ew:∀w∈eD r,GoodW sz r.steps w/\R w:=λw hw=>by
  rcases ea with z|z
  .rw [z] at hw;cases hw
  .rw [z] at hw
   rw [MG.mp hw];exact ⟨GoodW.nil hR,hG.r0⟩
 unfold f6 at q;generalize eD r=B0 at q r5 di ev ew;refine ⟨λm O X=>∃(j:List bD) (stack:List aH) (uF L:List V),cC I G (B0.flatMap λw=>cR r (bT r w) w) T=j++cC I G (stack.reverse.flatMap λw=>cR r (bT r w) w) (T++aV j)/\(∀g∈T++aV j,gc g)/\m=(stack.map λw=>dP r (bT r w) w).sum/\j.length+m<=dP r r.steps.length ([],[])/\(∀w∈stack,GoodW sz r.steps w/\R w)/\O[0]?=some (some (.ref a))/\O[2]?=some (some (.ref aL))/\O[4]?=some (some (.ref y))/\O[5]?=some (some (.ref k))/\X y=some (.lst uF)/\aE (but X (k::y::M)) uF (j.map cU)/\X k=some (.lst L)/\aE (but X (k::y::M)) L (stack.map db)/\X N=some (.dT<|cE<|T++aV j)/\(∀b u,b≠N->H b=some u->X b=some u)/\au (k::y::M) X/\ab (but H M) (but X (k::y::M))/\ax (but X (k::y::M)) O [none,some (.int ((G:Nat):Int)),none,some (.tup I),none,none,none,none],
  ⟨_,[],B0,[],vU,by rw [di];show _=[]++cC I G _ (T++[]);rw [MP];rfl,by show∀g∈T++[],gc g;rw [MP];exact hT,rfl,ev,ew,ga,gb,gd,gh,gl,.nil,h5,r5,by show H5 N=some (.dT<|cE<|T++[]);rw [MP];exact et,λb u _ e=>es _ _ e,l5,f4,E5⟩,?_⟩
 rintro m O X ⟨j,stack,uF,L,as,U,rfl,gn,an,j0,j2,j4,j5,ex,rF,ec,rU,ey,KX,lX,go,EX⟩;refine ⟨.ref k,j5, !L.isEmpty,.inl ⟨L,aN.of ec,rfl⟩,?_⟩;have ez:stack=[]\/∃J w,stack=J++[w]:=by
  rcases List.eq_nil_or_concat stack with z|⟨J,w,z⟩
  .exact .inl z
  .exact .inr ⟨J,w,by rw [z,List.concat_eq_append]⟩
 rcases ez with rfl|⟨J,w,rfl⟩
 .have hu:L=[]:=by cases rU;rfl
  subst hu;refine Eq.mpr (Mj (c:=(!([]:List V).isEmpty)=true) Z8) ?_;have as:cC I G (B0.flatMap λw=>cR r (bT r w) w) T=j++[]:=as;rw [MP] at as;rw [as] at q;refine ⟨.ref y,j4,q y uF X KX HF ex (rF.mono<|eA λz hz=>L8 _ hz) ey⟩
 .have cs:=rU.length;rw [Md,Mv,Nv] at cs;obtain ⟨hw,ed⟩:=an w<|Ml _<|MG.mpr rfl
  have ct:(((J++[w]).map db))[L.length-1]?=some (db w):=by
   rw [cs,Pf,Mo,MJ<|Mh _,Q0];rfl
  obtain ⟨u,hu,ru⟩:=rU.get ct;have gp:(!L.isEmpty)=true:=by
   cases L with
   |nil=>simp at cs
   |cons _ _=>rfl
  refine Eq.mpr (Mp (c:=(!L.isEmpty)=true) gp) ?_;rw [MK,QJ,List.map_singleton,List.sum_singleton] at gn⊢;refine ⟨λaj af=>∃m',m'<(J.map λw=>dP r (bT r w) w).sum+dP r (bT r w) w/\∃(j:List bD) (stack:List aH) (uF L:List V),cC I G (B0.flatMap λw=>cR r (bT r w) w) T=j++cC I G (stack.reverse.flatMap λw=>cR r (bT r w) w) (T++aV j)/\(∀g∈T++aV j,gc g)/\m'=(stack.map λw=>dP r (bT r w) w).sum/\j.length+m'<=dP r r.steps.length ([],[])/\(∀w∈stack,GoodW sz r.steps w/\R w)/\aj[0]?=some (some (.ref a))/\aj[2]?=some (some (.ref aL))/\aj[4]?=some (some (.ref y))/\aj[5]?=some (some (.ref k))/\af y=some (.lst uF)/\aE (but af (k::y::M)) uF (j.map cU)/\af k=some (.lst L)/\aE (but af (k::y::M)) L (stack.map db)/\af N=some (.dT<|cE<|T++aV j)/\(∀b u,b≠N->H b=some u->af b=some u)/\au (k::y::M) af/\ab (but H M) (but af (k::y::M))/\ax (but af (k::y::M)) aj [none,some (.int ((G:Nat):Int)),none,some (.tup I),none,none,none,none],λaj af h=>h,?_⟩;refine ⟨.ref k,j5,(show gW K "list" (.ref k) _ from .inl ⟨rfl,L,aN.of ec⟩),k,L,u,rfl,rfl,ec,hu,?_⟩;have eb:but (upd X k (.lst L.dropLast)) (k::y::M)=but X (k::y::M):=dN Mc;have bd:aE (but (upd X k (.lst L.dropLast)) (k::y::M)) L.dropLast (J.map db):=by
   rw [eb];have h1:=rU.take J.length;rw [MK,NV (by rw [Md];exact Mh _),MQ (l:=List.map db J) (by rw [Md];exact Mh _)] at h1;have h2:L.dropLast=L.take J.length:=by rw [List.dropLast_eq_take,cs,Pf]
   rw [h2];exact h1
  have Ea:ax (but (upd X k (.lst L.dropLast)) (k::y::M)) (O.set 6<|some u) [none,some (.int ((G:Nat):Int)),none,some (.tup I),none,none,some<|db w,none]:=by rw [eb];exact EX.set 6 ru
  have la:au (k::y::M) (upd X k (.lst L.dropLast)):=lX.upd;have Ka:∀b u,b≠N->H b=some u->(upd X k (.lst L.dropLast)) b=some u:=λb o hb e=>by
   rw [aD λz=>by rw [z,HU] at e;cases e];exact KX b o hb e
  have e0:ab (but H M) (but (upd X k (.lst L.dropLast)) (k::y::M)):=by rw [eb];exact go
  have a2:(upd X k (.lst L.dropLast)) y=some (.lst uF):=by rw [aD b6];exact ex
  have am:(upd X k (.lst L.dropLast)) k=some (.lst L.dropLast):=aO;have b8:(upd X k (.lst L.dropLast)) N=some (.dT<|cE<|T++aV j):=by rw [aD b7];exact ey
  have c1:aE (but (upd X k (.lst L.dropLast)) (k::y::M)) uF (j.map cU):=by rw [eb];exact rF
  have b0:(O.set 6<|some u)[0]?=some (some (.ref a)):=(Me Z1).trans j0;have b2:(O.set 6<|some u)[2]?=some (some (.ref aL)):=(Me Z1).trans j2;have b4:(O.set 6<|some u)[4]?=some (some (.ref y)):=(Me Z1).trans j4;have b5:(O.set 6<|some u)[5]?=some (some (.ref k)):=(Me Z1).trans j5;clear eb rU ru;generalize upd X k (.lst L.dropLast)=Xa at bd Ea la Ka e0 a2 am b8 c1;generalize L.dropLast=uV at bd am;have a1:cC I G (B0.flatMap λw=>cR r (bT r w) w) T=j++cC I G (cR r (bT r w) w++J.reverse.flatMap λw=>cR r (bT r w) w) (T++aV j):=by
   rw [as,List.reverse_append,Pr];simp
  have gs:(aV j).length=j.length:=by unfold aV;rw [Md]
  have e1:∀n,n<=dP r r.steps.length ([],[])->n<sizeLine:=λn h=>by omega
  have hi:=vk r J;have dp:=zS r (bT r w) w;have dt:∀p∈w.1,p.2.sc=true:=λp hp=>(hw.ok p hp).1;have a3:bZ (bp I w):=Bf hG.cv dt;have d0:∀g∈T++aV j,bZ g:=λg hg=>(U g hg).1;refine gj (i:=7) (d:=.tup<|bp I w) la Ea (bM (R:=pO) ⟨I,w.1,rfl,hG.cv,dt,by have:=hG.hl;omega,rfl⟩<|aa (aI Ea rfl)<|aa (bK (ds:=[.lst<|pairD w.1,.tup<|w.2.map λn=>D.int (n:Nat)]) (d:=.lst<|pairD w.1) rfl (aI Ea rfl) aq) ag) λgy Xb ob sb lb Eb=>?_;have c0:=(ob 0 Z1).trans b0;have c2:=(ob 2 Z1).trans b2;have c4:=(ob 4 Z1).trans b4;have c5:=(ob 5 Z1).trans b5;have bi:=e0.trans<|sb.but (k::y::M)
  have cd:=sb _ _ b8;obtain ⟨v7,e7,r7⟩:=Eb.get 7 _ rfl;obtain ⟨e2,ho,g0,h7,g1⟩:=r7.fb;subst g0;have eg:=(aw h7).2;rw [mS a3 g1] at eg;have g2:=(aw<|bi _ _ ha).2;refine ⟨.ref e2,e7,.ref a,c0,a,CW,dx,_,.ref N,rfl,g2,TW.cl,TW.nT,rfl,N,_,rfl,c6.t cd eg,_,rfl,?_⟩;rw [wT a3 d0];by_cases bk:bp I w∈T++aV j
  .
   rw [My bk];refine Eq.mpr (Mj (c:=(!true)=true) Z8) ?_;have g3:=hG.skip w ed (U _ bk).2;refine ⟨_,QA dp,j,J,uF,uV,?_,U,rfl,by omega,λx hx=>an x<|Ms _ hx,c0,c2,c4,c5,sb _ _ a2,c1.mono<|sb.but _,sb _ _ am,bd.mono<|sb.but _,cd,λb u hb e=>sb _ _<|Ka b u hb e,lb,bi,(Eb.drop 7).drop 6⟩;rw [a1,x3 _ _ _ λx hx=>by rw [g3 x hx];exact bk]
  .rw [MH bk]
   refine Eq.mpr (Mp (c:=(!false)=true) rfl) ?_;refine ik lb Eb (Hy c2 (ch.mono bi)<|aI Eb rfl) (λe Xc sc lc Ec=>?_) λe Xc sc lc Ec=>?_
   .have e:=MC e;have kS:cR r (bT r w) w=[w]:=by
     have:bT r w=0:=by unfold bT;omega
     rw [this];rfl
    have g4:gc (bp I w):=⟨a3,hG.flat w ed e⟩
    have g5:=(aw<|((sc.but (k::y::M)) _ _<|bi _ _ ha)).2;have e3:=sc _ _ cd;refine ⟨.ref a,c0,a,CW,dx,_,.ref N,rfl,g5,TW.cl,TW.nT,rfl,.ref e2,e7,N,_,rfl,gi.t e3 (sc _ _ eg) (by rw [yx,Mv,gs];omega),?_⟩;rw [AN a3 d0,Mj bk];have c3:but (upd Xc N (.dT<|cE<|T++aV j++[bp I w])) (k::y::M)=but Xc (k::y::M):=dN<|L8 _<|L8 _ ek
    have Ed:ax (but (upd Xc N (.dT<|cE<|T++aV j++[bp I w])) (k::y::M)) gy [none,some (.int ((G:Nat):Int)),none,some (.tup I),none,none,some<|db w,some (.tup<|bp I w)]:=by rw [c3];exact Ec
    have d1:(upd Xc N (.dT<|cE<|T++aV j++[bp I w])) y=some (.lst uF):=by rw [aD<|M6 dd];exact sc _ _<|sb _ _ a2
    have d2:(upd Xc N (.dT<|cE<|T++aV j++[bp I w])) k=some (.lst uV):=by rw [aD<|M6 b7];exact sc _ _<|sb _ _ am
    have e4:aE (but (upd Xc N (.dT<|cE<|T++aV j++[bp I w])) (k::y::M)) uF (j.map cU):=by rw [c3];exact c1.mono<|(sb.trans sc).but _
    have e5:aE (but (upd Xc N (.dT<|cE<|T++aV j++[bp I w])) (k::y::M)) uV (J.map db):=by rw [c3];exact bd.mono<|(sb.trans sc).but _
    have Kd:∀b u,b≠N->H b=some u->(upd Xc N (.dT<|cE<|T++aV j++[bp I w])) b=some u:=λb u hb e=>by rw [aD hb];exact sc _ _<|sb _ _<|Ka b u hb e
    have e6:ab (but H M) (but (upd Xc N (.dT<|cE<|T++aV j++[bp I w])) (k::y::M)):=by rw [c3];exact bi.trans<|sc.but _
    have ld:au (k::y::M) (upd Xc N (.dT<|cE<|T++aV j++[bp I w])):=lc.upd;have d3:(upd Xc N (.dT<|cE<|T++aV j++[bp I w])) N=some (.dT<|cE<|T++aV j++[bp I w]):=aO;generalize upd Xc N (.dT<|cE<|T++aV j++[bp I w])=Xd at Ed d1 d2 e4 e5 Kd e6 ld d3;refine qZ ld Ed (a:=y) (d:=cU (bp I w,(G,w.2))) Z8 c4 d1 e4 (by rw [Md];exact e1 _ Z4) (aQ<|aa (aI Ed rfl)<|aa (aI Ed rfl)<|aa (bK (ds:=[.lst<|pairD w.1,.tup<|w.2.map λn=>D.int (n:Nat)]) (d:=.tup<|w.2.map λn=>D.int (n:Nat)) rfl (aI Ed rfl) aq) ag) λvd Xe ke le he re Ee=>?_;have Se:ab (but Xd (k::y::M)) (but Xe (k::y::M)):=mJ Z8 ke;have ei:aV (j++[(bp I w,(G,w.2))])=aV j++[bp I w]:=by rw [oC];rfl
    refine ⟨_,QA dp,j++[(bp I w,(G,w.2))],J,_,uV,?_,?_,rfl,?_,λx hx=>an x<|Ms _ hx,c0,c2,c4,c5,he,?_,ke _ _ (M6 b6) d2,e5.mono Se,?_,?_,le,e6.trans Se,(Ee.drop 7).drop 6⟩
    .rw [a1,kS,List.singleton_append,na bk,ei,<-M5 T]
     exact (M5 j [(bp I w,(G,w.2))] _).symm
    .rw [ei,<-M5]
     intro g hg;rcases MB.mp hg with z|z
     .exact U g z
     .rw [MG.mp z];exact g4
    .rw [Mv,Nv];omega
    .rw [MK];exact re
    .rw [ei,<-M5];exact ke _ _ dd d3
    .exact λb u hb e=>ke b u (λz=>by rw [z,HF] at e;cases e)<|Kd b u hb e
   .have e:=Ni e;have hq:=hw.two;have ej:w.2.length<r.steps.length:=by omega
    have g6:=Bi hR hw;have e8:=Ew ej;have fa:=EE ej;have fl:=bi.trans<|sc.but (k::y::M)
    have hs:=vk r<|cn r w
    refine ⟨.ref k,c5,(show gW K "list" (.ref k) _ from .inl ⟨rfl,uV,aN.of<|sc _ _<|sb _ _ am⟩),FY c2 (ch.mono fl) hR hw ej (aI Ec rfl) (k::y::M) Xc (ab.refl _) lc _ λv Xd sd rv=>?_⟩;obtain ⟨bc,zs,rfl,g7,fn⟩:=rv.dX;have hc:=fn.length;rw [Md] at hc;have hf:=bd.length;rw [Md] at hf;have bl:=sb.trans<|sc.trans sd
    refine ⟨k,bc,uV,zs,rfl,rfl,bl _ _ am,(aw g7).2,ND<|e1 _ Z4,?_⟩;have dc:but (upd Xd k (.lst<|uV++zs)) (k::y::M)=but Xd (k::y::M):=dN Mc;refine ⟨((J++cn r w).map λw=>dP r (bT r w) w).sum,?_,j,J++cn r w,uF,uV++zs,?_,U,rfl,?_,λx hx=>?_,c0,c2,c4,c5,?_,?_,aO,?_,?_,?_,(lc.same sd).upd,?_,?_⟩
    .rw [MK,QJ,e8];omega
    .rw [a1,fa,List.reverse_append,Pr]
    .rw [MK,QJ];omega
    .rcases MB.mp hx with z|z
     .exact an x<|Ms _ z
     .exact ⟨g6 x z,hG.rs w ed x z⟩
    .rw [aD b6];exact bl _ _ a2
    .rw [dc];exact c1.mono<|bl.but _
    .rw [dc,MK];exact (bd.mono<|bl.but _).append fn
    .rw [aD b7];exact bl _ _ b8
    .exact λb u hb e=>by rw [aD λz=>by rw [z,HU] at e;cases e];exact bl _ _<|Ka b u hb e
    .rw [dc];exact fl.trans<|sd.but _
    .rw [dc];exact ((Ec.same sd).drop 7).drop 6
end
end a5
namespace a5
open PySem L2 FL
section
variable {P:Program}{w:World}{K:PySem.W.Frag}{mg:Str->Option Value}{base:Heap}{f:Addr}{fd:FuncData}
def qA:bW ["self","facts","fact","found","number","loom"] ["self","facts"] (bb my):=⟨rfl,rfl,rfl,Z9,rfl,Z9,Z9⟩
def Du(F:aF K "one_round" "Weaving.one_round" my f fd)(TL:lJ K CL)(TW:qg K CW)(B:Bl mg)(a1:eB P w K mg base 4 CL "take_in" ["self","facts"] (zc C CL))(ao:eB P w K mg base 5 CW "given_by" ["self","number","loom"] (Bt C CL CW)):bq P w K mg base bA 6 f fd ["self","facts"] (xT C CL CW):=by
 refine F.ok qA (λvs H Q E q0=>by obtain ⟨_,_,_,_,_,_,_,_,_,_,_,_,_,e,_⟩:=q0;rw [e];rfl) λj2 A g0 s H vs Q E hr h=>?_;obtain ⟨Z,a,dx,vr,ll,td,us,ac,I,l,T,c,v1,rfl,lv,ha,g1,c2,eu,ev,g2,rr,r1,hO,q⟩:=h;have g3:=fJ hr;have nl:=TL.cl;have oR:=TW.cl;refine ⟨_,(az (cI MD rfl (cr<|pv 1) (bo 2 qA.nd)<|ay<|lq g3 (dR (pv 0) rfl) (pv 2) cV rfl)
   (az (bj 3 qA.nd<|cY ap)
   (az (cI MD rfl (BD B.enumerate<|ai (dR (pv 0) rfl) ap) (kP rfl<|e9 (bo 4 qA.nd)<|e9 (bo 5 qA.nd) jG) (az (iT<|j8 (pv 5) nl a1 hr<|ai (pv 1) ap)
   (ay<|iT<|qV NX Ov O2 u3 (pv 3)<|ai (j8 (pv 0) oR ao hr<|ai (pv 4)<|ai (pv 5) ap) ap)))
   (ay<|bm<|pv 3)))),?_⟩
 have E0:ax (but H Z) (L2.start ["self","facts","fact","found","number","loom"] [.ref a,v1]) [none,some (.lst<|c.map D.tup),none,none,none,none]:=f9 (.raw (.dat r1 .nil)) _;have ew:∀g∈du T c,gc g:=λg hg=>by
  rcases (uT c T g).mp hg with z|z
  .exact hO.tok g z
  .exact (hO.pN g z).2
 have bl:=hO.all;rw [Mv] at bl;refine gZ (M:=Z) (dH<|aI (i:=1) E0 rfl) lv λH1 s1=>?_;refine ⟨λj O X=>X td=some (.dT<|cE<|du T<|c.take j)/\(∀b u,b≠td->H b=some u->X b=some u)/\au Z X/\ab (but H1 Z) (but X Z)/\O[0]?=some (some (.ref a))/\ax (but X Z) O [none,some (.lst<|c.map D.tup),none,none,none,none],
  ⟨s1 _ _ g2,λb u _ e=>s1 _ _ e,lv.same s1,ab.refl _,rfl,E0.same s1⟩,λj O X q3=>by obtain ⟨_,_,x,y,_⟩:=q3;exact ⟨y,x⟩,?_,?_⟩
 .rintro j d x O X X' hd ⟨ht,kX,lX,SX,j0,EX⟩ s2 rx
  rw [Mo] at hd;obtain ⟨g,hg,rfl⟩:=M8.mp hd;have ex:=Mi hg;obtain ⟨kb,j4,rfl,h2,g4⟩:=rx.fb;have ey:=(aw h2).2;rw [mS (hO.pN g ex).2.1 g4] at ey;have g5:but H1 Z a=some (.ins CW dx<|mC vr ll td):=(s1.but Z) _ _ ha;have ez:=s2 _ _ (aw<|SX _ _ g5).2;have g6:∀g∈du T (c.take j),bZ g:=λg hg=>by
   rcases (uT _ T g).mp hg with z|z
   .exact (hO.tok g z).1
   .exact (hO.pN g<|PZ z).2.1
  have d1:=Lg T c j;refine ⟨.ref a,(Me Z1).trans j0,a,CW,dx,_,.ref td,rfl,ez,TW.cl,TW.nT,rfl,.ref kb,Mr (by rw [EX.len];exact (show 2<6 by decide)),td,_,rfl,gi.t (s2 _ _ ht) ey (by rw [yx];exact cq Z4),?_⟩;rw [AN (hO.pN g ex).2.1 g6];have g7:c.take (j+1)=c.take j++[g]:=by rw [MX,hg];rfl
  have eb:∀o,but (upd X' td o) Z=but X' Z:=λo=>dN eu;refine ⟨by rw [g7,Fa];exact aO,λb u hb e=>by rw [aD hb];exact s2 _ _<|kX b u hb e,(lX.same s2).upd,by rw [eb];exact SX.trans<|s2.but Z,(Me Z1).trans j0,?_⟩;rw [eb];exact (EX.same s2).off 2 _
 rintro j5 H2 ⟨bs,k2,l2,S2,hc,E2⟩;rw [Md,NL] at bs;have he:ab (but H Z) (but H2 Z):=(s1.but Z).trans S2;clear S2 s1 H1;refine nZ (i:=3) l2 E2 Z8 ag (MI _) λn vF hf H3 o3 i3 n3 h3 r3 l3 k3 E3=>?_;have ed:ab H2 H3:=λx o e=>(k3 x o e).2;have a2:H2 n=none:=none_of (ab.refl H2) k3;have hh:vF=[]:=by cases r3;rfl
 subst hh;have e0:hf[0]?=some (some (.ref a)):=(o3 0 Z1).trans hc;have dc:ab (but H Z) (but H3 (n::Z)):=he.trans<|i6 a2 ed
 have bi:=c2.fL;have K3:∀b u,b≠td->H b=some u->H3 b=some u:=λb u hb e=>ed _ _<|k2 b u hb e
 have hi:H n=none:=by
  cases qx:H n with
  |none=>rfl
  |some u=>
   by_cases z:n=td
   .rw [z,bs] at a2;cases a2
   .rw [k2 n u z qx] at a2;cases a2
 have e5:n≠td:=λz=>by rw [z,bs] at a2;cases a2
 have dd:=ed _ _ bs;have eg:∀{x:Addr},H3 x=none->H x=none:=λ{x} e=>by
  cases qx:H x with
  |none=>rfl
  |some u=>
   by_cases z:x=td
   .rw [z,dd] at e;cases e
   .rw [K3 x u z qx] at e;cases e
 have hk:dn C CL H3 (n::Z) us ac l:=c2.frame (λos N x G=>L8 _<|bi os N x G) (λb u q4 e=>by obtain ⟨os,N,hb⟩:=q4;exact K3 b u (λz=>ev os N (by rw [<-z];exact hb)) e) dc;have i2:=hO.len;have e6:(fz I l c).length=l.length:=by
  unfold fz;rw [Md,List.length_zip];omega
 generalize i4:du T c=T1 at ew bs dd q bl;have d2:∀(j:Nat) r U,I[j]?=some r->l[j]?=some U->(fz I l c)[j]?=some (r.1,f6<|bX U c):=λj r U e1 e2=>by
  unfold fz;rw [Mo,(Qi (z:=(r,U))).mpr ⟨e1,e2⟩];rfl
 generalize hl:fz I l c=L at e6 q d2 bl;have d1:∀j,bf 0 L T1=bf 0 (L.take j) T1++bf (0+(L.take j).length) (L.drop j) (T1++aV (bf 0 (L.take j) T1)):=λj=>by
  have:=wD (L.take j) (L.drop j) 0 T1;rw [N8] at this;exact this
 have bt:∀j,T1.length+(bf 0 (L.take j) T1).length<=1000:=λj=>by
  have e:=M7 List.length<|d1 j
  rw [Mv] at e;have e2:(aV<|bf 0 L T1).length=(bf 0 L T1).length:=by unfold aV;rw [Md]
  omega
 refine tH (M:=n::Z) (A5 (lC TW.cl TW.nL e0 (dc _ _ ha) rfl)<|dc _ _ g1) l3 λH4 s4=>?_;refine ⟨λj J O X=>∃m uF,dn C CL X J us m ((l.take j).map (λU=>bX U c)++l.drop j)/\(∀os∈m,∀x∈os,(∃o∈ac,x∈o)\/H4 x=none)/\(∀b u,b≠td->b≠n->(∀os∈ac,b∉os)->H4 b=some u->X b=some u)/\au J X/\(∀x∈n::Z,x∈J)/\(∀x∈J,x∈n::Z\/H4 x=none)/\X td=some (.dT<|cE<|T1++aV (bf 0 (L.take j) T1))/\X n=some (.lst uF)/\aE (but X J) uF ((bf 0 (L.take j) T1).map cU)/\ab (but H4 (n::Z)) (but X J)/\O[0]?=some (some (.ref a))/\O[3]?=some (some (.ref n))/\ax (but X J) O [none,some (.lst<|c.map D.tup),none,none,none,none],
  ⟨ac,[],?_,λos N x G=>.inl ⟨os,N,G⟩,λb u _ _ _ e=>e,l3.same s4,λx G=>G,λx G=>.inl G,?_,s4 _ _ h3,.nil,ab.refl _,e0,i3,E3.same s4⟩,λj J O X q5=>by obtain ⟨_,_,_,_,_,x,_,_,_,_,_,y,_⟩:=q5;exact ⟨y,x⟩,?_,?_⟩
 .show dn C CL H4 (n::Z) us ac ([]++l);rw [OC];exact hk.frame (λos N x G=>L8 _<|bi os N x G) (λb u _ e=>s4 _ _ e)<|s4.but _
 .show H4 td=some (.dT<|cE<|T1++[]);rw [MP];exact s4 _ _ dd
 .rintro j J x O X X' hj ⟨m,uF,a3,Y,kX,lX,an,bx,bk,b0,rF,SX,j0,j3,EX⟩ s5 ⟨TT,v,rfl,hm,hv⟩
  have ei:j<l.length:=by rw [<-c2.l1];exact hj
  have b6:=Mb ei;generalize e7:l[j]=U at b6;have di:=Mb (show j<I.length by omega);generalize I[j]'(show j<I.length by omega)=ru at di;obtain ⟨hd,e8⟩:=ru;obtain ⟨R,sz,hG,i5⟩:=hO.give j _ U di b6;obtain ⟨fa,hn,hp⟩:=hO.dI U<|Mi b6
  refine ⟨TT,_,rfl,bz.of (aw hm).2,rfl,_,[v],rfl,v,[],rfl,rfl,?_⟩;have fl:=lX.same s5;have d3:((l.take j).map (λU=>bX U c)++l.drop j)[j]?=some U:=by
   rw [MJ (by rw [Md,MT];omega),Md,MT,show j-min j l.length=0 by omega,List.getElem?_drop,Nat.add_zero];exact b6
  have d4:dn C CL X' J us m ((l.take j).map (λU=>bX U c)++l.drop j):=a3.frame a3.fL (λb u _ e=>s5 _ _ e)<|s5.but _
  obtain ⟨aj,dp,hu,fn,fp,d5⟩:=d4.get j U d3;rw [hv] at hu;cases hu;have E5:ax (but X' J) ((O.set 4<|some (.int ((j:Nat):Int))).set 5<|some (.ref aj)) [none,some (.lst<|c.map D.tup),none,none,some (.int ((j:Nat):Int)),none]:=((EX.same s5).set 4 (.int _)).off 5 _;have fr:=EX.len;have c0:((O.set 4<|some (.int ((j:Nat):Int))).set 5<|some (.ref aj))[0]?=some (some (.ref a)):=(Me Z1).trans<|(Me Z1).trans j0;have c3:((O.set 4<|some (.int ((j:Nat):Int))).set 5<|some (.ref aj))[3]?=some (some (.ref n)):=(Me Z1).trans<|(Me Z1).trans j3;have c4:((O.set 4<|some (.int ((j:Nat):Int))).set 5<|some (.ref aj))[4]?=some (some (.int ((j:Nat):Int))):=(Me Z1).trans<|Mr (by rw [fr];exact (show 4<6 by decide));have c5:((O.set 4<|some (.int ((j:Nat):Int))).set 5<|some (.ref aj))[5]?=some (some (.ref aj)):=Mr (by rw [NH,fr];exact (show 5<6 by decide));generalize (O.set 4<|some<|V.int ((j:Nat):Int)).set 5 (some (.ref aj))=τ at E5 c0 c3 c4 c5;obtain ⟨fs,c1,hs⟩:=E5.get 1 _ rfl;obtain ⟨hw,kc,kd,h0,i7,i8,ft,jk⟩:=id fp;refine ⟨.ref aj,c5,aj,hw,_,rfl,h0,rfl,fs,c1,J,dp,U,c,aj,fs,rfl,fl,fp,hs,λg hg=>(hO.pN g hg).1,hp,fa,hn,λk X6 n6 k6 l6 L6=>?_⟩;have h4:td∈J:=an td<|L8 _ eu;have fv:n∈J:=an n Mc;have f0:H4 td≠none:=λz=>by rw [s4 _ _ dd] at z;cases z
  have f1:H4 n≠none:=λz=>by rw [s4 _ _ h3] at z;cases z
  have b7:∀{y:Addr},(∀o∈ac,y∉o)->H4 y≠none->∀os∈m,y∉os:=λ{y} h1 h2 os N hy=>by
   rcases Y os N y hy with ⟨o,am,w⟩|w
   .exact h1 o am w
   .exact h2 w
  have b8:=b7 ev f0;have as:=b7 (λo N z=>by have:=bi o N n z;exact n3 this) f1;have af:=Mi fn;have cd:∀x∈k.flatten,x∈aj::dp.flatten\/X' x=none:=λx G=>by
   obtain ⟨os,N,hy⟩:=M1.mp G;rcases n6 os N x hy with ⟨o,am,w⟩|w
   .exact .inl<|L8 _<|M1.mpr ⟨o,am,w⟩
   .exact .inr w
  have ch:∀b u,b∉aj::dp.flatten->X' b=some u->X6 b=some u:=λb u hb e=>k6 b u (λz=>hb (by rw [z];exact Mc)) (λos N z=>hb<|L8 _<|M1.mpr ⟨os,N,z⟩) e;have ej:=d4.put fl d3 hv fn Mc cd ch L6;have ek:ab (but X' J) (but X6<|k.flatten++J):=λb u e=>by
   obtain ⟨q1,q2⟩:=aw e;rw [bn]
   .exact ch b u (λz=>q1<|d5 b z) q2
   .intro z;rcases MB.mp z with z|z
    .rcases cd b z with w|w
     .exact q1<|d5 b w
     .rw [w] at q2;cases q2
    .exact q1 z
  have ea:((l.take j).map (λU=>bX U c)++l.drop j).set j (bX U c)=(l.take<|j+1).map (λU=>bX U c)++l.drop (j+1):=by
   have f2:((l.take j).map λU=>bX U c).length=j:=by rw [Md,MT];omega
   rw [List.set_append_right _ _ Z4,f2,Q0,N9 ei,List.set_cons_zero,MX,Mb ei,MK,M5,e7];rfl
  rw [ea] at ej;have f3:X6 td=some (.dT<|cE<|T1++aV (bf 0 (L.take j) T1)):=ch _ _ (b8 _ af)<|s5 _ _ bk
  have co:X6 n=some (.lst uF):=ch _ _ (as _ af)<|s5 _ _ b0
  have E6:=E5.mono ek;have f4:ab (but H4 (n::Z)) (but X6<|k.flatten++J):=SX.trans<|(s5.but _).trans ek
  have el:ab (but H Z) (but X6<|k.flatten++J):=dc.trans<|(s4.but _).trans f4
  have f5:=rF.mono<|(s5.but _).trans ek
  obtain ⟨Mg,a0⟩:∃Mg:ZX,∀x,x∈Mg↔x∈k.flatten++J/\x∉aj::k.flatten:=⟨(k.flatten++J).filter λx=>decide (x∉aj::k.flatten),λx=>by rw [Mq,Of]⟩
  have a4:∀x∈Mg,x∈k.flatten++J:=λx G=>((a0 x).mp G).1;have ga:ab (but X6<|k.flatten++J) (but X6 Mg):=eA a4;have h5:iJ C CL (but X6 Mg) (.ref aj) (bX U c):=L6.rep a4 (λz=>((a0 aj).mp z).2 Mc) λos N x G z=>((a0 x).mp z).2<|L8 _<|M1.mpr ⟨os,N,G⟩
  have cs:∀{y:Addr},X' y≠none->y∉aj::dp.flatten->y∉aj::k.flatten:=λ{y} h1 h2 z=>by
   rcases Mn.mp z with w|w
   .exact h2 (by rw [w];exact Mc)
   .rcases cd y w with u|u
    .exact h2 u
    .exact h1 u
  have bc:td∈Mg:=(a0 td).mpr ⟨Ml _ h4,cs (λz=>by rw [s5 _ _ bk] at z;cases z)<|b8 _ af⟩;have ec:n∈Mg:=(a0 n).mpr ⟨Ml _ fv,cs (λz=>by rw [s5 _ _ b0] at z;cases z)<|as _ af⟩;have em:∀g∈T1++aV (bf 0 (L.take j) T1),gc g:=λg hg=>by
   rcases MB.mp hg with z|z
   .exact ew g z
   .obtain ⟨y,hy,rfl⟩:=Mx.mp z;obtain ⟨_,i,qq,hq,_,ww,en,e1,_⟩:=qe _ _ _ y hy;have ep:(fz I l c)[i]?=some qq:=by
     rw [hl];have h6:=(Ma.mp hq).1;rw [MT] at h6;rw [NP Z4] at hq;exact hq
    unfold fz at ep;rw [Mo] at ep;obtain ⟨⟨r',h7⟩,hz,rfl⟩:=M8.mp ep;obtain ⟨e3,e4⟩:=Qi.mp hz;obtain ⟨R',ke,G',_⟩:=hO.give i r' h7 e3 e4;rw [e1];exact G'.mV ww en
  have kk:τ.length=6:=E5.len;refine ⟨.ref n,c3,(show gW K "list" (.ref n) _ from .inl ⟨rfl,uF,aN.of co⟩),.ref a,c0,a,dx,_,rfl,(aw<|el _ _ ha).2,rfl,.int ((j:Nat):Int),c4,.ref aj,c5,Mg,bX U c,a,dx,vr,ll,td,I,j,hd,e8,T1++aV (bf 0 (L.take j) T1),R,sz,.ref aj,rfl,λx G=>l6 x<|a4 x G,(el.trans ga) _ _ ha,bc,f3,em,rr.mono<|el.trans ga,di,h5,?_,hG,?_,λp ds X7 k7 gb h8 r7 gd=>?_⟩
  .show ((U.steps).map _).length<=100;rw [Md];exact fa
  .have:=bt j;have e2:(aV<|bf 0 (L.take j) T1).length=(bf 0 (L.take j) T1).length:=by unfold aV;rw [Md]
   rw [Mv,e2];have:sizeLine=16777216:=by decide
   omega
  have gh:=d2 j _ U di b6;have ih:L.take (j+1)=L.take j++[(hd,f6<|bX U c)]:=by rw [MX,gh];rfl
  have eq:(L.take j).length=j:=by rw [MT];omega
  have ct:bf 0 (L.take<|j+1) T1=bf 0 (L.take j) T1++cC hd j (f6<|bX U c) (T1++aV (bf 0 (L.take j) T1)):=by
   rw [ih,wD,eq,Og];show _++(cC hd j _ _++[])=_;rw [MP]
  have km:n≠p:=λz=>by rw [<-z,co] at gb;cases gb
  have gl:X7 n=some (.lst uF):=k7 _ _ e5 co;have dt:=bt<|j+1
  rw [ct,Mv] at dt;have it:=r7.length;rw [Md] at it;have iv:=f5.length;rw [Md] at iv;refine ⟨n,p,uF,ds,rfl,rfl,gl,h8,ND<|cq Z4,?_⟩;have L7:dn C CL X7 (k.flatten++J) us (m.set j (aj::k.flatten)) ((l.take<|j+1).map (λU=>bX U c)++l.drop (j+1)):=by
   have er:∀os∈m.set j (aj::k.flatten),td∉os:=λos N=>by
    rcases Oa N with w|w
    .exact b8 os w
    .rw [w];exact ((a0 td).mp bc).2
   refine ej.frame ej.fL (λb u q6 e=>by obtain ⟨os,N,hb⟩:=q6;exact k7 b u (λz=>er os N (by rw [<-z];exact hb)) e) λb u e=>?_;obtain ⟨q1,q2⟩:=aw e;rw [bn q1];exact k7 b u (λz=>q1 (by rw [z];exact a4 td bc)) q2
  have es:ab (but X6<|k.flatten++J) (but X7<|k.flatten++J):=λb u e=>by
   obtain ⟨q1,q2⟩:=aw e;rw [bn q1];exact k7 b u (λz=>q1 (by rw [z];exact a4 td bc)) q2
  have gn:n∈k.flatten++J:=a4 n ec;have eb:but (upd X7 n (.lst<|uF++ds)) (k.flatten++J)=but X7 (k.flatten++J):=dN gn;have ix:∀x∈aj::k.flatten,∀ts,X7 x≠some (.tup ts):=by
   have iz:=L7.get j (bX U c) (by
    rw [<-ea,Mr (by rw [Mv,Md,MT,OQ];omega)])
   obtain ⟨a',j1,_,e2,A',_⟩:=iz;rw [Mr (by rw [a3.l2,Mv,Md,MT,OQ];omega)] at e2;have e2:=Mu e2;rw [e2];exact A'.Hm
  have i0:aE (but X7<|k.flatten++J) ds ((cC hd j (f6<|bX U c)<|T1++aV (bf 0 (L.take j) T1)).map cU):=by
   have h1:=r7.mono<|eA (H:=X7) (M:=Mg) (M':=p::Mg) λx G=>L8 _ G
   have h2:=aE.pd ix (vg λd i1=>by
    obtain ⟨y,hy,rfl⟩:=Mx.mp i1;obtain ⟨_,_,ww,en,e1,_⟩:=lN _ _ y hy;exact Is y (by rw [e1];exact (hG.mV ww en).1)) h1
   rw [jQ (M':=k.flatten++J)] at h2
   .exact h2
   .intro x;rw [MB];constructor
    .rintro (w|w)
     .rcases Mn.mp w with z|z
      .rw [z];exact Ml _ ft
      .exact Ms _ z
     .exact a4 x w
    .intro w;by_cases z:x∈aj::k.flatten
     .exact .inl z
     .exact .inr<|(a0 x).mpr ⟨w,z⟩
  have go:∀{x:Addr},X' x=none->(∃o∈ac,x∈o)\/H4 x=none:=λ{x} e=>by
   by_cases z:∃o∈ac,x∈o
   .exact .inl z
   .cases qx:H4 x with
    |none=>exact .inr rfl
    |some u=>
     by_cases z1:x=td
     .rw [z1,s5 _ _ bk] at e;cases e
     .by_cases z2:x=n
      .rw [z2,s5 _ _ b0] at e;cases e
      .have:=s5 _ _ (kX x u z1 z2 (λo N G=>z ⟨o,N,G⟩) qx);rw [e] at this;cases this
  refine ⟨k.flatten++J,m.set j (aj::k.flatten),uF++ds,?_,λos N x G=>?_,λb u hb d0 gp e=>?_,?_,λx G=>Ml _<|an x G,λx G=>?_,?_,aO,?_,?_,c0,c3,?_⟩
  .have et:∀os∈m.set j (aj::k.flatten),n∉os:=λos N=>by
    rcases Oa N with w|w
    .exact as os w
    .rw [w];exact ((a0 n).mp ec).2
   refine L7.frame L7.fL (λb u ⟨os,N,hb⟩ e=>?_) (by rw [eb];exact ab.refl _);rw [aD λz=>et os N (by rw [<-z];exact hb)];exact e
  .rcases Oa N with w|w
   .exact Y os w x G
   .rw [w] at G
    rcases Mn.mp G with z|z
    .exact Y _ af x (by rw [z];exact Mc)
    .rcases cd x z with y|y
     .exact Y _ af x y
     .exact go y
  .rw [aD d0]
   refine k7 b u hb<|ch b u (λz=>?_)<|s5 _ _<|kX b u hb d0 gp e
   rcases Y _ af b z with ⟨o,am,w⟩|w
   .exact gp o am w
   .rw [e] at w;cases w
  .have:au (k.flatten++J) X7:=λx G z=>by
    cases qx:X6 x with
    |none=>exact l6 x G qx
    |some u=>
     by_cases w:x=td
     .rw [w,gd] at z;cases z
     .rw [k7 x u w qx] at z;cases z
   exact this.upd
  .rcases MB.mp G with z|z
   .rcases cd x z with y|y
    .rcases Y _ af x y with ⟨o,am,w⟩|w
     .exact .inl<|L8 _<|bi o am x w
     .exact .inr w
    .rcases go y with ⟨o,am,w⟩|w
     .exact .inl<|L8 _<|bi o am x w
     .exact .inr w
   .exact bx x z
  .rw [aD<|M6 e5,gd,ct,oC,M5]
  .rw [eb,ct,MK]
   exact (f5.mono es).append i0
  .rw [eb];exact f4.trans es
  .rw [eb]
   exact ((E6.mono es).drop 4)
 .rintro J O X ⟨m,uF,a3,Y,kX,lX,an,bx,bk,b0,rF,SX,j0,j3,EX⟩
  have gs:us.length=l.length:=c2.l1;rw [gs,NL,List.drop_length,MP] at a3;rw [gs,<-e6,NL] at bk rF;refine ⟨.ref n,j3,?_⟩;have bd:∀{x:Addr},H4 x=none->H x=none:=λ{x} e=>eg<|ib s4 e
  have fv:n∈J:=an n Mc;have as:∀os∈m,n∉os:=λos N hy=>by
   rcases Y os N n hy with ⟨o,am,w⟩|w
   .exact n3<|bi o am n w
   .rw [s4 _ _ h3] at w;cases w
  have Zs:∀x∈J.filter (λx=>decide<|x≠n),x∈J:=λx G=>(Mq.mp G).1;have gy:n∉J.filter (λx=>decide<|x≠n):=λz=>by simp at z
  refine q (.ref n) X (J.filter λx=>decide<|x≠n) m (λb u hb d0 e=>?_) (λx G=>?_) (λx G=>?_) (λx G=>lX x<|Zs x G) ?_ (λos N x G=>?_) bk ?_
  .have nb:b≠n:=λz=>by rw [z,hi] at e;cases e
   exact kX b u hb nb d0<|s4 _ _<|K3 b u hb e
  .refine Mq.mpr ⟨an x<|L8 _ G,My λz=>?_⟩
   rw [z] at G;exact n3 G
  .rcases bx x (Zs x G) with z|z
   .rcases Mn.mp z with w|w
    .rw [w] at G;exact absurd G gy
    .exact .inl w
   .exact .inr<|bd z
  .refine a3.frame (λos N x G=>Mq.mpr ⟨a3.fL os N x G,My λz=>as os N (by rw [<-z];exact G)⟩) (λb u _ e=>e)<|eA Zs
  .rcases Y os N x G with z|z
   .exact .inl z
   .exact .inr<|bd z
  .exact .lst (by rw [bn gy];exact b0)<|rF.mono<|eA Zs
end
end a5
namespace a5
open PySem L2 FL
section
variable {P:Program}{w:World}{K:PySem.W.Frag}{mg:Str->Option Value}{base:Heap}{f:Addr}{fd:FuncData}
def GQ:bW ["self","rules"] ["self","rules"] (bb mK):=⟨rfl,rfl,rfl,Z9,rfl,Z9,Z9⟩
def DR(F:aF K "__init__" "Weaving.__init__" mK f fd)(J:qg K CW)(t:jI P w K mg base 7 CL "Loom" ["self","body"] (xp C CL)):bq P w K mg base bA 9 f fd ["self","rules"] (BM C CL CW):=by
 refine F.ok GQ (λvs H Q E q0=>by obtain ⟨_,_,_,_,_,e,_⟩:=q0;rw [e];rfl) λas A ac s H vs Q E hr h=>?_;obtain ⟨M,m,x,g,d,rfl,hx,lv,a0,r1,aA,a1,q⟩:=h;refine ⟨_,(az (fB (pv 0) (pv 1) rfl)
   (az (fB (pv 0) (fm ["rule"] [] 1 (cr<|pv 1) (λ_ _ _ _ _=>(bo 0<|jR _)) (λ_ _ _ _ _=>je) λ_ _ _ _ _=>(Iu t hr<|ai (jU (pv 0) aC) ap)) rfl)
   (ay<|fB (pv 0) t0 rfl))),?_⟩
 have af:al (but H (x::M)) d (.lst<|m.map aY):=al.fi hx rfl r1;refine ⟨d,rfl,.ref x,rfl,x,CW,g,[],rfl,hx,J.cl,J.nR,(show 0<1000 by decide),?_⟩;have N:but (upd H x (.ins CW g<|c8 "rules" d [])) (x::M)=but H (x::M):=dN Mc;have l1:au (x::M) (upd H x (.ins CW g<|c8 "rules" d [])):=(lv.upd).cons aO;have E1:ax (but (upd H x (.ins CW g<|c8 "rules" d [])) (x::M)) (L2.start ["self","rules"] [.ref x,d]) [none,some (.lst<|m.map aY)]:=by
  rw [N];exact f9 (.raw (.dat af .nil)) _
 have n:(upd H x (.ins CW g<|c8 "rules" d [])) x=some (.ins CW g<|c8 "rules" d []):=aO;have K1:∀b u,b≠x->H b=some u->(upd H x (.ins CW g<|c8 "rules" d [])) b=some u:=λb u r e=>by rw [aD r];exact e
 have N1:∀{b:Addr},(upd H x (.ins CW g<|c8 "rules" d [])) b=none->H b=none:=λ{b} e=>by
  cases qb:H b with
  |none=>rfl
  |some u=>
   by_cases z:b=x
   .rw [z,n] at e;cases e
   .rw [K1 b u z qb] at e;cases e
 generalize upd H x (.ins CW g<|c8 "rules" d [])=H1 at N l1 E1 n K1 N1;refine IK (M:=x::M) (dH<|aI E1 rfl) l1 aA Z4 λD us o L k2 B O hn l2 aj=>?_;have am:=k2 _ _ n;have an:x≠D:=λz=>by rw [<-z,n] at B;cases B
 refine ⟨.ref x,rfl,x,CW,g,_,rfl,am,J.cl,J.nL,(show 1<1000 by decide),λi j=>⟨.ref x,rfl,x,CW,g,[("rules",d),("looms",.ref D)],rfl,?_,J.cl,J.nT,(show 2<1000 by decide),?_⟩⟩
 .rw [aD λz=>by rw [<-z,aO] at j;cases j]
  exact aO
 have T:i≠x:=λz=>by rw [z,aO] at j;cases j
 have a:L i=none:=by rw [aD T] at j;exact j
 have U:i≠D:=λz=>by rw [z,O] at a;cases a
 have Y:∀{b:Addr},L b=none->H b=none:=λ{b} e=>N1<|ib (λc u q=>k2 c u q) e
 have k:∀b,(upd (upd (upd L x (.ins CW g<|c8 "looms" (.ref D)<|c8 "rules" d [])) i (.dT [])) x (.ins CW g<|c8 "told" (.ref i) [("rules",d),("looms",.ref D)])) b=if b=x then some (.ins CW g<|mC d D i) else if b=i then some (.dT []) else L b:=λb=>by
  by_cases z:b=x
  .rw [Mp z,z];exact aO
  .rw [Mj z,aD z]
   by_cases v:b=i
   .rw [Mp v,v];exact aO
   .rw [Mj v,aD v,aD z]
 generalize upd (upd (upd L x (.ins CW g<|c8 "looms" (.ref D)<|c8 "rules" d [])) i (.dT [])) x (.ins CW g<|c8 "told" (.ref i) [("rules",d),("looms",.ref D)])=H5 at k;have G:∀os∈o,∀y∈os,y≠x/\y≠i:=λos l y p=>by
  refine ⟨λz=>?_,λz=>?_⟩
  .have:=(hn os l y p).1;rw [z,n] at this;cases this
  .refine l2 y (Ms _<|M1.mpr ⟨os,l,p⟩) ?_
   rw [z];exact a
 have I:∀b u,b≠x->L b=some u->H5 b=some u:=λb u r e=>by
  rw [k,Mj r,Mj λz=>by rw [z,a] at e;cases e];exact e
 have a2:i∉M:=λz=>lv i z<|Y a
 have a3:x∉o.flatten:=λz=>by
  obtain ⟨os,l,p⟩:=M1.mp z;exact (G os l x p).1 rfl
 refine q D i us o H5 (λb u r e=>I b u r<|k2 _ _<|K1 b u r e) (by rw [k,Mp rfl]) (Y a) (by rw [k,Mj T,Mp rfl]) (λos l y p=>⟨N1 (hn os l y p).1,(G os l y p).2⟩) ?_ (λb r z=>?_) ?_
 .rw [bn,k,Mj<|M6 an,Mj<|M6 U]
  .exact O
  .intro z;rcases Mn.mp z with w|w
   .exact U w.symm
   .rcases MB.mp w with w|w
    .obtain ⟨os,l,p⟩:=M1.mp w;exact (hn os l D p).2 rfl
    .exact lv D w<|N1 B
 .rw [k] at z
  by_cases z1:b=x
  .rw [Mp z1] at z;cases z
  .rw [Mj z1] at z
   by_cases v:b=i
   .rw [Mp v] at z;cases z
   .rw [Mj v] at z
    rcases Mn.mp r with w|w
    .exact v w
    .refine l2 b ?_ z
     rcases MB.mp w with w|w
     .exact Ms _ w
     .exact Ml _<|L8 _ w
 .refine aj.frame (λos l y p=>L8 _<|Ms _<|M1.mpr ⟨os,l,p⟩) (λb u q3 e=>by obtain ⟨os,l,r⟩:=q3;exact I b u (G os l b r).1 e) λb u e=>?_
  obtain ⟨q1,q2⟩:=aw e;have ao:b≠x:=λz=>q1<|Ml _ (by rw [z];exact Mc);rw [bn]
  .exact I b u ao q2
  .intro z;rcases Mn.mp z with w|w
   .rw [w,a] at q2;cases q2
   .rcases MB.mp w with w|w
    .exact q1<|Ms _ w
    .exact q1<|Ml _<|L8 _ w
end
end a5
namespace a5
open PySem L2 FL
section
variable {P:Program}{w:World}{K:PySem.W.Frag}{mg:Str->Option Value}{base:Heap}{f:Addr}{fd:FuncData}
def LW:bW ["_law_script","_law_k"] ["_law_script","_law_k"] (bb sr):=⟨rfl,rfl,rfl,Z9,rfl,Z9,Z9⟩
def HV (F:aF K "_law_at" "_law_at" sr f fd)(B:Bl mg):bq P w K mg base bA 1 f fd ["_law_script","_law_k"] (bv tZ):=by
 refine F.ok LW (d7 (n:=2) λo d p=>by obtain ⟨l,k,e,_⟩:=p;rw [e];rfl) λr A b s H I Q E t h=>?_;obtain ⟨M,o,d,u,x,⟨l,k,rfl,y,rfl⟩,q⟩:=h;have J:=dQ t;refine ⟨_,(az (bQ (cp ka (pv 1)<|cA B<|pv 0) (ay<|bm<|aS (pv 0)<|pv 1) ce)
   (ay<|bm aC)),?_⟩
 have E0:=hX x ["_law_script","_law_k"];refine ik u E0 (ck<|kD (aI E0 rfl)<|d9<|aa (aI E0 rfl) ag) (λe j c m g=>?_) λe j c m g=>?_
 .have a:=MC e;have i:l[k.toNat]?=some (ma l k):=by
   unfold ma;rw [Mp a,List.getD,Mb Z4];rfl
  exact eR m (cy (lK y i) (aI g rfl)<|aI g rfl) λv z C G=>q v z (c.trans C) G
 .have a:=Ni e;have i:ma l k=.int 0:=by unfold ma;rw [Mj a]
  rw [i] at q;exact q (.int 0) j c (.int 0)
def Ey:bW ["_law_found"] ["_law_found"] (bb sv):=⟨rfl,rfl,rfl,Z9,rfl,Z9,Z9⟩
def KW (F:aF K "_law_whole" "_law_whole" sv f fd)(B:Bl mg):bq P w K mg base bA 1 f fd ["_law_found"] (bv nD):=by
 refine F.ok Ey (d7 (n:=1) λb d c=>by obtain ⟨x,e,_⟩:=c;rw [e];rfl) λg A a s H k Q E l h=>?_;obtain ⟨M,b,d,i,j,⟨x,rfl,rfl⟩,q⟩:=h;refine ⟨_,(ay<|bm<|oq (fX B (pv 0) B.int Pw)<|oY<|zq<|fX B (pv 0) B.bool PyProof.Rows.boot_bool),?_⟩;have E0:=hX j ["_law_found"];exact eR i (fN (oE<|aI E0 rfl) λ_=>zb<|F9<|aI E0 rfl) q
def EA:bW ["_law_script"] ["_law_script"] (bb ud):=⟨rfl,rfl,rfl,Z9,rfl,Z9,Z9⟩
def Im (F:aF K "_law_mixed" "_law_mixed" ud f fd)(B:Bl mg):bq P w K mg base bA 1 f fd ["_law_script"] (bv xO):=by
 refine F.ok EA (d7 (n:=1) λz d C=>by obtain ⟨x,e,_⟩:=C;rw [e];rfl) λG A b s H u Q E hr h=>?_;obtain ⟨M,z,d,I,J,⟨a,rfl,L,rfl⟩,q⟩:=h;refine ⟨_,(ay<|bm<|fm ["_law_script","_law_k"] [0] 1 (lF rfl B.range<|ai (cA B<|pv 0) ap) (λ_ _ _ _ _=>(bo 1 (show (["_law_script","_law_k"]:ZY).Nodup from by decide+kernel))) (λ_ _ _ _ _=>je) λ_ _ _ _ _=>(cQ eV (cQ yF (cQ jq (jU (pv 0)<|pv 1)<|cQ yF aC<|pv 1) aC) aC)),?_⟩;have E0:=hX J ["_law_script"];obtain ⟨N,c,O⟩:=E0.get 0 _ rfl;let g:D->D:=λd=>match d with
  |.int j=>.int<|(a.getD j.toNat 0+7919*j)*48271%1000003
  |_=>.av
 have m:=gP (caps:=a9 [0] 1) (i:=1) (p:=λ_=>true) (f:=g) (tt:=lh) (te:=bJ (rI (λ_ j=>0<j) λi j=>.int<|i%j) (bJ (rI m6 λi j=>.int<|i*j) (bJ (gu λi j=>.int<|i+j) (bJ (d6 K) (aU 0)<|aU 1)<|bJ (rI m6 λi j=>.int<|i*j) (tC (.int 7919))<|aU 1)<|tC (.int 48271))<|tC (.int 1000003))
  (CC (n:=a.length) Z4<|aa ((d9 (K:=K) (l:=a.map D.int)<|aa (aI (i:=0) E0 rfl) ag).eq Z8) ag)
  (λT v d _ _ _=>jw) (λT v d U Y _ r=>?_) (by simp only [Md,OV];exact cq Z4)
 .refine eR I (m.eq ?_) q
  have e1:(List.filter (λ_=>true)<|(List.range a.length).map λ(k:Nat)=>D.int<|0+k)=(List.range a.length).map λ(k:Nat)=>D.int (0+k):=Nc.mpr λ_ _=>rfl;rw [e1];show D.lst _=D.lst _;congr 1;unfold nu;rw [MU,MU];refine ML λk _=>?_;show D.int ((a.getD (0+(k:Int)).toNat 0+7919*(0+(k:Int)))*48271%1000003)=D.int _;have o:(0+(k:Int)).toNat=k:=by omega
  rw [o,Int.zero_add]
 .obtain ⟨k,hk,rfl⟩:=Mx.mp Y;have t:k<a.length:=QU.mp hk;have h0:((a9 [0] 1<|L2.start ["_law_script"] u).set 1<|some v)[0]?=some (some N):=by simp [a9,c]
  have y:((a9 [0] 1<|L2.start ["_law_script"] u).set 1<|some v)[1]?=some (some v):=by simp [a9]
  have ix:de (a.map D.int) (0+(k:Int))=some (.int<|a.getD (0+(k:Int)).toNat 0):=by
   have o:(0+(k:Int)).toNat=k:=by omega
   refine lK Z4 ?_;rw [o,Mo,List.getD,Mb t];rfl
  exact eZ Z1 (yr (.inr ⟨by decide,by decide⟩) (j7 (cy ix (cL h0<|O.mono U)<|cL y r)<|yr (.inl ⟨by decide,by decide⟩) aq<|cL y r) aq) aq
def Ak:bW ["_law_found","_law_part"] ["_law_found"] (bb uy):=⟨rfl,rfl,rfl,Z9,rfl,Z9,Z9⟩
def KU (F:aF K "_law_is_fact" "_law_is_fact" uy f fd)(B:Bl mg)(a:aT P w K mg base 1 "_law_whole" ["_law_found"] (bv nD)):bq P w K mg base bA 2 f fd ["_law_found"] (bv Br):=by
 refine F.ok Ak (d7 (n:=1) λt d u=>by obtain ⟨_,e,_⟩:=u;rw [e];rfl) λy A k s H T Q E p h=>?_;obtain ⟨M,t,d,C,I,⟨_,rfl,⟨r,l,rfl,J⟩,rfl⟩,q⟩:=h;have L:=dQ p;refine ⟨_,(az (bQ (fC (dA<|cG<|fX B (pv 0) B.tuple Ng)<|fC (cp (fP (by exact L)) (cA B<|pv 0) aC)<|gY<|dA<|cG<|fX B (aS (pv 0) aC) B.str OH).pt (ay<|bm cV) ce)
   (az (cI MD rfl (cr<|pv 0) (bo 1 Ak.nd)<|ay<|bQ (jT (dA<|cG<|fX B (pv 1) B.str OH)<|jV<|dA<|cG<|bB a p<|ai (pv 1) ap).pt (ay<|bm cV) ce)
   (ay<|bm cV))),?_⟩
 have N:Bx H M [] _ H [Sl.d (.tup (.str r::l)),.no]:=gr C I ["_law_found","_law_part"];refine aX.run N ?_;refine gK (λG m e=>fK (b:=false) (c:=false) (bg.eq (dB<|cH<|ml<|e.v rfl) rfl) λ_=>fK (b:=false) (c:=false) (bg.eq (ck<|lD (fA (K:=K)<|aa (e.v rfl) ag) aq)<|MH (by simp;omega)) λ_=>bg.eq (dB<|cH<|kA<|bK (ds:=.str r::l) (d:=.str r) gO (e.v rfl) aq) rfl) ?_;refine bw<|fH (i:=1) (c9.of λG m e=>h9<|e.vd rfl) (λ_ g=>∃s,g=[Sl.d (.tup (.str r::l)),s]) ⟨_,rfl⟩ (λU Y hk j x g O o=>?_) λg o=>?_
 .obtain ⟨s,rfl⟩:=o;have cv:x.sc=true:=by
   rcases Mn.mp (Mi O) with z|z
   .rw [z];rfl
   .exact J x z
  exact dC (b:=false) (λG m e=>bg.eq (ly (dB<|cH<|kA<|e.v rfl) λ_=>dB<|cH<|bM ⟨x,rfl,rfl⟩<|aa (e.v rfl) ag)<|AJ cv) (λz=>nomatch z) λ_=>eQ<|dO ⟨_,rfl⟩
 .obtain ⟨s,rfl⟩:=o;dsimp only;exact eJ (λG m e=>lS (b:=true)) q
def tM:bW ["_law_atoms","_law_blanks","_law_atom","_law_part"] ["_law_atoms"] (bb uh):=⟨rfl,rfl,rfl,Z9,rfl,Z9,Z9⟩
def J7 (F:aF K "_law_blanks_in" "_law_blanks_in" uh f fd)(B:Bl mg):bq P w K mg base bA 1 f fd ["_law_atoms"] (bv y4):=by
 refine F.ok tM (d7 (n:=1) λds d q0=>by obtain ⟨_,e,_⟩:=q0;rw [e];rfl) λao A T s H vs Q E hr h=>?_;obtain ⟨M,ds,d,lv,rs,⟨g,rfl,t,rfl⟩,q⟩:=h;have hu:=dQ hr;refine ⟨_,(az (bj 1 tM.nd<|cY ap)
   (az (cI MD rfl (cr<|pv 0) (bo 2 tM.nd)<|ay<|cI MD rfl (cr<|nI qR (pv 2) (m4 aC) pe) (bo 3 tM.nd)<|ay<|bQ (jT (cp (Ck hu) (pv 3)<|ef<|ai eW<|ai eW<|ai eW ap)<|jV<|cp (Bn hu) (pv 3)<|pv 1).pt (ay<|iK (pv 1)<|pv 3) ce)
   (ay<|bm<|pv 1))),?_⟩
 have b0:Bx H M [] _ H [Sl.d<|cb g,.no,.no,.no]:=gr lv rs ["_law_atoms","_law_blanks","_law_atom","_law_part"];refine aX.run b0<|bw<|ql (i:=1) ?_
 have dI:∀(u:ZW) (l:ZZ) (j:Nat),u.length<=100->(∀a∈u,a.length<=10)->l.length<=10->(ak (a8 [] u)<|l.take j).length<=1010:=λu l j h1 h2 h3=>by
  have g1:=B5 (B:=[]) h2;have g2:=kj (l.take j)<|a8 [] u
  rw [MT] at g2;rw [N6] at g1;omega
 refine bw<|fH (i:=2) (ds:=g.map D.tup) (c9.of λG O e=>h9<|e.vd rfl) (λj m=>∃U p,m=[Sl.d<|cb g,.l<|(a8 []<|g.take j).map D.str,U,p]) ⟨_,_,rfl⟩ (λB' sB hk j x m hj r=>?_) λm r=>?_
 .obtain ⟨U,p,rfl⟩:=r;rw [Mo] at hj;obtain ⟨a,ha,rfl⟩:=M8.mp hj;have o:=Mi ha;obtain ⟨C,Y⟩:=t.ne a o;have ac:=t.dI.2 a o;obtain ⟨y,l,rfl⟩:∃y l,a=y::l:=by
   cases a with
   |nil=>exact absurd rfl C
   |cons y l=>exact ⟨y,l,rfl⟩
  have I:l.length<=10:=by rw [MN] at ac;omega
  have J:a8 [] (g.take<|j+1)=ak (a8 []<|g.take j) l:=by rw [IU g j ha,Ky C Y];rfl
  have af:∀z∈g.take j,z∈g:=λz hz=>PZ hz;have aj:(g.take j).length<=100:=by rw [MT];have:=t.dI.1;omega
  refine fH (i:=3) (ds:=l) (c9.of λG O e=>h9<|rH (k:=1) (l:=y::l) Z1 (Q1 _)<|e.vd rfl) (λi m=>∃p,m=[Sl.d<|cb g,.l<|(ak (a8 []<|g.take j)<|l.take i).map D.str,.d (.tup (y::l)),p]) ⟨_,rfl⟩ (λB2 a0 a1 i x am hx r=>?_) λam r=>?_
  .obtain ⟨p,rfl⟩:=r;have L:x∈l:=Mi hx;have cv:=t.sc _ o x<|L8 _ L;have N:aB x=decide (x∈cX):=t.bl _ o x L;have c:=DJ (B:=a8 []<|g.take j) hx;have hf:=dI (g.take j) l i aj (λz hz=>t.dI.2 z<|af z hz) I;generalize ak (a8 []<|g.take j) (l.take i)=Bj at c hf;rw [Jr _ _ cv,N] at c;refine dC (b:=decide (x∈cX)&& !decide (x∈Bj.map D.str)) (λG O e=>ly (ck<|yj (λy hy=>eO ((by decide:∀y∈cX,y.sc=true) y hy) cv) (e.v rfl)<|aQ (ds:=cX) (aa aK<|aa aK<|aa aK ag) Z1) λ_=>ck<|AE (λy hy=>by obtain ⟨b,_,rfl⟩:=Mx.mp hy;exact eO rfl cv) (e.v rfl)<|e.v rfl) (λz=>?_) λz=>?_
   .rw [Mp z] at c
    have an:x=.str x.name:=by
     refine iD ?_;rw [N];exact (PP.mp z).1
    refine t6 (j:=1) (d:=x) rfl (λG O e=>e.v rfl) (og cv) (by rw [Md];exact Oz hf Z1) ?_;rw [show Bj.map D.str++[x]=(Bj++[x.name]).map D.str by rw [MK,an];rfl,<-c];exact dO ⟨_,rfl⟩
   .rw [Mj (by rw [z];exact Mm)] at c
    rw [<-c];exact eQ<|dO ⟨_,rfl⟩
  .obtain ⟨p,rfl⟩:=r;rw [NL,<-J];exact dO ⟨_,_,rfl⟩
 .obtain ⟨U,p,rfl⟩:=r;rw [Md,NL];exact eJ (λG O e=>e.v rfl) q
def yb:bW ["_law_found","_law_count","_law_most","_law_place"] ["_law_found","_law_count","_law_most"] (bb sP):=⟨rfl,rfl,rfl,Z9,rfl,Z9,Z9⟩
def GZ (F:aF K "_law_places_fit" "_law_places_fit" sP f fd)(B:Bl mg)(a:aT P w K mg base 1 "_law_whole" ["_law_found"] (bv nD)):bq P w K mg base bA 2 f fd ["_law_found","_law_count","_law_most"] (bv AH):=by
 refine F.ok yb (d7 (n:=3) λt d u=>by obtain ⟨_,_,_,e,_⟩:=u;rw [e];rfl) λy A k s H Y Q E r h=>?_;obtain ⟨M,t,d,C,I,⟨l,n,m,rfl,J,L,rfl⟩,q⟩:=h;have N:=dQ r;refine ⟨_,(az (bQ (fC (dA<|cG<|fX B (pv 0) B.tuple Ng)<|gY<|cp (fD (by exact N)) (cA B<|pv 0)<|pv 1).pt (ay<|bm cV) ce)
   (az (cI MD rfl (cr<|pv 0) (bo 3 yb.nd)<|ay<|bQ (fC (dA<|cG<|bB a r<|ai (pv 3) ap)<|fC (cp ka (pv 3) aC)<|gY<|cp tN (pv 3)<|pv 2).pt (ay<|bm cV) ce)
   (ay<|bm cV))),?_⟩
 have O:Bx H M [] _ H [Sl.d<|mM l,.d (.int n),.d (.int m),.no]:=gr C I ["_law_found","_law_count","_law_most","_law_place"];refine aX.run O ?_;refine gK (λG o e=>fK (b:=false) (c:=false) (bg.eq (dB<|cH<|ml<|e.v rfl) rfl) λ_=>bg.eq (ck<|iA (fA (K:=K)<|aa (e.v rfl) ag)<|e.v rfl) (by rw [Md,J];simp)) ?_;refine bw<|fH (i:=3) (ds:=l.map λn=>D.int (n:Nat)) (c9.of λG o e=>h9<|e.vd rfl) (λ_ g=>∃s,g=[Sl.d<|mM l,.d (.int n),.d (.int m),s]) ⟨_,rfl⟩ (λB' sB hk j x g T p=>?_) λg p=>?_
 .obtain ⟨s,rfl⟩:=p;obtain ⟨i,U,rfl⟩:=Mx.mp<|Mi T;have:=L i U;exact dC (b:=false) (λG o e=>fK (b:=false) (c:=false) (bg.eq (dB<|cH<|bM ⟨_,rfl,rfl⟩<|aa (e.v rfl) ag) rfl) λ_=>fK (b:=false) (c:=false) (bg.eq (ck<|kD (e.v rfl) aq)<|MH Z4) λ_=>bg.eq (ck<|uw (e.v rfl)<|e.v rfl)<|MH Z4) (λz=>nomatch z) λ_=>eQ<|dO ⟨_,rfl⟩
 .obtain ⟨s,rfl⟩:=p;dsimp only;exact eJ (λG o e=>lS (b:=true)) q
def z0:bW ["_law_one","_law_two","_law_k"] ["_law_one","_law_two"] (bb rB):=⟨rfl,rfl,rfl,Z9,rfl,Z9,Z9⟩
def K8 (F:aF K "_law_stands_ahead" "_law_stands_ahead" rB f fd)(B:Bl mg):bq P w K mg base bA 1 f fd ["_law_one","_law_two"] (bv Co):=by
 refine F.ok z0 (d7 (n:=2) λU d Y=>by obtain ⟨_,_,_,e,_⟩:=Y;rw [e];rfl) λac A t s H vs Q E hr h=>?_;obtain ⟨M,U,d,lv,rs,⟨p,r,b,rfl,hz,hA,rfl⟩,q⟩:=h;have hu:=dQ hr;refine ⟨_,(az (cI MD rfl (lF rfl B.range<|ai (cA B<|pv 0) ap) (bo 2 z0.nd)<|ay<|bQ (cp (fD (by exact hu)) (aS (pv 0)<|pv 2)<|aS (pv 1)<|pv 2) (ay<|bm<|iB ka (aS (pv 0)<|pv 2)<|aS (pv 1)<|pv 2) ce)
   (ay<|bm cV)),?_⟩
 have b0:Bx H M [] _ H [Sl.d (.lst<|p.map D.int),.d (.lst<|r.map D.int),.no]:=gr lv rs ["_law_one","_law_two","_law_k"];refine aX.run b0 ?_;rcases hA with ⟨rfl,rfl⟩|⟨i,x,y,u,N,hy,C,rfl⟩
 .refine bw (fH (i:=2) (c9.lW (n:=p.length) Z4 λG k e=>aa ((d9 (K:=K)<|aa (e.v rfl) ag).eq Z8) ag) (λ_ a=>∃s,a=[Sl.d (.lst<|p.map D.int),.d (.lst<|p.map D.int),s]) ⟨_,rfl⟩ (λB' O hk j z a I c=>?_) λa c=>?_)
  .obtain ⟨s,rfl⟩:=c;obtain ⟨J,rfl⟩:=iQ 0 _ j z I;have g:de (p.map D.int) (0+(j:Int))=some (.int p[j]):=jy (by rw [Mo,Mb J];rfl);exact dC (b:=false) (λG k e=>bg.eq (ck<|iA (cy g (e.v rfl)<|e.v rfl)<|cy g (e.v rfl)<|e.v rfl) Z8) (λz=>nomatch z) λ_=>eQ<|dO ⟨_,rfl⟩
  .obtain ⟨s,rfl⟩:=c;dsimp only;exact eJ (λG k e=>lS (b:=false)) q
 have af:=(Ma.mp N).1;refine bw<|fH (i:=2) (c9.lW (n:=p.length) Z4 λG k e=>aa ((d9 (K:=K)<|aa (e.v rfl) ag).eq Z8) ag) (λj a=>j<=i/\∃s,a=[Sl.d (.lst<|p.map D.int),.d (.lst<|r.map D.int),s]) ⟨MI _,_,rfl⟩ (λB' O hk j z a I c=>?_) λa c=>?_
 .obtain ⟨m,s,rfl⟩:=c;obtain ⟨_,rfl⟩:=iQ 0 _ j z I;by_cases e:j=i
  .subst e;have g:de (p.map D.int) (0+(j:Int))=some (.int x):=jy (by rw [Mo,N];rfl);have o:de (r.map D.int) (0+(j:Int))=some (.int y):=jy (by rw [Mo,hy];rfl);exact dC (b:=true) (λG k e=>bg.eq (ck<|iA (cy g (e.v rfl)<|e.v rfl)<|cy o (e.v rfl)<|e.v rfl) (by simp [C])) (λ_=>eJ (λG k e=>kD (cy g (e.v rfl)<|e.v rfl)<|cy o (e.v rfl)<|e.v rfl) λv H' s' r'=>q v H' (O.trans s') r') λz=>nomatch z
  .have L:j<i:=by omega
   have T:p[j]?=some p[j]:=Mb Z4;have h2:r[j]?=some p[j]:=by
    have:=M7 (λl=>l[j]?) u;simp only [NP L] at this;rw [<-this];exact T
   have g:de (p.map D.int) (0+(j:Int))=some (.int p[j]):=jy (by rw [Mo,T];rfl);have o:de (r.map D.int) (0+(j:Int))=some (.int p[j]):=jy (by rw [Mo,h2];rfl);exact dC (b:=false) (λG k e=>bg.eq (ck<|iA (cy g (e.v rfl)<|e.v rfl)<|cy o (e.v rfl)<|e.v rfl) Z8) (λz=>nomatch z) λ_=>eQ<|dO ⟨by omega,_,rfl⟩
 .obtain ⟨m,_⟩:=c;rw [Md,OV] at m;omega
def wS:bW ["_law_script","_law_seed","_law_pools"] ["_law_script"] (bb uG):=⟨rfl,rfl,rfl,Z9,rfl,Z9,Z9⟩
def Kx (F:aF K "_law_pool_by" "_law_pool_by" uG f fd)(B:Bl mg)(a:aT P w K mg base 1 "_law_at" ["_law_script","_law_k"] (bv tZ)):bq P w K mg base bA 2 f fd ["_law_script"] (bv vZ):=by
 refine F.ok wS (d7 (n:=1) λo d p=>by obtain ⟨_,e,_⟩:=p;rw [e];rfl) λr A k s H O Q E g h=>?_;obtain ⟨M,o,d,t,u,⟨b,rfl,rfl⟩,q⟩:=h;have x:=dQ g;refine ⟨_,(az (bQ (cp (fP (by exact x)) (cQ eV (bB a g<|ai (pv 0)<|ai aC ap) aC) aC) (ay<|bm<|fm ["_law_k"] [] 1 (lF rfl B.range<|ai aC ap) (λ_ _ _ _ _=>(bo 0<|jR _)) (λ_ _ _ _ _=>je) λ_ _ _ _ _=>(pv 0)) ce)
   (az (bj 1 wS.nd<|cQ eV (bB a g<|ai (pv 0)<|ai aC ap) aC)
   (az (bj 2 wS.nd<|cY<|ai (cY<|ai eW<|ai aC<|ai eW ap)<|ai (cY<|ai eW<|ai aC<|ai (kl kC aC) ap)<|ai (cY<|ai (cQ Dy aC aC)<|ai aC<|ai (kl kC aC) ap) ap)
   (ay<|bm<|aS (cQ m9 (pv 2)<|cY<|ai (cY<|ai eW<|ai (cQ jq (pv 1) aC)<|ai (cQ JW (kl kC aC)<|pv 1) ap) ap)<|cQ eV (cQ ic (bB a g<|ai (pv 0)<|ai aC ap) aC) aC)))),?_⟩
 have y:Bx H M [] _ H [Sl.d (.lst<|b.map D.int),.no,.no]:=gr t u ["_law_script","_law_seed","_law_pools"];refine aX.run y<|bw<|dC (λG j e=>ck<|lD (eZ Z1 (bM (mz b 0)<|aa (e.v rfl)<|aa aq ag) aq) aq) (λz=>?_) λz=>?_
 .have m:jc b=tW:=by unfold jc;rw [Mp<|MC z]
  rw [m] at q;exact eJ (λG j e=>ae.eq (e.comp (λ_=>true) (λd=>d) (CC (n:=10) Z1<|aa aq ag) (λ_ _ _ _ _=>jw) (λT C d U _ I=>I.v rfl)<|cq Z8) (by rw [Nc.mpr λ_ _=>rfl,OD];rfl)) q
 .obtain ⟨d,J,L,N⟩:=fI (l:=on<|b.getD 1 0%1000) (n:=4) (b.getD 0 0/4) Z1 rfl;obtain ⟨c,rfl,_⟩:=C7 (QG (b.getD 1 0) (show (1000:Int)≠0 by decide)) d L;have m:jc b=c:=by unfold jc;rw [Mj<|Ni z,<-N];rfl
  rw [m] at q;refine eQ ?_;dsimp only;refine bw<|fj (i:=1) (d:=.int<|b.getD 1 0%1000) (λG j e=>eZ Z1 (bM (mz b 1)<|aa (e.v rfl)<|aa aq ag) aq) rfl ?_
  refine bw<|fM (i:=2) (d:=.lst [.lst [.str "ashenashenashen",.int 0,.str "ashenashxnashen"],.lst [.str "ashenashenashen",.int 2,.int (-1)],.lst [.int<|10^(30:Int).toNat,.int 0,.int (-1)]]) (λG j e=>eP<|aa (eP<|aa aK<|aa aq<|aa aK ag)<|aa (eP<|aa aK<|aa aq<|aa (mL aq) ag)<|aa (eP<|aa (HI ⟨by decide,by decide,by decide⟩ aq aq)<|aa aq<|aa (mL aq) ag) ag) ?_
  exact eJ (λG j e=>cy (ds:=on<|b.getD 1 0%1000) J (mj (xs:=[.lst [.str "ashenashenashen",.int 0,.str "ashenashxnashen"],.lst [.str "ashenashenashen",.int 2,.int (-1)],.lst [.int<|10^(30:Int).toNat,.int 0,.int (-1)]]) (ys:=[.lst [.str "qu",.int<|b.getD 1 0%1000+4,.int (-4-b.getD 1 0%1000)]]) (by show 3+1<=1000;decide) (e.v rfl)<|eP<|aa (eP<|aa aK<|aa (j7 (e.v rfl) aq)<|aa (J5 (mL aq)<|e.v rfl) ag) ag)<|eZ Z1 (gX ⟨by decide,by decide⟩ (bM (mz b 0)<|aa (e.v rfl)<|aa aq ag) aq) aq) q
end
end a5
namespace a5
open PySem L2 FL
section
variable {P:Program}{w:World}{K:PySem.W.Frag}{mg:Str->Option Value}{base:Heap}{f:Addr}{fd:FuncData}
def FR:bW ["_law_atom","_law_things"] ["_law_atom","_law_things"] (bb qU):=⟨rfl,rfl,rfl,Z9,rfl,Z9,Z9⟩
def Iq (F:aF K "_law_fill_in" "_law_fill_in" qU f fd)(B:Bl mg):bq P w K mg base bA 1 f fd ["_law_atom","_law_things"] (iL rp):=by
 refine F.ok FR (xr (n:=2) λds d q0=>by obtain ⟨_,_,e,_⟩:=q0;rw [e];rfl) (λcdv A outer s H vs Q E hr h=>?_);obtain ⟨M,ds,d,lv,rs,⟨a,S,rfl,hne,cv,hS,hz,rfl⟩,q⟩:=h;have hu1:=fJ hr;obtain ⟨v0,v1,rfl,r0,⟨p,rfl,hp⟩⟩:=ve rs;have r0:al (but H M) v0 (.tup a):=r0;refine ⟨_,(ay (bm (sT B (cQ m9 (cY (ai (aS (pv 0) aC) ap)) (fm ["_law_things","_law_part"] [1] 1 (cr (nI qR (pv 0) (m4 aC) pe)) (λ_ _ _ _ _=>(bo 1 (show (["_law_things","_law_part"]:ZY).Nodup from by decide+kernel))) (λ_ _ _ _ _=>je) (λ_ _ _ _ _=>(sR hu1 (pv 0) (pv 1) (pv 1) ⟨rfl,rfl,rfl,rfl⟩))))))),?_⟩;have E0:ax (but H M) (L2.start ["_law_atom","_law_things"] [v0,.ref p]) [some (.tup a),none]:=f9 (.dat r0 (.raw .nil)) ["_law_atom","_law_things"];obtain ⟨x,r,rfl⟩:∃x r,a=x::r:=by
  cases a with
  |nil=>exact absurd rfl hne
  |cons x r=>exact ⟨x,r,rfl⟩
 rw [MN] at hz;refine eR lv (ae.eq (qP (aa (mj (xs:=[x]) (ys:=r.map (cj S)) (by rw [Md,Nv];omega) (eP (aa (bK (d:=x) gO (aI E0 rfl) aq) ag)) (ae.eq (gP (caps:=a9 [1] 1) (i:=1) (p:=λ_=>true) (f:=cj S) (tt:=lh) (te:=pZ (aU 0) (aU 1) (aU 1)) (h9 (ds:=r) (rH (k:=1) (l:=x::r) Z1 (Q1 _) (aI E0 rfl))) (λG' v d _ _ _=>jw) (λG' v d sG hd _ rv=>?_) (cq Z4)) (by rw [Nc.mpr λ_ _=>rfl]))) ag)) rfl) q;exact Bo (i:=0) (j:=1) (a:=p) (by simp [a9,L2.start]) (sG _ _ hp) (cv d (L8 _ hd)) hS (cL (by simp [a9]) rv)
def Gi:bW ["_law_atom","_law_there"] ["_law_atom","_law_there"] (bb tf):=⟨rfl,rfl,rfl,Z9,rfl,Z9,Z9⟩
def ER (F:aF K "_law_true" "_law_true" tf f fd)(B:Bl mg)(g:aT P w K mg base 1 "_law_whole" ["_law_found"] (bv nD)):bq P w K mg base bA 2 f fd ["_law_atom","_law_there"] (spS xD):=by
 refine F.ok Gi (Av (n:=2) λT d U=>by obtain ⟨_,_,e,_⟩:=U;rw [e];rfl) λY A I s H vs Q E p h=>?_;obtain ⟨M,T,d,lv,rs,⟨a,l,rfl,⟨J,cv,o⟩,rfl⟩,q⟩:=h;have L:=dQ p;have N:=fJ p;refine ⟨_,(az (bQ (cp (fP (by exact L)) (aS (pv 0) aC) eW) (ay<|bm<|iB (fD (by exact L)) (aS (pv 0) aC)<|aS (pv 0) aC) ce)
   (az (bQ (cp (fP (by exact L)) (aS (pv 0) aC) eW) (ay<|bm<|oq (bB g p<|ai (aS (pv 0) aC) ap)<|oq (bB g p<|ai (aS (pv 0) aC) ap)<|oY<|iB ka (aS (pv 0) aC)<|aS (pv 0) aC) ce)
   (ay<|bm<|LY<|pr (by exact N) (pv 0)<|pv 1))),?_⟩
 have b0:Bx H M [] _ H [Sl.d (.tup a),.td l]:=yw lv rs (by simp [Sl.own]) ["_law_atom","_law_there"];obtain ⟨x,r,rfl⟩:∃x r,a=x::r:=by
  cases a with
  |nil=>exact absurd rfl J
  |cons x r=>exact ⟨x,r,rfl⟩
 have t:=cv x Mc;refine aX.run b0<|bw<|dC (λG m e=>ck<|jl (d1:=x) (d2:=.str "unlike") (eO t rfl).1 (eO t (b:=.str "unlike") rfl).2 (bK (d:=x) gO (e.v rfl) aq) aK) (λz=>?_) λz=>eQ ?_
 .have e:=MC z;subst e;obtain ⟨r0,y,z,O⟩:=o (by unfold aJ;simp);obtain ⟨_,rfl⟩:=Oj O;have k:fh (l.map (·.1)) [.str "unlike",y,z]= !decide (y=z):=rfl;rw [k] at q;have u:=cv y Z8;have C:=cv z Z8;exact eJ (λG m e=>mW (eO u C).1 (eO u C).2 (bK (d:=y) rfl (e.v rfl) aq)<|bK (d:=z) rfl (e.v rfl) aq) q
 have n1:=Ni z;dsimp only;refine bw<|dC (λG m e=>ck<|jl (d1:=x) (d2:=.str "less") (eO t rfl).1 (eO t (b:=.str "less") rfl).2 (bK (d:=x) gO (e.v rfl) aq) aK) (λz=>?_) λz=>eQ ?_
 .have e:=MC z;subst e;obtain ⟨r0,y,z,O⟩:=o (by unfold aJ;simp);obtain ⟨_,rfl⟩:=Oj O;have u:=cv y Z8;have C:=cv z Z8;cases y with
  |int i=>
   cases z with
   |int j=>
    have k:fh (l.map (·.1)) [.str "less",.int i,.int j]=decide (i<j):=rfl;rw [k] at q;exact eJ (λG m e=>(fN (b:=true) (c:=decide<|i<j) (bM ⟨.int i,rfl,rfl⟩<|aa (bK (d:=.int i) rfl (e.v rfl) aq) ag) λ_=>(fN (b:=true) (bM ⟨.int j,rfl,rfl⟩<|aa (bK (d:=.int j) rfl (e.v rfl) aq) ag) λ_=>kD (bK (d:=.int i) rfl (e.v rfl) aq)<|bK (d:=.int j) rfl (e.v rfl) aq).eq (by rw [PD])).eq (by rw [PD])) q
   |str j=>
    have k:fh (l.map (·.1)) [.str "less",.int i,.str j]=false:=rfl;rw [k] at q;exact eJ (λG m e=>fN (b:=true) (c:=false) (bM ⟨.int i,rfl,rfl⟩<|aa (bK (d:=.int i) rfl (e.v rfl) aq) ag) λ_=>fN (b:=false) (c:=false) (bM ⟨.str j,rfl,rfl⟩<|aa (bK (d:=.str j) rfl (e.v rfl) aq) ag) λz=>nomatch z) q
   |_=>simp [D.sc] at C
  |str i=>
   have k:fh (l.map (·.1)) [.str "less",.str i,z]=false:=by cases z<;>rfl
   rw [k] at q;exact eJ (λG m e=>fN (b:=false) (c:=false) (bM ⟨.str i,rfl,rfl⟩<|aa (bK (d:=.str i) rfl (e.v rfl) aq) ag) λz=>nomatch z) q
  |_=>simp [D.sc] at u
 have n2:=Ni z;have k:fh (l.map (·.1)) (x::r)=decide (x::r∈l.map (·.1)):=by
  unfold fh;rw [Mj (show¬(x::r).headD .av=.str "unlike" from n1),Mj (show¬(x::r).headD .av=.str "less" from n2)]
 rw [k] at q;dsimp only;exact eJ (λG m e=>e.Lh rfl cv<|e.v rfl) q
end
end a5
namespace L2
open PySem PySem.Spec PyProof.Rows
structure WE (X:Cx)(e:Expr)(t:TE):Prop where
 h:PE X e t
structure WA (X:Cx)(es:List Expr)(t:TA):Prop where
 h:PA X es t
structure WS (X:Cx)(st:Stmt)(t:TS):Prop where
 h:PS X st t
structure rm (X:Cx)(l:List Stmt)(t:TS):Prop where
 h:gJ X l t
section
variable {X:Cx}{e a b c:Expr}{es:List Expr}{te ta tb:TE}{t:TA}{st:Stmt}{cm:List Stmt}{ts us:TS}{pos:Pos}
def aW{j}:WE X (.Constant (.str x) j pos) (tC (.str x)):=⟨eW⟩
def bH{j}:WE X (.Constant (.int i) j pos) (tC (.int i)):=⟨aC⟩
def wv(i:Nat)(f:X.N[i]?=some x:=by rfl)(g:qC X.env.scope x:=by first|exact Or.inl rfl|exact Or.inr (Or.inl rfl)|exact Or.inr (Or.inr rfl))(h:(x==("__debug__":Str))=false:=by decide)(d:(x==("__classdict__":Str))=false:=by decide):WE X (.Name x pos) (aU i):=⟨Cc f g h d⟩
def a7:WA X [] bL:=⟨ap⟩
def ah (d:WE X e te)(f:WA X es t)(g:starEach (e::es) X.env=(false,eval e X.env)::starEach es X.env:=by rfl):WA X (e::es) (bu te t):=⟨ai d.h f.h g⟩
def ba {d}(h:WA X es t):WE X (.Tuple es d pos) (tQ t):=⟨ef h.h⟩
def n0 (h:WA X es t):WE X (.List es pos) (kn t):=⟨cY h.h⟩
def d8(f:cO X (binaryOp d) r)(g:WE X a ta)(i:WE X b tb):WE X (.BinOp a d b pos) (bJ r ta tb):=⟨cQ f g.h i.h⟩
def gG (ha:WE X a ta)(hb:WE X b tb)(hs:sX b:=by intro _ _;rfl):WE X (.Subscript a b pos) (bJ (d6 X.K) ta tb):=⟨FL.aS ha.h hb.h hs⟩
def yu (h:WS X st ts):rm X [st] ts:=⟨ay h.h⟩
def fx (h:WS X st ts)(d:rm X cm us):rm X (st::cm) (ow ts us):=⟨az h.h d.h⟩
def Hx (h:WE X e te):WS X (.Return (some e) pos) (pz te):=⟨bm h.h⟩
def iM{i:Nat}(f:X.N.Nodup)(g:X.N[i]?=some x)(j:Loc X.env.scope x)(k:WE X e te)(l:swapsWith e (some (.Name x d)) pos.line X.env=pure false:=by rfl)(m:X.fn x=true\/X.env.scope.names.lookup x=some .local:=by first|exact .inl rfl|exact .inr rfl|assumption):
  WS X (.Assign [.Name x d] e pos) (eF te (cx i)):=⟨Cn f g j k.h l m⟩
end
section
variable {P:Program}{w:World}{K:PySem.W.Frag}{mg:Str->Option Value}{base:Heap}
def aF.BC{st:Stmt}{i:Sp}(F:aF K x b st f m)(S:bW N g (bb st))(j:∀d H Q E,i d H Q E->d.length=g.length)
  (e:∀(c:Value) (A:Around) (a:List Env) (s:Shared) (H:Hp) (d:List V) (Q:VK) (E:XK),cT k (A.deeper (envOfC b (bb st) s.heap.objs.size f c))->i d H Q E->
   ∃t,rm (mn bA P w K mg base N b (bb st) f c A a s H E).pF (dE st) t/\t {nx:=λ_ n=>Q .av n,rt:=Q} (start N d) H):bq P w K mg base bA (k+1) f m g i:=
 F.ok S j λc A a s H d Q E o l=>let ⟨t,h,q⟩:=e c A a s H d Q E o l;⟨t,h.h,q⟩
end
end L2
namespace a5
open PySem L2 FL
section
variable {P:Program}{w:World}{K:PySem.W.Frag}{mg:Str->Option Value}{base:Heap}{f:Addr}{fd:FuncData}
abbrev BP:List Str:=["_law_seed","_law_pool","_law_first","_law_second","_law_third","_law_one","_law_two","_law_parts","_law_words","_law_left","_law_right","_law_both","_law_head"]
def kG:bW BP ["_law_seed","_law_pool","_law_first","_law_second","_law_third"] (bb uB):=⟨rfl,rfl,rfl,Z9,rfl,Z9,Z9⟩
def Gc (F:aF K "_law_menu_by" "_law_menu_by" uB f fd)(B:Bl mg):bq P w K mg base bA 1 f fd ["_law_seed","_law_pool","_law_first","_law_second","_law_third"] (jz Bh Ai):=by
 refine F.BC kG (tL (n:=5) λds q0=>by obtain ⟨_,_,_,_,_,e,_⟩:=q0;rw [e];rfl) λbx A am s H vs Q E hr h=>?_;obtain ⟨M,ds,lv,rs,⟨p,m,a,b,c,rfl,L⟩,q⟩:=h;refine ⟨_,(fx (iM (i:=5) kG.nd rfl (Or.inl rfl)<|gG (wv 1)<|d8 eV (wv 0) ⟨cA B<|pv 1⟩)
   (fx (iM (i:=6) kG.nd rfl (Or.inl rfl)<|gG (wv 1)<|d8 eV (d8 jq (d8 ic (wv 0) ⟨cA B<|pv 1⟩) bH) ⟨cA B<|pv 1⟩)
   (fx (iM (i:=7) kG.nd rfl (Or.inl rfl)<|n0<|ah aW<|ah aW<|ah aW<|ah (wv 5) a7)
   (fx (iM (i:=8) kG.nd rfl (Or.inl rfl)<|n0<|ah aW<|ah aW<|ah aW a7)
   (fx (iM (i:=9) kG.nd rfl (Or.inl rfl)<|ba<|ah (gG (wv 8)<|d8 eV (wv 2) bH)<|ah (gG (wv 7)<|d8 eV (d8 ic (wv 2) bH) bH)<|ah (gG (wv 7)<|d8 eV (d8 ic (wv 2) bH) bH) a7)
   (fx (iM (i:=10) kG.nd rfl (Or.inl rfl)<|ba<|ah (gG (wv 8)<|d8 eV (wv 3) bH)<|ah (gG (wv 7)<|d8 eV (d8 ic (wv 3) bH) bH)<|ah (gG (wv 7)<|d8 eV (d8 ic (wv 3) bH) bH) a7)
   (fx (iM (i:=11) kG.nd rfl (Or.inl rfl)<|d8 yQ ⟨nI qR (pv 9) (m4 aC) pe⟩ ⟨nI qR (pv 10) (m4 aC) pe⟩)
   (fx (iM (i:=12) kG.nd rfl (Or.inl rfl)<|ba<|ah (gG (wv 8)<|d8 eV (wv 4) bH)<|ah (gG (wv 11)<|d8 eV (d8 ic (wv 4) bH) bH)<|ah (gG (wv 11)<|d8 eV (d8 ic (wv 4) bH) bH) a7)
   (yu<|Hx<|n0<|ah (ba<|ah (ba<|ah aW<|ah aW<|ah aW a7)<|ah (ba<|ah (ba<|ah aW<|ah aW<|ah aW a7) a7) a7)<|ah (ba<|ah (ba<|ah aW<|ah aW<|ah aW a7)<|ah (ba<|ah (ba<|ah aW<|ah aW<|ah aW a7)<|ah (ba<|ah aW<|ah aW<|ah aW a7) a7) a7)<|ah (ba<|ah (ba<|ah aW<|ah aW a7)<|ah (ba<|ah (ba<|ah aW<|ah aW a7)<|ah (ba<|ah aW<|ah aW<|ah aW a7) a7) a7)<|ah (ba<|ah (ba<|ah aW<|ah aW<|ah aW a7)<|ah (ba<|ah (ba<|ah aW<|ah aW<|ah aW a7) a7) a7)<|ah (ba<|ah (ba<|ah aW<|ah aW<|ah aW a7)<|ah (ba<|ah (ba<|ah aW<|ah aW<|ah aW a7)<|ah (ba<|ah aW<|ah aW<|ah aW a7)<|ah (ba<|ah aW<|ah aW<|ah aW a7) a7) a7)<|ah (ba<|ah (ba<|ah aW a7)<|ah (ba<|ah (ba<|ah aW<|ah (wv 5) a7)<|ah (ba<|ah aW<|ah aW<|ah aW a7) a7) a7)<|ah (ba<|ah (ba<|ah aW<|ah aW<|ah aW a7)<|ah (ba<|ah (ba<|ah aW<|ah aW<|ah aW a7)<|ah (ba<|ah aW<|ah aW<|ah aW a7) a7) a7)<|ah (ba<|ah (ba<|ah aW<|ah (wv 6) a7)<|ah (ba<|ah (ba<|ah aW a7) a7) a7)<|ah (ba<|ah (ba<|ah aW<|ah aW<|ah aW a7)<|ah (ba<|ah (ba<|ah aW<|ah aW<|ah aW a7)<|ah (ba<|ah aW<|ah aW<|ah aW a7)<|ah (ba<|ah aW<|ah aW<|ah aW a7) a7) a7)<|ah (ba<|ah (ba<|ah aW<|ah aW<|ah aW a7)<|ah (ba<|ah (ba<|ah aW<|ah aW<|ah aW a7)<|ah (ba<|ah aW<|ah aW<|ah aW a7) a7) a7)<|ah (ba<|ah (ba<|ah aW<|ah aW<|ah (wv 5) a7)<|ah (ba<|ah (ba<|ah aW<|ah aW a7)<|ah (ba<|ah aW<|ah (wv 6)<|ah bH a7) a7) a7)<|ah (ba<|ah (ba<|ah aW<|ah (wv 5) a7)<|ah (ba<|ah (ba<|ah aW<|ah bH<|ah bH a7) a7) a7)<|ah (ba<|ah (wv 12)<|ah (ba<|ah (wv 9)<|ah (wv 10) a7) a7)<|ah (ba<|ah (wv 12)<|ah (ba<|ah (wv 9)<|ah (ba<|ah aW<|ah (gG (wv 11) bH)<|ah (gG (wv 11) bH) a7)<|ah (wv 10) a7) a7) a7))))))))),?_⟩
 have b0:Bx H M [] _ H [Sl.d (.int p),.d (.lst m),.d (.int a),.d (.int b),.d (.int c),.no,.no,.no,.no,.no,.no,.no,.no]:=gr lv rs BP;obtain ⟨n,N,h0,b6⟩:∃n:Nat,m.length=n/\0<n/\n<=10:=⟨_,rfl,by rcases L.len with z|z<;>omega,by rcases L.len with z|z<;>omega⟩
 obtain ⟨g,o1,o2,_⟩:=fI (l:=m) (n:=n) p h0 N;obtain ⟨J,t1,t2,_⟩:=fI (l:=m) (n:=n) (p/(n:Int)+1) h0 N;refine aX.run b0<|bw<|fj (i:=5) (d:=g) (λG I e=>cy o1 (e.v rfl)<|eZ Z4 (e.v rfl)<|(d9 (K:=K)<|aa (e.v rfl) ag).eq (by rw [N])) (og (L.gp g o2).1) ?_;dsimp only;refine bw<|fj (i:=6) (d:=J) (λG I e=>cy t1 (e.v rfl)<|eZ Z4 (j7 (gX ⟨by omega,by omega⟩ (e.v rfl)<|(d9 (K:=K)<|aa (e.v rfl) ag).eq (by rw [N])) aq)<|(d9 (K:=K)<|aa (e.v rfl) ag).eq (by rw [N])) (og (L.gp J t2).1) ?_;dsimp only;refine bw<|fM (i:=7) (d:=.lst [.str "X",.str "Xy",.str "Z",g]) (λG I e=>eP<|aa aK<|aa aK<|aa aK<|aa (e.vd rfl) ag) ?_;dsimp only;refine bw<|fM (i:=8) (d:=.lst<|iH.map D.str) (λG I e=>eP (aa aK<|aa aK<|aa aK ag) Z1) ?_;have O:∀x∈[D.str "X",.str "Xy",.str "Z",g],x∈m\/x∈cX:=λx j=>by
  simp only [Mn,MR,M9] at j;rcases j with rfl|rfl|rfl|rfl
  .exact .inr (by simp [cX])
  .exact .inr (by simp [cX])
  .exact .inr (by simp [cX])
  .exact .inl o2
 have o:∀x∈[D.str "X",.str "Xy",.str "Z",g],x.sc=true:=λx j=>(O x j).elim (λz=>(L.gp x z).1) λz=>(pY x z).1;obtain ⟨_,an,ao,_⟩:=fI (l:=iH.map D.str) (n:=3) a Z1 rfl;obtain ⟨wl,as,rfl⟩:=Mx.mp ao;obtain ⟨u,a0,T,_⟩:=fI (l:=[D.str "X",.str "Xy",.str "Z",g]) (n:=4) (a/3) Z1 rfl;obtain ⟨r,a1,U,_⟩:=fI (l:=[D.str "X",.str "Xy",.str "Z",g]) (n:=4) (a/12) Z1 rfl;dsimp only;refine bw<|fj (i:=9) (d:=.tup [.str wl,u,r]) (λG I e=>aQ<|aa (cy (ds:=iH.map D.str) an (e.v rfl)<|eZ Z1 (e.v rfl) aq)<|aa (cy a0 (e.v rfl)<|eZ Z1 (gX ⟨by decide,by decide⟩ (e.v rfl) aq) aq)<|aa (cy a1 (e.v rfl)<|eZ Z1 (gX ⟨by decide,by decide⟩ (e.v rfl) aq) aq) ag) (iW λx j=>?_) ?_
 .simp only [Mn,MR,M9] at j;rcases j with rfl|rfl|rfl
  .rfl
  .exact o _ T
  .exact o _ U
 obtain ⟨_,a2,a3,_⟩:=fI (l:=iH.map D.str) (n:=3) b Z1 rfl;obtain ⟨wr,a4,rfl⟩:=Mx.mp a3;obtain ⟨t,bc,Y,_⟩:=fI (l:=[D.str "X",.str "Xy",.str "Z",g]) (n:=4) (b/3) Z1 rfl;obtain ⟨y,bd,ac,_⟩:=fI (l:=[D.str "X",.str "Xy",.str "Z",g]) (n:=4) (b/12) Z1 rfl;dsimp only;refine bw<|fj (i:=10) (d:=.tup [.str wr,t,y]) (λG I e=>aQ<|aa (cy (ds:=iH.map D.str) a2 (e.v rfl)<|eZ Z1 (e.v rfl) aq)<|aa (cy bc (e.v rfl)<|eZ Z1 (gX ⟨by decide,by decide⟩ (e.v rfl) aq) aq)<|aa (cy bd (e.v rfl)<|eZ Z1 (gX ⟨by decide,by decide⟩ (e.v rfl) aq) aq) ag) (iW λx j=>?_) ?_
 .simp only [Mn,MR,M9] at j;rcases j with rfl|rfl|rfl
  .rfl
  .exact o _ Y
  .exact o _ ac
 have C:∀x∈[u,r,t,y],x∈[D.str "X",.str "Xy",.str "Z",g]:=λx j=>by
  simp only [Mn,MR,M9] at j;rcases j with rfl|rfl|rfl|rfl
  .exact T
  .exact U
  .exact Y
  .exact ac
 dsimp only;refine bw<|fj (i:=11) (d:=.tup [u,r,t,y]) (λG I e=>yd (xs:=[u,r]) (ys:=[t,y]) Z8 (rH (k:=1) (l:=[.str wl,u,r]) Z1 Z8<|e.v rfl)<|rH (k:=1) (l:=[.str wr,t,y]) Z1 Z8<|e.v rfl) (iW λx j=>o x<|C x j) ?_
 obtain ⟨_,bi,bk,_⟩:=fI (l:=iH.map D.str) (n:=3) c Z1 rfl;obtain ⟨wh,bl,rfl⟩:=Mx.mp bk;obtain ⟨h1,bs,af,_⟩:=fI (l:=[u,r,t,y]) (n:=4) (c/3) Z1 rfl;obtain ⟨h2,bt,aj,_⟩:=fI (l:=[u,r,t,y]) (n:=4) (c/12) Z1 rfl;dsimp only;refine bw<|fj (i:=12) (d:=.tup [.str wh,h1,h2]) (λG I e=>aQ<|aa (cy (ds:=iH.map D.str) bi (e.v rfl)<|eZ Z1 (e.v rfl) aq)<|aa (bK bs (e.v rfl)<|eZ Z1 (gX ⟨by decide,by decide⟩ (e.v rfl) aq) aq)<|aa (bK bt (e.v rfl)<|eZ Z1 (gX ⟨by decide,by decide⟩ (e.v rfl) aq) aq) ag) (iW λx j=>?_) ?_
 .simp only [Mn,MR,M9] at j;rcases j with rfl|rfl|rfl
  .rfl
  .exact o _<|C _ af
  .exact o _<|C _ aj
 dsimp only;refine eJ (d:=.lst<|(vX g J [.str wl,u,r] [.str wr,t,y] [.str wh,h1,h2] r t).map aY) (λG I e=>ae.eq (eP<|aa (aQ<|aa (aQ<|aa aK<|aa aK<|aa aK ag)<|aa (aQ<|aa (aQ<|aa aK<|aa aK<|aa aK ag) ag) ag)<|aa (aQ<|aa (aQ<|aa aK<|aa aK<|aa aK ag)<|aa (aQ<|aa (aQ<|aa aK<|aa aK<|aa aK ag)<|aa (aQ<|aa aK<|aa aK<|aa aK ag) ag) ag)<|aa (aQ<|aa (aQ<|aa aK<|aa aK ag)<|aa (aQ<|aa (aQ<|aa aK<|aa aK ag)<|aa (aQ<|aa aK<|aa aK<|aa aK ag) ag) ag)<|aa (aQ<|aa (aQ<|aa aK<|aa aK<|aa aK ag)<|aa (aQ<|aa (aQ<|aa aK<|aa aK<|aa aK ag) ag) ag)<|aa (aQ<|aa (aQ<|aa aK<|aa aK<|aa aK ag)<|aa (aQ<|aa (aQ<|aa aK<|aa aK<|aa aK ag)<|aa (aQ<|aa aK<|aa aK<|aa aK ag)<|aa (aQ<|aa aK<|aa aK<|aa aK ag) ag) ag)<|aa (aQ<|aa (aQ<|aa aK ag)<|aa (aQ<|aa (aQ<|aa aK<|aa (e.v rfl) ag)<|aa (aQ<|aa aK<|aa aK<|aa aK ag) ag) ag)<|aa (aQ<|aa (aQ<|aa aK<|aa aK<|aa aK ag)<|aa (aQ<|aa (aQ<|aa aK<|aa aK<|aa aK ag)<|aa (aQ<|aa aK<|aa aK<|aa aK ag) ag) ag)<|aa (aQ<|aa (aQ<|aa aK<|aa (e.v rfl) ag)<|aa (aQ<|aa (aQ<|aa aK ag) ag) ag)<|aa (aQ<|aa (aQ<|aa aK<|aa aK<|aa aK ag)<|aa (aQ<|aa (aQ<|aa aK<|aa aK<|aa aK ag)<|aa (aQ<|aa aK<|aa aK<|aa aK ag)<|aa (aQ<|aa aK<|aa aK<|aa aK ag) ag) ag)<|aa (aQ<|aa (aQ<|aa aK<|aa aK<|aa aK ag)<|aa (aQ<|aa (aQ<|aa aK<|aa aK<|aa aK ag)<|aa (aQ<|aa aK<|aa aK<|aa aK ag) ag) ag)<|aa (aQ<|aa (aQ<|aa aK<|aa aK<|aa (e.v rfl) ag)<|aa (aQ<|aa (aQ<|aa aK<|aa aK ag)<|aa (aQ<|aa aK<|aa (e.v rfl)<|aa aq ag) ag) ag)<|aa (aQ<|aa (aQ<|aa aK<|aa (e.v rfl) ag)<|aa (aQ<|aa (aQ<|aa aK<|aa aq<|aa aq ag) ag) ag)<|aa (aQ<|aa (e.v rfl)<|aa (aQ<|aa (e.v rfl)<|aa (e.v rfl) ag) ag)<|aa (aQ<|aa (e.v rfl)<|aa (aQ<|aa (e.v rfl)<|aa (aQ<|aa aK<|aa (bK (ds:=[u,r,t,y]) (d:=r) rfl (e.v rfl) aq)<|aa (bK (ds:=[u,r,t,y]) (d:=t) rfl (e.v rfl) aq) ag)<|aa (e.v rfl) ag) ag) ag) rfl) λv H' s' r'=>q _ v H' ⟨p,m,a,b,c,_,rfl,rfl,rfl,J6 L o2 t2 as a4 bl (λx j=>O x<|C x j) λx j=>?_,rfl⟩ s' r';simp only [Mn,MR,M9] at j;rcases j with rfl|rfl
 .exact af
 .exact aj
end
end a5
namespace a5
open PySem L2 FL
section
variable {P:Program}{w:World}{K:PySem.W.Frag}{mg:Str->Option Value}{base:Heap}{f:Addr}{fd:FuncData}
def lg:List (List Nat):=[[0,1,2],[0,6,5],[1,0,4],[3,8,9],[9,0,6],[3,9,2],[0,5,7],[10,3,2],[11,2,10],[12,0,3],[13,1,0],[12,13,2]]
def jE (l:List Nat):D:=.tup (l.map λn=>D.int (n:Nat))
def Gu:∀l∈lg,l.length=3/\∀x∈l,x<14:=by decide
abbrev AI:List Str:=["_law_script","_law_pool","_law_seed","_law_more","_law_menu","_law_threes","_law_three","_law_cells","_law_rules","_law_k","_law_way","_law_one","_law_two","_law_rule"]
def fc:bW AI ["_law_script"] (bb qT):=⟨rfl,rfl,rfl,Z9,rfl,Z9,Z9⟩
def DX (F:aF K "_law_rules_by" "_law_rules_by" qT f fd)(B:Bl mg)(o:aT P w K mg base 1 "_law_at" ["_law_script","_law_k"] (bv tZ))(t:aT P w K mg base 2 "_law_pool_by" ["_law_script"] (bv vZ))(u:aT P w K mg base 1 "_law_menu_by" ["_law_seed","_law_pool","_law_first","_law_second","_law_third"] (jz Bh Ai)):bq P w K mg base bA 3 f fd ["_law_script"] (jz Am zv):=by
 refine F.BC fc (tL (n:=1) λds q0=>by obtain ⟨_,e,_⟩:=q0;rw [e];rfl) λc2 A bi s H vs Q E T h=>?_;obtain ⟨M,ds,lv,J,⟨b,rfl,c3⟩,q⟩:=h;have hu:=dQ T;refine ⟨_,(fx ⟨bj 1 fc.nd<|bB t T<|ai (pv 0) ap⟩
   (fx ⟨bj 2 fc.nd<|bB o T<|ai (pv 0)<|ai aC ap⟩
   (fx ⟨bj 3 fc.nd<|cY<|ai (bB o T<|ai (pv 0)<|ai aC ap)<|ai (bB o T<|ai (pv 0)<|ai aC ap)<|ai (bB o T<|ai (pv 0)<|ai aC ap) ap⟩
   (fx ⟨bj 4 fc.nd<|bB u T<|ai (cQ ic (pv 2) aC)<|ai (pv 1)<|ai (aS (pv 3) aC)<|ai (aS (pv 3) aC)<|ai (aS (pv 3) aC) ap⟩
   (fx (iM (i:=5) fc.nd rfl (Or.inl rfl)<|n0<|ah (ba<|ah bH<|ah bH<|ah bH a7)<|ah (ba<|ah bH<|ah bH<|ah bH a7)<|ah (ba<|ah bH<|ah bH<|ah bH a7)<|ah (ba<|ah bH<|ah bH<|ah bH a7)<|ah (ba<|ah bH<|ah bH<|ah bH a7)<|ah (ba<|ah bH<|ah bH<|ah bH a7) a7)
   (fx (iM (i:=5) fc.nd rfl (Or.inl rfl)<|d8 m9 (wv 5)<|n0<|ah (ba<|ah bH<|ah bH<|ah bH a7)<|ah (ba<|ah bH<|ah bH<|ah bH a7)<|ah (ba<|ah bH<|ah bH<|ah bH a7) a7)
   (fx (iM (i:=6) fc.nd rfl (Or.inl rfl)<|gG (d8 m9 (wv 5)<|n0<|ah (ba<|ah bH<|ah bH<|ah bH a7)<|ah (ba<|ah bH<|ah bH<|ah bH a7)<|ah (ba<|ah bH<|ah bH<|ah bH a7) a7)<|d8 eV (wv 2) bH)
   (fx ⟨bj 7 fc.nd<|nI AT (pv 0) (m4 aC)<|m4 aC⟩
   (fx ⟨bj 8 fc.nd<|cY ap⟩
   (fx ⟨cI MD rfl (lF rfl B.range<|ai (cA B<|pv 7) ap) (bo 9 fc.nd) (az (bj 10 fc.nd<|cQ eV (aS (pv 7)<|pv 9) aC)
   (az (bj 11 fc.nd<|aS (pv 1)<|cQ eV (cQ jq (cQ ic (aS (pv 7)<|pv 9) aC)<|pv 9)<|cA B<|pv 1)
   (az (bj 12 fc.nd<|aS (pv 1)<|cQ eV (cQ jq (cQ jq (cQ ic (cQ ic (aS (pv 7)<|pv 9) aC)<|cA B<|pv 1)<|pv 9) aC)<|cA B<|pv 1)
   (az (bj 13 fc.nd<|ef<|ai (ef<|ai eW<|ai (pv 11)<|ai (pv 12) ap)<|ai (ef ap) ap)
   (az (bQ (cp (fP (by exact hu)) (pv 10) aC) (ay<|bj 13 fc.nd<|ef<|ai (ef<|ai eW<|ai (pv 11) ap)<|ai (ef ap) ap)<|ay<|bQ (jT (cp sL (cA B<|pv 1) aC)<|jV<|cp sL (pv 10) aC).pt (ay<|bj 13 fc.nd<|aS (pv 4) aC)<|ay<|bQ (cp sL (pv 10) aC) (ay<|bj 13 fc.nd<|aS (pv 4)<|aS (pv 6)<|cQ eV (cQ jq (cQ ic (aS (pv 7)<|pv 9) aC)<|pv 9) aC)<|ay<|bQ (jT (cp (fP (by exact hu)) (pv 10) aC)<|jV<|cp (fP (by exact hu)) (cA B<|pv 1) aC).pt (ay<|bj 13 fc.nd<|ef<|ai (ef<|ai eW<|ai (pv 11)<|ai (pv 12) ap)<|ai (ef ap) ap) ce)
   (ay<|bQ (cp (Bn hu) (pv 13)<|pv 8) (ay<|iK (pv 8)<|pv 13) ce))))))⟩
   (yu ⟨bm<|pv 8⟩))))))))))),?_⟩
 have b0:Bx H M [] _ H [Sl.d (.lst<|b.map D.int),.no,.no,.no,.no,.no,.no,.no,.no,.no,.no,.no,.no,.no]:=gr lv J AI;have N:=AS b;generalize a1:jc b=a at N;obtain ⟨n,hn,h0,c4⟩:∃n:Nat,a.length=n/\0<n/\n<=10:=⟨_,rfl,by rcases N.len with z|z<;>omega,by rcases N.len with z|z<;>omega⟩
 have U:(0:Int)<(n:Int):=by omega
 have bk:(n:Int)<1073741824:=by omega
 refine aX.run b0<|bw<|fM (i:=1) (d:=.lst a) (λG C e=>bM ⟨b,rfl,by rw [a1]⟩<|aa (e.vd rfl) ag) ?_
 dsimp only;refine bw<|fj (i:=2) (d:=.int<|b.getD 1 0) (λG C e=>bM (mz b 1)<|aa (e.v rfl)<|aa aq ag) rfl ?_
 dsimp only;refine bw<|fM (i:=3) (d:=.lst [.int<|b.getD 2 0,.int<|b.getD 3 0,.int<|b.getD 4 0]) (λG C e=>eP<|aa (bM (mz b 2)<|aa (e.vd rfl)<|aa aq ag)<|aa (bM (mz b 3)<|aa (e.vd rfl)<|aa aq ag)<|aa (bM (mz b 4)<|aa (e.vd rfl)<|aa aq ag) ag) ?_
 dsimp only;refine bw<|xx (i:=4) (ds:=[.int<|b.getD 1 0/12,.lst a,.int<|b.getD 2 0,.int<|b.getD 3 0,.int<|b.getD 4 0]) (λG C e=>aa (gX ⟨by decide,by decide⟩ (e.vd rfl) aq)<|aa (e.vd rfl)<|aa (cy (ds:=[.int<|b.getD 2 0,.int<|b.getD 3 0,.int<|b.getD 4 0]) (d:=.int<|b.getD 2 0) rfl (e.vd rfl) aq)<|aa (cy (ds:=[.int<|b.getD 2 0,.int<|b.getD 3 0,.int<|b.getD 4 0]) (d:=.int<|b.getD 3 0) rfl (e.vd rfl) aq)<|aa (cy (ds:=[.int<|b.getD 2 0,.int<|b.getD 3 0,.int<|b.getD 4 0]) (d:=.int<|b.getD 4 0) rfl (e.vd rfl) aq) ag) ⟨_,_,_,_,_,rfl,N⟩ λd hd=>?_
 obtain ⟨_,bl,_,_,_,L,he,rfl,bs,af,aj⟩:=hd;simp only [QI,D.lst.injEq] at he;obtain ⟨_,rfl,_⟩:=he;dsimp only;refine bw<|fM (i:=5) (d:=.lst<|(lg.take 6).map jE) (λG C e=>ae.eq (eP<|aa (aQ<|aa aq<|aa aq<|aa aq ag)<|aa (aQ<|aa aq<|aa aq<|aa aq ag)<|aa (aQ<|aa aq<|aa aq<|aa aq ag)<|aa (aQ<|aa aq<|aa aq<|aa aq ag)<|aa (aQ<|aa aq<|aa aq<|aa aq ag)<|aa (aQ<|aa aq<|aa aq<|aa aq ag) ag) rfl) ?_;dsimp only;refine bw<|fM (i:=5) (d:=.lst<|(lg.take 9).map jE) (λG C e=>ae.eq (mj (xs:=(lg.take 6).map jE) Z1 (e.vd rfl)<|eP<|aa (aQ<|aa aq<|aa aq<|aa aq ag)<|aa (aQ<|aa aq<|aa aq<|aa aq ag)<|aa (aQ<|aa aq<|aa aq<|aa aq ag) ag) rfl) ?_;obtain ⟨dt,bt,bx,_⟩:=fI (l:=lg.map jE) (n:=12) (b.getD 1 0) Z1 rfl;obtain ⟨tl,b6,rfl⟩:=Mx.mp bx;obtain ⟨b7,a2⟩:=Gu tl b6;dsimp only;refine bw<|fj (i:=6) (d:=jE tl) (λG C e=>cy (ds:=lg.map jE) bt (ae.eq (mj (xs:=(lg.take 9).map jE) Z1 (e.v rfl)<|eP<|aa (aQ<|aa aq<|aa aq<|aa aq ag)<|aa (aQ<|aa aq<|aa aq<|aa aq ag)<|aa (aQ<|aa aq<|aa aq<|aa aq ag) ag) rfl)<|eZ Z1 (e.v rfl) aq) (iW λx hx=>by obtain ⟨_,_,rfl⟩:=Mx.mp hx;rfl) ?_;obtain ⟨cs,b8,c5⟩:∃cs:List Int,((b.map D.int).drop 2).take 30=cs.map D.int/\cs.length<=30:=⟨(b.drop 2).take 30,by rw [PF,List.map_drop],by rw [MT];exact Nat.min_le_left _ _⟩
 dsimp only;refine bw<|fM (i:=7) (d:=.lst<|cs.map D.int) (λG C e=>ae.eq (EC (k:=2) (n:=30) (m:=32) rfl<|e.vd rfl) (by rw [b8])) ?_
 dsimp only;refine bw<|ql (i:=8) ?_
 generalize Sl.d (D.lst<|b.map D.int)=s0;generalize Sl.d (D.int<|b.getD 1 0)=s2;generalize Sl.d (D.lst [.int<|b.getD 2 0,.int<|b.getD 3 0,.int<|b.getD 4 0])=s3;generalize Sl.d (D.lst<|(lg.take 9).map jE)=s5;dsimp only;refine bw<|fH (i:=9) (c9.lW (n:=cs.length) Z4 λG C e=>aa ((d9 (K:=K)<|aa (e.v rfl) ag).eq (by rw [Md])) ag) (λj O=>∃J s9 am an ao as,ia a J/\J.length<=j/\O=[s0,.d (.lst a),s2,s3,.d (.lst<|L.map aY),s5,.d<|jE tl,.d (.lst<|cs.map D.int),.l<|J.map aY,s9,am,an,ao,as]) ⟨[],_,_,_,_,_,⟨(λr T=>nomatch T),(λ_ r T=>nomatch T),OS⟩,Mh _,rfl⟩ (λB' sB hk j x O hx hp=>?_) λO hp=>?_
 .obtain ⟨J,s9,am,an,ao,as,Y,ac,rfl⟩:=hp;obtain ⟨hj,rfl⟩:=iQ 0 _ j x hx;have hc:de (cs.map D.int) (0+(j:Int))=some (.int<|cs[j]'hj):=jy (by rw [Mo,Mb hj];rfl);generalize cs[j]'hj=c at hc;refine bw<|fj (i:=10) (d:=.int<|c%8) (λG C e=>eZ Z1 (cy hc (e.v rfl)<|e.v rfl) aq) rfl ?_;obtain ⟨p,o1,o2,_⟩:=fI (l:=a) (n:=n) (c/8+(0+(j:Int))) h0 hn;refine bw<|fj (i:=11) (d:=p) (λG C e=>cy o1 (e.v rfl)<|eZ U (j7 (gX ⟨by decide,by decide⟩ (cy hc (e.v rfl)<|e.v rfl) aq)<|e.v rfl)<|(d9 (K:=K)<|aa (e.v rfl) ag).eq (by rw [hn])) (og (N.gp p o2).1) ?_;obtain ⟨I,t1,t2,_⟩:=fI (l:=a) (n:=n) (c/8/(n:Int)+(0+(j:Int))+1) h0 hn;refine bw<|fj (i:=12) (d:=I) (λG C e=>cy t1 (e.v rfl)<|eZ U (j7 (j7 (gX ⟨U,bk⟩ (gX ⟨by decide,by decide⟩ (cy hc (e.v rfl)<|e.v rfl) aq)<|(d9 (K:=K)<|aa (e.v rfl) ag).eq (by rw [hn]))<|e.v rfl) aq)<|(d9 (K:=K)<|aa (e.v rfl) ag).eq (by rw [hn])) (og (N.gp I t2).1) ?_;have p2:∀x∈[p,I],x∈a:=λx hx=>by
   simp only [Mn,MR,M9] at hx;rcases hx with rfl|rfl
   .exact o2
   .exact t2
  have kr:dk a (jX "road" [p,I]):=uW N (by simp [dG]) p2;have kk:dk a (jX "kin" [p,I]):=uW N (by simp [dG]) p2;have km:dk a (jX "mark" [p]):=uW N (by simp [dG]) λx hx=>by rw [MG.mp hx];exact o2
  have nr:∀{r:bN},dk a r->(aY r).fG=true:=λh=>Kj (h.sc N).1 (h.sc N).2;refine bw<|fj (i:=13) (d:=aY<|jX "road" [p,I]) (λG C e=>ae.eq (aQ<|aa (aQ<|aa aK<|aa (e.v rfl)<|aa (e.v rfl) ag)<|aa (aQ ag) ag) rfl) (nr kr) ?_
  refine bw<|Kp (λO=>∃r,dk a r/\(a.length=10->tP a r)/\O=[s0,.d (.lst a),s2,s3,.d (.lst<|L.map aY),s5,.d<|jE tl,.d (.lst<|cs.map D.int),.l<|J.map aY,.d (.int<|0+(j:Int)),.d (.int<|c%8),.d p,.d I,.d<|aY r]) (λG C e=>ck<|lD (e.v rfl) aq) (λk z=>?_) (λk z=>?_) λO hp=>?_
  .exact fj (i:=13) (d:=aY<|jX "mark" [p]) (λG C e=>ae.eq (aQ<|aa (aQ<|aa aK<|aa (e.v rfl) ag)<|aa (aQ ag) ag) rfl) (nr km)<|k _ ⟨_,km,λ_=>.inr (.inr ⟨p,o2,rfl⟩),rfl⟩
  .refine dC (λG C e=>ly (ck<|uc ((d9 (K:=K)<|aa (e.v rfl) ag).eq (by rw [hn])) aq) λ_=>ck<|uc (e.v rfl) aq) (λz1=>?_) (λz1=>?_)
   .exact fj (i:=13) (d:=aY wU) (λG C e=>cy (i:=((2:Nat):Int)) (jo (by rw [Mo,aj];rfl)) (e.v rfl) aq) (nr<|af _<|Mi aj)<|k _ ⟨_,af _<|Mi aj,λ_=>.inl rfl,rfl⟩
   .refine dC (λG C e=>ck<|uc (e.v rfl) aq) (λz2=>?_) (λz2=>?_)
    .have cd:¬a.length=10:=λw=>by
      rw [z2,PB] at z1;have:=Ni z1;omega
     obtain ⟨di,ch,cl,_⟩:=fI (l:=tl.map λn=>D.int (n:Nat)) (n:=3) (c/8+(0+(j:Int))) Z1 (by rw [Md];exact b7);obtain ⟨i,co,rfl⟩:=Mx.mp cl;have hi:=a2 i co;have a3:L[i]?=some (L[i]'Z4):=Mb _;have a4:=af _<|Mi a3;exact fj (i:=13) (d:=aY<|L[i]'Z4) (λG C e=>cy (jo (by rw [Mo,a3];rfl)) (e.v rfl)<|bK ch (e.v rfl)<|eZ Z1 (j7 (gX ⟨by decide,by decide⟩ (cy hc (e.v rfl)<|e.v rfl) aq)<|e.v rfl) aq) (nr a4)<|k _ ⟨_,a4,λw=>absurd w cd,rfl⟩
    .refine dC (λG C e=>ly (ck<|lD (e.v rfl) aq) λ_=>ck<|lD ((d9 (K:=K)<|aa (e.v rfl) ag).eq (by rw [hn])) aq) (λz3=>?_) (λz3=>eQ<|k _ ⟨_,kr,λ_=>.inr (.inl ⟨p,o2,I,t2,rfl⟩),rfl⟩)
     have ct:¬a.length=10:=λw=>by
      have:=MC (PP.mp z3).2;omega
     exact fj (i:=13) (d:=aY<|jX "kin" [p,I]) (λG C e=>ae.eq (aQ<|aa (aQ<|aa aK<|aa (e.v rfl)<|aa (e.v rfl) ag)<|aa (aQ ag) ag) rfl) (nr kk)<|k _ ⟨_,kk,λw=>absurd w ct,rfl⟩
  obtain ⟨r,a0,c0,rfl⟩:=hp;have bc:=a0.sc N;dsimp only;refine dC (λG C e=>ck<|AE (d:=aY r) (es:=J.map aY) (λy hy=>?_) (e.v rfl)<|e.v rfl) (λz=>?_) λz=>eQ<|dO ⟨J,_,_,_,_,_,Y,Nat.le_succ_of_le ac,rfl⟩
  .obtain ⟨g,hg,rfl⟩:=Mx.mp hy;have bd:=(Y.ok g hg).sc N;exact Gb bd.1 bd.2 bc.1 bc.2
  .have c1:r∉J:=λw=>by
    have:decide (aY r∈J.map aY)=true:=My<|Mx.mpr ⟨r,w,rfl⟩
    rw [this] at z;cases z
   refine t6 (j:=8) rfl (λG C e=>e.v rfl) (nr a0) (by rw [Md];exact cq Z4) ?_;rw [show J.map aY++[aY r]=(J++[r]).map aY by rw [MK];rfl];exact dO ⟨J++[r],_,_,_,_,_,Y.snoc a0 c0 c1,by rw [Mv];exact Nat.succ_le_succ ac,rfl⟩
 obtain ⟨J,s9,am,an,ao,as,Y,ac,rfl⟩:=hp;rw [Md,OV] at ac;dsimp only;exact eJ (d:=.lst<|J.map aY) (λG C e=>e.v rfl) λv H' s' r'=>q _ v H' ⟨b,J,rfl,rfl,by rw [a1];exact Y,by omega⟩ s' r'
end
end a5
namespace a5
open PySem L2 FL
section
variable {P:Program}{w:World}{K:PySem.W.Frag}{mg:Str->Option Value}{base:Heap}{f:Addr}{fd:FuncData}
def kQ:bW ["_law_blanks","_law_pool","_law_made","_law_blank","_law_more","_law_things","_law_thing","_law_longer_one"] ["_law_blanks","_law_pool"] (bb uu):=⟨rfl,rfl,rfl,Z9,rfl,Z9,Z9⟩
def EF (F:aF K "_law_choices" "_law_choices" uu f fd)(B:Bl mg):bq P w K mg base bA 1 f fd ["_law_blanks","_law_pool"] qL:=by
 refine F.ok kQ (λvs H Q E q0=>by obtain ⟨_,_,_,_,_,e,_⟩:=q0;rw [e];rfl) λen A co s H vs Q E hr h=>?_;obtain ⟨M,r,g,v0,v1,rfl,lv,r0,r1,hp,ct,a4,q⟩:=h;have c0:=fJ hr;refine ⟨_,(az (bj 2 kQ.nd<|cY<|ai pT ap)
   (az (cI MD rfl (cr<|pv 0) (bo 3 kQ.nd) (az (bj 4 kQ.nd<|cY ap)
   (az (cI MD rfl (cr<|pv 2) (bo 5 kQ.nd) (ay (cI MD rfl (cr<|pv 1) (bo 6 kQ.nd) (az (bj 7 kQ.nd<|Jn B<|pv 5)
   (az (lq c0 (pv 7) (pv 3) (pv 6) rfl)
   (ay<|iK (pv 4)<|pv 7))))))
   (ay<|bj 2 kQ.nd<|pv 4))))
   (ay<|bm<|pv 2))),?_⟩
 have E0:ax (but H M) (L2.start ["_law_blanks","_law_pool","_law_made","_law_blank","_law_more","_law_things","_law_thing","_law_longer_one"] [v0,v1]) [some<|fY r,some (.lst g),none,none,none,none,none,none]:=f9 (.dat r0 (.dat r1 .nil)) _;have c1:∀k,(dy g (r.take k) [[]]).length<=1000:=λk=>by
  rw [Bk,Nv,Nat.one_mul];have h1:(r.take k).length<=3:=MF (by rw [MT];exact Nat.min_le_right _ _) ct
  calc g.length^(r.take k).length<=10^(r.take k).length:=Nat.pow_le_pow_left a4 _
   _<=10^3:=Nat.pow_le_pow_right Z1 h1
   _=1000:=by decide
 intro J kS;refine ⟨by show 1<=sizeLine;decide,λm0 bc=>?_⟩;have sA:=da kS (.dK []);have sB:=da bc (.lst [.ref J]);have af:ab H (upd (upd H J (.dK [])) m0 (.lst [.ref J])):=sA.trans sB;have c3:J∉M:=lv.fresh kS;have c4:m0∉M:=(lv.same sA).fresh bc;have bd:gU (but (upd (upd H J (.dK [])) m0 (.lst [.ref J])) M) [.ref J] (dy g (r.take 0) [[]]):=by
  refine ⟨rfl,λj c e=>?_⟩;cases j with
  |zero=>
   have e:([]:aR)=c:=Mu e;subst e;exact ⟨J,rfl,by rw [bn c3];exact sB _ _ aO⟩
  |succ j=>simp [dy] at e
 have bi:but (upd (upd H J (.dK [])) m0 (.lst [.ref J])) M m0=some (.lst [.ref J]):=by rw [bn c4];exact aO
 generalize upd (upd H J (.dK [])) m0 (.lst [.ref J])=H1 at af bd bi;have E1:ax (but H1 M) ((L2.start ["_law_blanks","_law_pool","_law_made","_law_blank","_law_more","_law_things","_law_thing","_law_longer_one"] [v0,v1]).set 2<|some (.ref m0)) [some<|fY r,some (.lst g),none,none,none,none,none,none]:=(E0.same af).off 2 _;have l1:au M H1:=lv.same af;refine gZ (M:=M) (ds:=r.map D.str) (dH<|aI E1 rfl) l1 λH2 s2=>?_;refine ⟨λk C H'=>∃m us,C[2]?=some (some (.ref m))/\but H' M m=some (.lst us)/\gU (but H' M) us (dy g (r.take k) [[]])/\ab H2 H'/\ax (but H' M) C [some<|fY r,some (.lst g),none,none,none,none,none,none],
  ⟨m0,_,rfl,(s2.but M) _ _ bi,bd.mono<|s2.but M,ab.refl _,E1.same s2⟩,λk C H' q1=>by obtain ⟨_,_,_,_,_,x,_⟩:=q1;exact ⟨x.but M,(l1.same s2).same x⟩,?_,?_⟩
 .rintro k d x C H' u hd ⟨m,us,j2,hm,hD,S',E'⟩ s3 rx
  obtain ⟨b,c5,rfl⟩:∃b,r[k]?=some b/\d=.str b:=by
   rw [Mo] at hd;cases e:r[k]? with
   |none=>rw [e] at hd;cases hd
   |some y=>rw [e] at hd;exact ⟨y,rfl,(Mu hd).symm⟩
  have dc:r.take (k+1)=r.take k++[b]:=by rw [MX,c5];rfl
  have l3:au M u:=((l1.same s2).same S').same s3;have E3:ax (but u M) (C.set 3<|some x) [some<|fY r,some (.lst g),none,some (.str b),none,none,none,none]:=(E'.same s3).set 3 rx;have c2:(C.set 3<|some x)[2]?=some (some (.ref m)):=(Me Z1).trans j2;refine nZ (i:=4) l3 E3 Z8 ag (MI _) λa dd di H4 o4 i4 n4 h4 r4 l4 k4 E4=>?_;have dp:dd=[]:=by cases r4;rfl
  subst dp;have bk:ab u H4:=λx o e=>(k4 x o e).2;have bl:u a=none:=none_of (ab.refl u) k4;have SV:ab (but u M) (but H4 (a::M)):=i6 bl bk;have d2:di[2]?=some (some (.ref m)):=(o4 2 Z1).trans c2;have dt:=SV _ _<|(s3.but M) _ _ hm
  have bs:=(hD.mono<|s3.but M).mono SV;have dx:=c1 k;generalize as:dy g (r.take k) [[]]=L at bs dx;have ek:∀c∈L,∀p∈c,p.2.sc=true:=λc hc=>by
   rw [<-as] at hc;exact ro g _ [[]] c hp (λm hm p bt=>by rw [MG.mp hm] at bt;cases bt) hc
  have bx:∀c∈L,c.length<=3:=λc hc=>by
   rw [<-as] at hc;have:=yy g (r.take k) [[]] 0 (λm hm=>by rw [MG.mp hm];rfl) c hc;rw [MT] at this;omega
  refine tH (M:=a::M) (xl (D8 d2) dt) l4 λH5 s5=>?_;have a0:=bs.mono<|s5.but _
  refine ⟨λj M' N X=>M'=a::M/\∃ws,N[4]?=some (some (.ref a))/\X a=some (.lst ws)/\gU (but X (a::M)) ws ((L.take j).flatMap λc=>g.map λt=>c++[(b,t)])/\ab u X/\au (a::M) X/\ab (but H5 (a::M)) (but X (a::M))/\ax (but X (a::M)) N [some<|fY r,some (.lst g),none,some (.str b),none,none,none,none],
   ⟨rfl,[],i4,s5 _ _ h4,.nil,bk.trans s5,l4.same s5,ab.refl _,E4.same s5⟩,λj M' N X q2=>by obtain ⟨e,_,_,_,_,_,x,y,_⟩:=q2;rw [e];exact ⟨y,x⟩,?_,?_⟩
  .rintro j M' y N X X' hj ⟨rfl,ws,t4,a1,O,SX,lX,a2,EX⟩ s6 hy
   have hy:us[j]?=some y:=hy;have ao:=a0.len;have d1:j<L.length:=by omega
   have aj:L[j]?=some L[j]:=Mb d1;obtain ⟨U,h1,h2⟩:=a0.get j _ aj;have ey:y=.ref U:=by rw [hy] at h1;exact Mu h1
   subst ey;have b0:=Mi aj;generalize ep:L[j]=c at h2 aj b0;have E6:ax (but X' (a::M)) (N.set 5<|some (.ref U)) [some<|fY r,some (.lst g),none,some (.str b),none,none,none,none]:=(EX.same s6).off 5 _;have d3:N.length=8:=EX.len;have e4:(N.set 5<|some (.ref U))[4]?=some (some (.ref a)):=(Me Z1).trans t4;have e5:(N.set 5<|some (.ref U))[5]?=some (some (.ref U)):=Mr Z4;have d4:=(s6.but (a::M)) _ _<|a2 _ _ h2
   have b6:(L.take<|j+1).flatMap (λc=>g.map λt=>c++[(b,t)])=(L.take j).flatMap (λc=>g.map λt=>c++[(b,t)])++g.map λt=>c++[(b,t)]:=by
    rw [MX,aj,Pr];congr 1;exact NI _ _
   have d5:((L.take j).flatMap λc=>g.map λt=>c++[(b,t)]).length<=10000:=by
    rw [List.length_flatMap];have ea:∀l:List aR,(l.map λc=>(g.map λt=>c++[(b,t)]).length).sum=l.length*g.length:=by
     intro l;induction l with
     |nil=>simp
     |cons m t ih=>rw [MW,Qs,ih,MN,QF,QZ,Md]
    rw [ea,MT]
    calc min j L.length*g.length<=1000*10:=Nat.mul_le_mul Z4 a4
     _=10000:=by decide
   generalize eq:((L.take j).flatMap λc=>g.map λt=>c++[(b,t)])=W at O b6 d5;refine gZ (M:=a::M) (ds:=g) (dH<|aI E6 rfl) (lX.same s6) λH7 s7=>?_;refine ⟨λi I Y=>∃ws,I[4]?=some (some (.ref a))/\I[5]?=some (some (.ref U))/\Y a=some (.lst ws)/\gU (but Y (a::M)) ws (W++(g.take i).map λt=>c++[(b,t)])/\ab u Y/\au (a::M) Y/\ab (but H7 (a::M)) (but Y (a::M))/\ax (but Y (a::M)) I [some<|fY r,some (.lst g),none,some (.str b),none,none,none,none],
    ⟨ws,e4,e5,s7 _ _<|s6 _ _ a1,by rw [QT,OR,MP];exact O.mono<|(s6.trans s7).but _,SX.trans<|s6.trans s7,(lX.same s6).same s7,ab.refl _,E6.same s7⟩,λi I Y q3=>by obtain ⟨_,_,_,_,_,_,x,y,_⟩:=q3;exact ⟨y,x⟩,?_,?_⟩
   .rintro i t v I Y Y' ht ⟨G,u4,u5,a3,T,SY,lY,am,EY⟩ s8 rt
    have ec:=Mi ht;have b7:=hp t ec;have er:=(Ma.mp ht).1;have E8:ax (but Y' (a::M)) (I.set 6<|some v) [some<|fY r,some (.lst g),none,some (.str b),none,none,some t,none]:=(EY.same s8).set 6 rt;have w4:(I.set 6<|some v)[4]?=some (some (.ref a)):=(Me Z1).trans u4;have w5:(I.set 6<|some v)[5]?=some (some (.ref U)):=(Me Z1).trans u5;have ed:=(s8.but (a::M)) _ _<|am _ _<|(s7.but _) _ _ d4
    have l8:=lY.same s8;refine ⟨.ref U,w5,U,_,rfl,.inl (aw ed).2,λp an=>?_⟩;have b8:=da an (.dK<|b9 []<|bI c);have cd:p∉a::M:=l8.fresh an;have el:I.length=8:=EY.len;have E9:ax (but (upd Y' p (.dK<|b9 []<|bI c)) (p::a::M)) ((I.set 6<|some v).set 7<|some (.ref p)) [some<|fY r,some (.lst g),none,some (.str b),none,none,some t,none]:=uY E8 an;have x7:((I.set 6<|some v).set 7<|some (.ref p))[7]?=some (some (.ref p)):=Mr (by rw [NH];omega);have x4:((I.set 6<|some v).set 7<|some (.ref p))[4]?=some (some (.ref a)):=(Me Z1).trans w4;have x5:((I.set 6<|some v).set 7<|some (.ref p))[5]?=some (some (.ref U)):=(Me Z1).trans w5;have em:=bx c b0;refine AK (n:=b) (y:=t) (F:=c) (l8.upd.cons aO) E9 Z8 x7 aO b7 Z4 (aI E9 rfl) (aI E9 rfl) λZ kZ lZ eg EZ=>?_;have ei:a≠p:=λz=>cd (by rw [<-z];exact Mc);have ch:Z a=some (.lst G):=kZ a _ ei<|b8 _ _<|s8 _ _ a3
    have cl:ab Y' Z:=λz o e=>kZ z o (dm e an)<|b8 _ _ e
    refine ⟨.ref a,x4,(show gW K "list" (.ref a) _ from .inl ⟨rfl,G,aN.of ch⟩),.ref p,x7,a,G,.ref p,rfl,rfl,ch,?_,?_⟩
    .rw [T.len,Mv,Md,MT]
     exact Oz (show _<=20000 by omega) Z1
    .have eb:but (upd Z a (.lst<|G++[.ref p])) (a::M)=but Z (a::M):=dN Mc;have SZ:ab (but Y' (a::M)) (but (upd Z a (.lst<|G++[.ref p])) (a::M)):=by rw [eb];exact cl.but _
     refine ⟨_,x4,x5,aO,?_,mN (SY.trans<|s8.trans cl) bl λz o hz e=>by rw [aD hz];exact e,?_,am.trans<|(s8.but _).trans SZ,?_⟩
     .rw [MX,ht,MK,<-M5]
      refine (T.mono<|(s8.but _).trans SZ).snoc ?_;rw [eb,bn cd];exact eg
     .exact (λz hz=>(lZ.upd (a:=a)) z<|L8 _ hz)
     .rw [eb]
      exact (EZ.mono<|eA λz hz=>L8 _ hz).drop 6
   .rintro I Y ⟨G,u4,u5,a3,T,SY,lY,am,EY⟩
    rw [MQ<|Mh _,<-b6] at T;exact ⟨a::M,rfl,G,u4,a3,T,SY,lY,a2.trans<|((s6.trans s7).but _).trans am,EY⟩
  .rintro M' N X ⟨rfl,ws,t4,a1,O,SX,lX,a2,EX⟩
   have ao:=a0.len;rw [ao,MQ<|Mh _] at O;have ej:a∉M:=n4;have ES:ax (but X M) N [some<|fY r,some (.lst g),none,some (.str b),none,none,none,none]:=EX.mono<|eA λz hz=>L8 _ hz
   have d3:N.length=8:=EX.len;refine ⟨.ref a,t4,a,ws,Mr Z4,by rw [bn ej];exact a1,?_,S'.trans<|s3.trans SX,(ES.drop 3).off 2 _⟩;rw [dc,zW,as];exact O.mono<|eA λz hz=>L8 _ hz
 .rintro C H' ⟨m,us,j2,hm,hD,S',E'⟩
  rw [Md,MQ<|Mh _] at hD;exact ⟨.ref m,j2,q m us H' (af.trans<|s2.trans S') hm hD⟩
end
end a5
namespace a5
open PySem L2 FL
section
variable {P:Program}{w:World}{K:PySem.W.Frag}{mg:Str->Option Value}{base:Heap}{f:Addr}{fd:FuncData}
abbrev x6:List Str:=["_law_reason","_law_rules","_law_ahead","_law_head","_law_body","_law_wanted","_law_things","_law_k","_law_fact","_law_j","_law_atom"]
def jx:bW x6 ["_law_reason","_law_rules","_law_ahead"] (bb rZ):=⟨rfl,rfl,rfl,Z9,rfl,Z9,Z9⟩
def FN (F:aF K "_law_follows" "_law_follows" rZ f fd)(B:Bl mg)(af:aT P w K mg base 2 "_law_is_fact" ["_law_found"] (bv Br))(am:aT P w K mg base 1 "_law_whole" ["_law_found"] (bv nD))(T:aT P w K mg base 2 "_law_places_fit" ["_law_found","_law_count","_law_most"] (bv AH))(o:aT P w K mg base 1 "_law_fill_in" ["_law_atom","_law_things"] (iL rp))(a0:aT P w K mg base 2 "_law_true" ["_law_atom","_law_there"] (spS xD)):bq P w K mg base bA 3 f fd ["_law_reason","_law_rules","_law_ahead"] (bv CK):=by
 refine F.ok jx (d7 (n:=3) λds d q0=>by obtain ⟨_,_,_,_,_,_,e,_⟩:=q0;rw [e];rfl) λed A dp s H vs Q E hr h=>?_;obtain ⟨M,ds,d,lv,rs,⟨⟨I,J,pl⟩,ec,N,C,r,V,rfl,hF,rfl⟩,q⟩:=h;have hu:=dQ hr;have dt:=fJ hr;refine ⟨_,(az (bQ (fC (dA<|cG<|fX B (pv 0) B.tuple Ng)<|fC (cp (fD (by exact hu)) (cA B<|pv 0) aC)<|gY<|dA<|cG<|bB af hr<|ai (aS (pv 0) aC) ap).pt (ay<|bm cV) ce)
   (az (bQ (fC (dA<|cG<|bB am hr<|ai (aS (pv 0) aC) ap)<|fC (cp ka (aS (pv 0) aC) aC)<|gY<|cp tN (aS (pv 0) aC)<|cA B<|pv 1).pt (ay<|bm cV) ce)
   (az (DY (aS (pv 1)<|aS (pv 0) aC)<|kP rfl<|e9 (bo 3 jx.nd)<|e9 (bo 4 jx.nd) jG)
   (az (qr (i:=5) ["_law_atom"] [] 1 jx.nd rfl (Or.inl rfl) (cr<|pv 4) (λ_ _ _ _ _=>(bo 0<|jR _)) (λ_ _ _ _ _=>(io (jT (cp (fD (by exact hu)) (jU (pv 0) aC) eW)<|jV<|cp (fD (by exact hu)) (jU (pv 0) aC) eW).pt)) λ_ _ _ _ _=>(pv 0))
   (az (bQ (dA<|cG<|bB T hr<|ai (aS (pv 0) aC)<|ai (cA B<|pv 5)<|ai (cA B<|pv 2) ap) (ay<|bm cV) ce)
   (az (bj 6 jx.nd pT)
   (az (cI MD rfl (lF rfl B.range<|ai (cA B<|pv 5) ap) (bo 7 jx.nd) (az (bj 8 jx.nd<|aS (pv 2)<|aS (aS (pv 0) aC)<|pv 7)
   (az (bQ (cp (fD (by exact hu)) (cA B<|pv 8)<|cA B<|aS (pv 5)<|pv 7) (ay<|bm cV) ce)
   (ay<|cI MD rfl (IQ rfl B.range<|ai aC<|ai (cA B<|pv 8) ap) (bo 9 jx.nd)<|ay<|bQ (cp (Ck hu) (aS (aS (pv 5)<|pv 7)<|pv 9)<|ef<|ai eW<|ai eW<|ai eW ap) (ay<|lq dt (pv 6) (aS (aS (pv 5)<|pv 7)<|pv 9) (aS (pv 8)<|pv 9) rfl) ce))))
   (az (cI MD rfl (lF rfl B.range<|ai (cA B<|pv 5) ap) (bo 7 jx.nd)<|ay<|bQ (cp (fD (by exact hu)) (bB o hr<|ai (aS (pv 5)<|pv 7)<|ai (pv 6) ap)<|aS (pv 2)<|aS (aS (pv 0) aC)<|pv 7) (ay<|bm cV) ce)
   (az (cI MD rfl (cr<|pv 4) (bo 10 jx.nd)<|ay<|bQ (fC (cp (fP (by exact hu)) (aS (pv 10) aC) eW)<|gY<|cp (fP (by exact hu)) (aS (pv 10) aC) eW).pt (ay<|bQ (dA<|cG<|bB a0 hr<|ai (bB o hr<|ai (pv 10)<|ai (pv 6) ap)<|ai t0 ap) (ay<|bm cV) ce) ce)
   (ay<|bm<|iB (fP (by exact hu)) (bB o hr<|ai (pv 3)<|ai (pv 6) ap)<|aS (pv 0) aC)))))))))),?_⟩
 have b0:Bx H M [] _ H [Sl.d<|cU (I,(J,pl)),.d (.lst<|N.map aY),.d<|cF C,.no,.no,.no,.no,.no,.no,.no,.no]:=gr lv rs x6;obtain ⟨bk,a2,dx,aj,cv,ct,bs,a3⟩:=hF;have bk:N[J]?=some r:=bk;have aj:dY C V (bY r.2) pl:=aj;have bs:I=r.1.map (a6 V):=bs;have a3:oT I:=a3;have eg:=(Ma.mp bk).1;obtain ⟨hd,m⟩:=r;dsimp only at aj cv ct bs;have hI:=a2.bi;have hI:BI (bY m) m:=hI;have ei:m.length<=3:=a2.dI;have hA:=hI.at_;have an:∀a∈bY m,a∈m:=λa O=>(Mq.mp O).1;have c0:=vV aj;have h3:=hI.nM;have b7:∀a∈m,∀x∈a,aB x=true->∃c∈bY m,x∈c:=λa O x hx e=>by
  by_cases g:aJ a=true
  .obtain ⟨c,c1,c2,c3⟩:=a2.gb a O g x hx e;exact ⟨c,Mq.mpr ⟨c1,by rw [c2];rfl⟩,c3⟩
  .exact ⟨a,Mq.mpr ⟨O,by simp [g]⟩,hx⟩
 have ac:∀a∈m,∀x∈a,x.sc=true:=λa O x hx=>((hA a O).ok x hx).1;have V1:∀{d:D} {G:Hp} {U:St} {δ:List Sl} {i:Int},bP G U δ->(δ[0]?).bind Sl.ij=some (cU (I,(J,pl)))->de [D.tup I,.int ((J:Nat):Int),mM pl] i=some d->ae (bJ (d6 K) (aU 0)<|tC (.int i)) G U d:=λe h k=>bK k (e.v h) aq;refine aX.run b0 ?_;refine gK (λG U e=>fK (b:=false) (c:=false) (bg.eq (dB<|cH<|ml<|e.v rfl) rfl) λ_=>fK (b:=false) (c:=false) (bg.eq (ck<|iA (fA (K:=K) (l:=[D.tup I,.int ((J:Nat):Int),mM pl])<|aa (e.v rfl) ag) aq) rfl) λ_=>bg.eq (dB<|cH<|bM ⟨I,rfl,a3,rfl⟩<|aa (V1 (d:=.tup I) e rfl rfl) ag) rfl) ?_;refine gK (λG U e=>fK (b:=false) (c:=false) (bg.eq (dB<|cH<|bM ⟨_,rfl,rfl⟩<|aa (V1 (d:=.int ((J:Nat):Int)) e rfl rfl) ag) rfl) λ_=>fK (b:=false) (c:=false) (bg.eq (ck<|kD (V1 (d:=.int ((J:Nat):Int)) e rfl rfl) aq)<|MH Z4) λ_=>bg.eq (ck<|uw (V1 (d:=.int ((J:Nat):Int)) e rfl rfl)<|(d9 (K:=K)<|aa (e.v rfl) ag).eq (by rw [Md]))<|MH Z4) ?_;refine bw<|DI (i:=3) (i':=4) (d1:=.tup hd) (d2:=cb m) (λG U e=>cy (ds:=N.map aY) (i:=((J:Nat):Int)) (d:=aY (hd,m)) (jo (by rw [Mo,bk];rfl)) (e.vd rfl)<|V1 (d:=.int ((J:Nat):Int)) e.zN rfl rfl) ?_
 refine bw<|fM (i:=5) (d:=cF<|bY m) (λG U e=>e.zN.wanted (K:=K) (body:=m) (λa O=>⟨(hA a O).ne,ac a O⟩) Z4<|h9<|e.vd rfl) ?_
 refine gK (λG U e=>bg.eq (dB<|cH<|bM ⟨pl,(bY m).length,C.length,rfl,c0,GJ aj,rfl⟩<|aa (V1 (d:=mM pl) e rfl rfl)<|aa ((d9 (K:=K)<|aa (e.v rfl) ag).eq (by rw [Md]))<|aa ((d9 (K:=K)<|aa (e.v rfl) ag).eq (by rw [Md])) ag) rfl) ?_;refine bw<|Ie (i:=6) ?_
 have bt:∀{k:Nat} {a:ZZ},(bY m)[k]?=some a->∀{G:Hp} {U:St} {δ:List Sl},bP G U δ->(δ[5]?).bind Sl.ij=some (cF<|bY m)->(δ[7]?).bind Sl.ij=some (.int<|0+(k:Int))->ae (bJ (d6 K) (aU 5)<|aU 7) G U (.tup a):=λO G U δ e h5 h7=>cy (ds:=(bY m).map D.tup) (jy (by rw [Mo,O];rfl)) (e.v h5)<|e.v h7
 have kb:∀{k:Nat} {a:ZZ},(bY m)[k]?=some a->∀{G:Hp} {U:St} {δ:List Sl},bP G U δ->(δ[0]?).bind Sl.ij=some (cU (I,(J,pl)))->(δ[2]?).bind Sl.ij=some (cF C)->(δ[7]?).bind Sl.ij=some (.int<|0+(k:Int))->ae (bJ (d6 K) (aU 2)<|bJ (d6 K) (bJ (d6 K) (aU 0)<|tC (.int 2))<|aU 7) G U (.tup<|a.map<|a6 V):=λO G U δ e h0 h2 h7=>by
  obtain ⟨i,d0,d3⟩:=yU aj O;exact cy (ds:=C.map D.tup) (i:=((i:Nat):Int)) (jo (by rw [Mo,d3];rfl)) (e.v h2)<|bK (ds:=pl.map λn=>D.int (n:Nat)) (jy (by rw [Mo,d0];rfl)) (V1 (d:=mM pl) e h0 rfl)<|e.v h7
 refine bw<|fH (i:=7) (c9.lW (n:=(bY m).length) Z4 λG U e=>aa ((d9 (K:=K)<|aa (e.v rfl) ag).eq (by rw [Md])) ag) (λk Y=>∃s7 s8 s9,Y=[Sl.d<|cU (I,(J,pl)),.d (.lst<|N.map aY),.d<|cF C,.d (.tup hd),.d<|cb m,.d<|cF<|bY m,.k<|ar V<|((bY m).take k).flatMap gm,s7,s8,s9,.no]) ⟨_,_,_,rfl⟩ (λB' sB hk k x Y hx hp=>?_) λY hp=>?_
 .obtain ⟨s7,s8,s9,rfl⟩:=hp;obtain ⟨a1,rfl⟩:=iQ 0 _ k x hx;have O:=Mb a1;have t:=NJ a1;generalize (bY m)[k]'a1=a at O t;have Aa:=hA a<|an a t;have a4:=G7 gm O;have ch:(((bY m).take k).flatMap gm).length<=30:=by
   have h1:=HK (as:=(bY m).take k) λc hc=>(hA c<|an c<|PZ hc).len;rw [MT] at h1;omega
  obtain ⟨y,l,rfl⟩:∃y l,a=y::l:=by
   cases a with
   |nil=>exact absurd rfl Aa.ne
   |cons y l=>exact ⟨y,l,rfl⟩
  have ej:l.length<=10:=by have:=Aa.len;rw [MN] at this;omega
  have c4:∀x∈(y::l).map (a6 V),x.sc=true:=λx hx=>by
   obtain ⟨z,hz,rfl⟩:=Mx.mp hx;by_cases e:aB z=true
   .rw [rW e];exact cv _<|nv t hz e
   .unfold a6;rw [Mj e];exact ac _ (an _ t) z hz
  refine bw<|fj (i:=8) (d:=.tup<|(y::l).map<|a6 V) (λG U e=>kb O e rfl rfl rfl) (iW c4) ?_
  refine gK (λG U e=>bg.eq (ck<|iA (fA (K:=K)<|aa (e.v rfl) ag)<|fA (K:=K)<|aa (bt O e rfl rfl) ag) Z8) ?_;generalize ((bY m).take k).flatMap gm=L at a4 ch;refine fH (i:=9) (c9.IH (n:=l.length) Z4 λG U e=>aa aq<|aa ((fA (K:=K)<|aa (e.v rfl) ag).eq (by rw [Md,MN])) ag) (λj Y=>∃s9,Y=[Sl.d<|cU (I,(J,pl)),.d (.lst<|N.map aY),.d<|cF C,.d (.tup hd),.d<|cb m,.d<|cF<|bY m,.k<|ar V<|L++((l.take j).filter aB).map D.name,.d (.int<|0+(k:Int)),.d (.tup<|(y::l).map<|a6 V),s9,.no]) ⟨s9,by rw [QT,QH,OR,MP];rfl⟩ (λB2 ek el j x d4 hx hp=>?_) λd4 hp=>?_
  .obtain ⟨s9,rfl⟩:=hp;obtain ⟨cl,rfl⟩:=iQ 1 _ j x hx;have hz:=Mb cl;have bx:=NJ cl;generalize l[j]'cl=z at hz bx;have ao:=G3 hz;have em:(((l.take j).filter aB).map D.name).length<=10:=by
    rw [Md];exact MF (MO _ _) (by rw [MT];omega)
   have c5:aB z=decide (z∈cX):=Aa.bl z bx;have d5:=ac _ (an _ t) z<|L8 _ bx
   have iz:de (y::l) (1+(j:Int))=some z:=lK Z4 (by rw [show (1+(j:Int)).toNat=j+1 by omega];exact hz);have iv:de ((y::l).map<|a6 V) (1+(j:Int))=some (a6 V z):=lK Z4 (by rw [show (1+(j:Int)).toNat=j+1 by omega,Mo];show Option.map _ l[j]?=_;rw [hz];rfl);refine dC (b:=decide<|z∈cX) (λG U e=>ck<|yj (λy hy=>eO ((by decide:∀y∈cX,y.sc=true) y hy) d5) (bK iz (bt O e rfl rfl)<|e.v rfl)<|aQ (ds:=cX) (aa aK<|aa aK<|aa aK ag) Z1) (λw=>?_) λw=>?_
   .have b6:aB z=true:=by rw [c5];exact w
    rw [Mp b6] at ao;refine JL (j:=6) (n:=z.name) (d:=V z.name) rfl (λG U e=>(bK iv (e.v rfl)<|e.v rfl).eq<|rW b6) (λG U e=>(bK iz (bt O e rfl rfl)<|e.v rfl).eq<|iD b6) (cv _<|nv t (L8 _ bx) b6) (by unfold ar;rw [Md,Mv];omega) ?_;rw [Gg,M5,<-ao];exact dO ⟨_,rfl⟩
   .have ea:¬aB z=true:=by rw [c5,w];exact Mm
    rw [Mj ea,MP] at ao;rw [<-ao];exact eQ<|dO ⟨_,rfl⟩
  .obtain ⟨s9,rfl⟩:=hp;rw [Md,OV,NL];refine dO ⟨.d (.int<|0+(k:Int)),.d (.tup<|(y::l).map<|a6 V),s9,?_⟩;rw [a4];rfl
 obtain ⟨s7,s8,s9,rfl⟩:=hp;rw [Md,OV,NL];have dc:cB ((bY m).flatMap gm):=Jz;have dd:∀c∈bY m,∀x∈c,aB x=true->x.name∈(bY m).flatMap gm:=λc hc x hx e=>F0 hc (hA c<|an c hc).hd hx e;have co:∀a∈m,eE (ar V<|(bY m).flatMap gm) a=a.map (a6 V):=λa O=>qB dc (hA a O).ne (hA a O).hd λx hx e=>by
  obtain ⟨c,c1,c2⟩:=b7 a O x hx e;exact dd c c1 x c2 e
 have bc:∀p∈ar V ((bY m).flatMap gm),p.2.sc=true:=λp hp=>by
  obtain ⟨b,hb,rfl⟩:=Mx.mp hp;obtain ⟨a,O,h⟩:=Nm.mp hb;obtain ⟨x,hx,rfl⟩:=Mx.mp h;exact cv _<|nv O (QS (Mq.mp hx).1) (Mq.mp hx).2
 obtain ⟨w,xs,hw⟩:∃w xs,hd=D.str w::xs/\aB (.str w)=false:=by
  obtain ⟨w,xs,e,h1,_⟩:=a2.hd;exact ⟨w,xs,e,(kf<|Ms _ h1).2.1⟩
 have b8:hd≠[]:=by rw [hw.1];exact λz=>nomatch z
 have eb:aB (hd.headD .av)=false:=by rw [hw.1];exact hw.2
 have di:=a2.hd.sc dx;have cd:eE (ar V<|(bY m).flatMap gm) hd=I:=by
  rw [bs];exact qB dc b8 eb λx hx e=>by
   obtain ⟨c,c1,c2,c3⟩:=a2.hb x hx e;exact dd c (Mq.mpr ⟨c1,by rw [c2];rfl⟩) x c3 e
 generalize ar V ((bY m).flatMap gm)=S at co bc cd;dsimp only;refine bw<|fH (i:=7) (c9.lW (n:=(bY m).length) Z4 λG U e=>aa ((d9 (K:=K)<|aa (e.v rfl) ag).eq (by rw [Md])) ag) (λk Y=>∃s7,Y=[Sl.d<|cU (I,(J,pl)),.d (.lst<|N.map aY),.d<|cF C,.d (.tup hd),.d<|cb m,.d<|cF<|bY m,.k S,s7,s8,s9,.no]) ⟨_,rfl⟩ (λB' sB hk k x Y hx hp=>?_) λY hp=>?_
 .obtain ⟨s7,rfl⟩:=hp;obtain ⟨a1,rfl⟩:=iQ 0 _ k x hx;have O:=Mb a1;have t:=NJ a1;generalize (bY m)[k]'a1=a at O t;have Aa:=hA a<|an a t;have hq:=vm Aa.ne (ac a<|an a t) bc;have bd:=pS hq hq;exact dC (b:=false) (λG U e=>bg.eq (ck<|mW bd.1 bd.2 (e.oZ (j:=6) (.inl rfl) Aa.ne (ac a<|an a t) Aa.len<|bt O e rfl rfl)<|(kb O e rfl rfl rfl).eq (by rw [co a<|an a t])) Z8) (λz=>nomatch z) λ_=>eQ<|dO ⟨_,rfl⟩
 obtain ⟨s7,rfl⟩:=hp;dsimp only;refine bw<|fH (i:=10) (ds:=m.map D.tup) (c9.of λG U e=>h9<|e.vd rfl) (λk Y=>∃cs,Y=[Sl.d<|cU (I,(J,pl)),.d (.lst<|N.map aY),.d<|cF C,.d (.tup hd),.d<|cb m,.d<|cF<|bY m,.k S,s7,s8,s9,cs]) ⟨_,rfl⟩ (λB' sB hk k x Y hx hp=>?_) λY hp=>?_
 .obtain ⟨cs,rfl⟩:=hp;obtain ⟨a,t,rfl⟩:=Mx.mp<|Mi hx;have Aa:=hA a t;obtain ⟨y,l,rfl⟩:∃y l,a=y::l:=by
   cases a with
   |nil=>exact absurd rfl Aa.ne
   |cons y l=>exact ⟨y,l,rfl⟩
  have hy:=ac _ t y Mc;refine dC (b:=aJ (y::l)) (λG U e=>bg.eq (fK (ck<|jl (d1:=y) (d2:=.str "less") (eO hy rfl).1 (eO hy (b:=.str "less") rfl).2 (bK (d:=y) gO (e.v rfl) aq) aK) λ_=>ck<|jl (d1:=y) (d2:=.str "unlike") (eO hy rfl).1 (eO hy (b:=.str "unlike") rfl).2 (bK (d:=y) gO (e.v rfl) aq) aK) rfl) (λg=>?_) λ_=>eQ<|dO ⟨_,rfl⟩
  have ht:fh [] (eE S (y::l))=true:=by
   rw [co _ t];obtain ⟨r0,u,v,e⟩:=(hI.gd _ t g).1;have hh:aB ((y::l).headD .av)=false:=Aa.hd;rw [e] at g hh⊢;rw [zm g hh];have:=OM.mp ct (y::l)<|Mq.mpr ⟨t,by rw [e];exact g⟩
   rw [<-this,e];congr 1;refine ML λx hx=>(kJ (jv eX) λq=>?_).symm;obtain ⟨c,c1,c2⟩:=b7 _ t x (by rw [e];exact hx) q;exact nv c1 c2 q
  exact dC (b:=false) (λG U e=>bg.eq (dB<|cH<|vD (d:=.bl true) ⟨eE S (y::l),[],rfl,C8 Aa.ne (ac _ t) bc λg=>(hI.gd _ t g).1,by rw [<-ht];rfl⟩<|wO (e.oZ (j:=6) (.inl rfl) Aa.ne (ac _ t) Aa.len<|e.v rfl)<|HR vv) rfl) (λz=>nomatch z) λ_=>eQ<|dO ⟨_,rfl⟩
 obtain ⟨cs,rfl⟩:=hp;dsimp only;have bd:=pS a3.sc a3.sc;exact eJ (d:=.bl true) (λG U e=>ae.eq (jl bd.1 bd.2 ((e.oZ (j:=6) (.inl rfl) b8 di.1 (MF di.2 Z1)<|e.v rfl).eq (by rw [cd]))<|V1 (d:=.tup I) e rfl rfl) Z8) q
end
end a5
namespace a5
open PySem L2 FL
section
variable {P:Program}{w:World}{K:PySem.W.Frag}{mg:Str->Option Value}{base:Heap}{f:Addr}{fd:FuncData}
def n9:bW ["atoms","body","bound","asker","blank","atom"] ["atoms","body"] (bb qI):=⟨rfl,rfl,rfl,Z9,rfl,Z9,Z9⟩
def GN (F:aF K "refuse_loose" "refuse_loose" qI f fd)(B:Bl mg)(m:aT P w K mg base 2 "askers_in" ["body"] (bv vn))(l:aT P w K mg base 2 "blanks_in" ["atom"] (bv oN)):bq P w K mg base bA 3 f fd ["atoms","body"] (bv wM):=by
 refine F.ok n9 (d7 (n:=2) λds d q0=>by obtain ⟨_,_,e,_⟩:=q0;rw [e];rfl) λbk A ao s H vs Q E hr h=>?_;obtain ⟨M,ds,d,lv,rs,⟨J,u,rfl,hx,bl,hb,a0,Y,rfl⟩,q⟩:=h;have hu:=dQ hr;have am:=fJ hr;refine ⟨_,(az (bj 2 n9.nd pT)
   (az (cI MD rfl (cr<|bB m hr<|ai (pv 1) ap) (bo 3 n9.nd)<|ay<|cI MD rfl (cr<|bB l hr<|ai (pv 3) ap) (bo 4 n9.nd)<|ay<|lq am (pv 2) (pv 4) cV rfl)
   (ay<|cI MD rfl (cr<|pv 0) (bo 5 n9.nd)<|ay<|cI MD rfl (cr<|bB l hr<|ai (pv 5) ap) (bo 4 n9.nd)<|ay<|bQ (jS<|pB (by exact am) (pv 4)<|pv 2) (ay vP) ce))),?_⟩
 have E0:=hX rs ["atoms","body","bound","asker","blank","atom"];refine wn (i:=2) lv E0 Z8 λp bs H1 o1 i1 n1 h1 l1 k1 E1=>?_;have a1:ab H H1:=λb o e=>(k1 b o e).2;have a2:H p=none:=none_of (ab.refl H) k1;let g:=u.filter λa=> !aJ a;have ac:∀a∈g,dF a:=λa ha=>hb a (Mq.mp ha).1;have a3:g.length<=3:=MF (MO _ _) a0;let O:Nat->ZY:=λj=>(g.take j).foldl (λB a=>(ak [] a).foldl ii B) [];refine gZ (M:=p::M) (ds:=g.map D.tup) (dH<|bM ⟨u,rfl,hb,by omega,rfl⟩<|aa (aI E1 rfl) ag) l1 λH2 L=>?_;refine ⟨λj c k=>c[2]?=some (some (.ref p))/\k p=some (.dK<|eh<|O j)/\(O j).length<=100*j/\ab H k/\au (p::M) k/\ab (but H2 (p::M)) (but k (p::M))/\ax (but k (p::M)) c [some<|cF J,some<|cb u,none,none,none,none],
  ⟨i1,L _ _ h1,Mh _,a1.trans L,l1.same L,ab.refl _,E1.same L⟩,λj c k q1=>by obtain ⟨_,_,_,_,x,y,_⟩:=q1;exact ⟨y,x⟩,?_,?_⟩
 .rintro j d x c k af T ⟨j1,hp,bd,S0,U,S',E'⟩ v rx
  obtain ⟨a,C,rfl⟩:∃a,g[j]?=some a/\d=.tup a:=by
   rw [Mo] at T;cases e:g[j]? with
   |none=>rw [e] at T;cases T
   |some y=>rw [e] at T;exact ⟨y,rfl,(Mu T).symm⟩
  have hj:j<g.length:=(Ma.mp C).1;have N:=ac a<|Mi C
  have E3:ax (but af (p::M)) (c.set 3<|some x) [some<|cF J,some<|cb u,none,some (.tup a),none,none]:=(E'.same v).set 3 rx;have b1:(c.set 3<|some x)[2]?=some (some (.ref p)):=(Me Z1).trans j1;have bt:(ak [] a).length<=100:=by
   have:=kj a [];have:=N.len;simp only [N6] at*
   omega
  have G:O (j+1)=(ak [] a).foldl ii (O j):=by
   show (g.take<|j+1).foldl _ []=_;rw [MX,C,Nx];rfl
  refine gZ (M:=p::M) (ds:=(ak [] a).map D.str) (dH<|bM ⟨a,rfl,N,rfl⟩<|aa (aI E3 rfl) ag) (U.same v) λH4 I=>?_;refine ⟨λi c k=>c[2]?=some (some (.ref p))/\k p=some (.dK<|eh<|((ak [] a).take i).foldl ii<|O j)/\ab H k/\au (p::M) k/\ab (but H4 (p::M)) (but k (p::M))/\ax (but k (p::M)) c [some<|cF J,some<|cb u,none,some (.tup a),none,none],
   ⟨b1,I _ _<|v _ _ hp,S0.trans<|v.trans I,(U.same v).same I,ab.refl _,E3.same I⟩,λj c k q2=>by obtain ⟨_,_,_,x,y,_⟩:=q2;exact ⟨y,x⟩,?_,?_⟩
  .rintro i d x2 t H5 H6 dz ⟨j2,r,S2,l2,S3,E2⟩ z aj
   obtain ⟨n,hn,rfl⟩:∃n,(ak [] a)[i]?=some n/\d=.str n:=by
    rw [Mo] at dz;cases e:(ak [] a)[i]? with
    |none=>rw [e] at dz;cases dz
    |some y=>rw [e] at dz;exact ⟨y,rfl,(Mu dz).symm⟩
   have E6:ax (but H6 (p::M)) (t.set 4<|some x2) [some<|cF J,some<|cb u,none,some (.tup a),some (.str n),none]:=(E2.same z).set 4 aj;have b2:(t.set 4<|some x2)[2]?=some (some (.ref p)):=(Me Z1).trans j2;have a4:=u6 ((ak [] a).take i)<|O j
   have bi:((ak [] a).take i).length<=100:=by rw [MT];omega
   refine A7 (n:=n) (l2.same z) E6 Z8 b2 (z _ _ r) Z4 (aI E6 rfl) (lS (b:=true)) λH7 k7 l7 h7 E7=>?_;have S7:ab (but H6 (p::M)) (but H7 (p::M)):=mJ Z8 k7;refine ⟨b2,?_,mN (S2.trans z) a2 k7,l7,S3.trans<|(z.but _).trans S7,E7.drop 4⟩;rw [MX,hn,Nx];exact h7
  .rintro t H5 ⟨j2,r,S2,l2,S3,E2⟩
   rw [Md,MQ<|Mh _] at r;have a4:=u6 (ak [] a)<|O j
   refine ⟨j2,by rw [G];exact r,by rw [G];omega,S2,l2,S'.trans ((v.trans I).but _|>.trans S3),E2.drop 3⟩
 .rintro c k ⟨j1,hp,_,S0,U,S',E'⟩
  rw [Md] at hp;have bc:O g.length=sI u:=by
   show (g.take g.length).foldl _ []=_;rw [MQ<|Mh _];rfl
  rw [bc] at hp;have Y:∀a∈J,∀n∈ak [] a,n∈sI u:=λa ha n hn=>by
   obtain ⟨b,h1,h2,h3⟩:=Y a ha n hn;exact zJ _ _ (.inr ⟨b,Mq.mpr ⟨h1,by rw [h2];rfl⟩,h3⟩)
  refine gZ (M:=p::M) (ds:=J.map D.tup) (dH<|aI E' rfl) U λH2 L=>?_;refine ⟨λj c k=>c[2]?=some (some (.ref p))/\k p=some (.dK<|eh<|sI u)/\ab H k/\au (p::M) k/\ab (but H2 (p::M)) (but k (p::M))/\ax (but k (p::M)) c [some<|cF J,some<|cb u,none,none,none,none],
   ⟨j1,L _ _ hp,S0.trans L,U.same L,ab.refl _,E'.same L⟩,λj c k q4=>by obtain ⟨_,_,_,x,y,_⟩:=q4;exact ⟨y,x⟩,?_,λc k q3=>by obtain ⟨_,_,S0,_⟩:=q3;exact q .av k S0 .av⟩
  rintro j d x c k af T ⟨j1,hp,S0,U,S',E'⟩ v rx;rw [Mo] at T;obtain ⟨a,C,rfl⟩:=M8.mp T;have an:=Mi C;have N:=hx a an;have E3:ax (but af (p::M)) (c.set 5<|some x) [some<|cF J,some<|cb u,none,none,none,some (.tup a)]:=(E'.same v).set 5 rx;have b1:(c.set 5<|some x)[2]?=some (some (.ref p)):=(Me Z1).trans j1;refine gZ (M:=p::M) (ds:=(ak [] a).map D.str) (dH<|bM ⟨a,rfl,N,rfl⟩<|aa (aI E3 rfl) ag) (U.same v) λH4 I=>?_;refine ⟨λi c k=>c[2]?=some (some (.ref p))/\k p=some (.dK<|eh<|sI u)/\ab H k/\au (p::M) k/\ab (but H4 (p::M)) (but k (p::M))/\ax (but k (p::M)) c [some<|cF J,some<|cb u,none,none,none,some (.tup a)],
   ⟨b1,I _ _<|v _ _ hp,S0.trans<|v.trans I,(U.same v).same I,ab.refl _,E3.same I⟩,λj c k q5=>by obtain ⟨_,_,_,x,y,_⟩:=q5;exact ⟨y,x⟩,?_,?_⟩
  .rintro i d x2 t H5 H6 dz ⟨j2,r,S2,l2,S3,E2⟩ z aj
   rw [Mo] at dz;obtain ⟨n,hn,rfl⟩:=M8.mp dz;have E6:ax (but H6 (p::M)) (t.set 4<|some x2) [some<|cF J,some<|cb u,none,none,some (.str n),some (.tup a)]:=(E2.same z).set 4 aj;have b2:(t.set 4<|some x2)[2]?=some (some (.ref p)):=(Me Z1).trans j2;have l6:=l2.same z;refine uZ l6 E6 (Ih b2 (z _ _ r) l6<|aI E6 rfl) (λe H7 s7 l7 E7=>?_) λe H7 s7 l7 E7=>?_
   .rw [My<|Y a an n<|Mi hn] at e
    cases e
   .exact nx ⟨b2,s7 _ _<|z _ _ r,S2.trans<|z.trans s7,l7,S3.trans<|(z.trans s7).but _,E7.drop 4⟩
  .rintro t H5 ⟨j2,r,S2,l2,S3,E2⟩
   exact ⟨j2,r,S2,l2,S'.trans ((v.trans I).but _|>.trans S3),E2.drop 5⟩
def ut:bW ["body","guards","guard","relation"] ["body"] (bb ug):=⟨rfl,rfl,rfl,Z9,rfl,Z9,Z9⟩
def HL (F:aF K "check_body" "check_body" ug f fd)(B:Bl mg)(k:aT P w K mg base 2 "guards_in" ["body"] (bv qf))(c:aT P w K mg base 3 "refuse_loose" ["atoms","body"] (bv wM)):bq P w K mg base bA 4 f fd ["body"] (bv Cs):=by
 refine F.ok ut (d7 (n:=1) λI d J=>by obtain ⟨_,e,_⟩:=J;rw [e];rfl) λL A p s H vs Q E r h=>?_;obtain ⟨M,I,d,N,O,⟨l,rfl,t,u,T,y,rfl⟩,q⟩:=h;have U:=dQ r;refine ⟨_,(az (bj 1 ut.nd<|bB k r<|ai (pv 0) ap)
   (az (cI MD rfl (cr<|pv 1) (bo 2 ut.nd) (ay (bQ (cp (fD (by exact U)) (cA B<|pv 2) aC) (az (bj 3 ut.nd<|aS (pv 2) aC)
   (ay vP)) ce)))
   (ay<|iT<|bB c r<|ai (pv 1)<|ai (pv 0) ap))),?_⟩
 have Y:Bx H M [] _ H [Sl.d<|cb l,.no,.no,.no]:=gr N O ["body","guards","guard","relation"];refine aX.run Y<|bw<|fM (i:=1) (d:=cF<|l.filter aJ) (λG o e=>bM ⟨l,rfl,t,by omega,rfl⟩<|aa (e.vd rfl) ag) ?_
 refine bw<|fH (i:=2) (ds:=(l.filter aJ).map D.tup) (c9.of λG o e=>dH<|e.vd rfl) (λj m=>∃s,m=[Sl.d<|cb l,.d<|cF<|l.filter aJ,s,.no]) ⟨_,rfl⟩ (λB' sB hk j x m hj C=>?_) λm C=>?_
 .obtain ⟨s,rfl⟩:=C;obtain ⟨g,hg,rfl⟩:=Mx.mp<|Mi hj;obtain ⟨g1,g2⟩:=Mq.mp hg;exact dC (b:=false) (λG o e=>bg.eq (ck<|iA (fA (K:=K)<|aa (e.v rfl) ag) aq) (by rw [T g g1 g2];rfl)) (λz=>nomatch z) λ_=>eQ<|dO ⟨_,rfl⟩
 .obtain ⟨s,rfl⟩:=C;dsimp only;exact uE (d:=.av) (λG o e=>bM ⟨_,l,rfl,λa ha=>t a (Mq.mp ha).1,MF (MO _ _) Z4,t,u,y,rfl⟩<|aa (e.v rfl)<|aa (e.v rfl) ag) λac o H' b=>q .av H' b.same .av
def tD:bW ["rule","head","body","relation"] ["rule"] (bb tO):=⟨rfl,rfl,rfl,Z9,rfl,Z9,Z9⟩
def DV (F:aF K "check_rule" "check_rule" tO f fd)(B:Bl mg)(j:aT P w K mg base 1 "is_guard" ["atom"] (bv rL))(c:aT P w K mg base 3 "refuse_loose" ["atoms","body"] (bv wM))(g:aT P w K mg base 4 "check_body" ["body"] (bv Cs)):bq P w K mg base bA 5 f fd ["rule"] (bv zE):=by
 refine F.ok tD (d7 (n:=1) λo d p=>by obtain ⟨_,e,_⟩:=p;rw [e];rfl) λt A m s H J Q E l h=>?_;obtain ⟨M,o,d,u,x,⟨r,rfl,S,rfl⟩,q⟩:=h;have L:=dQ l;refine ⟨_,(az (bj 1 tD.nd<|aS (pv 0) aC)
   (az (bj 2 tD.nd<|aS (pv 0) aC)
   (az (bQ (cG<|bB j l<|ai (pv 1) ap) (az (bj 3 tD.nd<|aS (pv 1) aC)
   (ay vP)) ce)
   (az (iT<|bB g l<|ai (pv 2) ap)
   (ay<|iT<|bB c l<|ai (cY<|ai (pv 1) ap)<|ai (pv 2) ap))))),?_⟩
 have y:Bx H M [] _ H [Sl.d<|aY r,.no,.no,.no]:=gr u x ["rule","head","body","relation"];refine aX.run y ?_;refine bw<|fM (i:=1) (d:=.tup r.1) (λG k e=>bK (ds:=[.tup r.1,cb r.2]) rfl (e.vd rfl) aq) ?_
 refine bw<|fM (i:=2) (d:=cb r.2) (λG k e=>bK (ds:=[.tup r.1,cb r.2]) rfl (e.vd rfl) aq) ?_
 refine gK (λG k e=>bg.eq (cH<|bM ⟨r.1,rfl,S.hd,rfl⟩<|aa (e.v rfl) ag) S.hg) ?_;refine bw<|uE (d:=.av) (λG k e=>bM ⟨r.2,rfl,S.ok,S.dI,S.g3,S.gb,rfl⟩<|aa (e.v rfl) ag) ?_
 exact uE (d:=.av) (λG k e=>bM ⟨[r.1],r.2,rfl,λa z=>by rw [MG.mp z];exact S.hd,Nat.le_of_ble_eq_true rfl,S.ok,S.dI,S.hb,rfl⟩<|aa (eP<|aa (e.v rfl) ag)<|aa (e.v rfl) ag) λC k I b=>q .av I b.same .av
def Di:bW ["found"] ["found"] (bb rV):=⟨rfl,rfl,rfl,Z9,rfl,Z9,Z9⟩
def Em (F:aF K "facts_of" "facts_of" rV f fd)(B:Bl mg):bq P w K mg base bA 1 f fd ["found"] (bv CZ):=by
 refine F.ok Di (d7 (n:=1) λb d c=>by obtain ⟨_,e,_⟩:=c;rw [e];rfl) λg A a s H t Q E u h=>?_;obtain ⟨M,b,d,i,j,⟨k,rfl,l,rfl⟩,q⟩:=h;refine ⟨_,(ay<|bm<|fm ["reason"] [] 1 (cr<|pv 0) (λ_ _ _ _ _=>(bo 0<|jR _)) (λ_ _ _ _ _=>je) λ_ _ _ _ _=>(jU (pv 0) aC)),?_⟩;have m:Bx H M [] _ H [Sl.d (.lst<|k.map cU)]:=gr i j ["found"];refine aX.run m ?_;refine eJ (λG y e=>ae.eq (e.comp (λ_=>true) (λd=>match d with|.tup (x::_)=>x|_=>.av) (dH<|e.v rfl) (λ_ _ _ _ _=>jw) (λz o d p _ r=>?_) (by rw [Md];exact cq l)) ?_) q
 .obtain ⟨x,_,rfl⟩:=Mx.mp p;exact bK (ds:=[.tup x.1,.int ((x.2.1:Nat):Int),.tup<|x.2.2.map λn=>D.int (n:Nat)]) (d:=.tup x.1) rfl (r.v rfl) aq
 .rw [Nc.mpr λ_ _=>rfl,MU]
  unfold aV;show _=D.lst _;rw [MU];rfl
end
end a5
namespace a5
open PySem L2 FL
section
variable {P:Program}{w:World}{K:PySem.W.Frag}{mg:Str->Option Value}{base:Heap}{f:Addr}{fd:FuncData}
def oG:bW ["rules","rule","weaving","found","latest"] ["rules"] (bb rn):=⟨rfl,rfl,rfl,Z9,rfl,Z9,Z9⟩
def Dz(F:aF K "reasons_by_round" "reasons_by_round" rn f fd)(B:Bl mg)(TW:qg K CW)(N:aT P w K mg base 5 "check_rule" ["rule"] (bv zE))(aj:jI P w K mg base 9 CW "Weaving" ["self","rules"] (BM C CL CW))(t:eB P w K mg base 6 CW "one_round" ["self","facts"] (xT C CL CW))(U:aT P w K mg base 1 "facts_of" ["found"] (bv CZ)):bq P w K mg base bA 11 f fd ["rules"] (jz sJ Bz):=by
 refine F.ok oG (tL (n:=1) λk q0=>by obtain ⟨_,_,e,_⟩:=q0;rw [e];rfl) λfv A ex s H0 vs Q E hr h=>?_;obtain ⟨M,k,ey,rs,⟨c1,a,rfl,hP,hR,ez⟩,q⟩:=h;have oR:=TW.cl;refine ⟨_,(az (cI MD rfl (cr<|pv 0) (bo 1 oG.nd)<|ay<|iT<|bB N hr<|ai (pv 1) ap)
   (az (bj 2 oG.nd<|wE aj hr<|ai (pv 0) ap)
   (az (bj 3 oG.nd<|cY ap)
   (az (bj 4 oG.nd<|j8 (pv 2) oR t hr<|ai (cY ap) ap)
   (az (zg MD (uJ (pv 4) λ_=>rfl) (az (iK (pv 3)<|pv 4)
   (ay<|bj 4 oG.nd<|j8 (pv 2) oR t hr<|ai (bB U hr<|ai (pv 4) ap) ap)))
   (ay<|bm<|pv 3)))))),?_⟩
 have b0:Bx H0 M [] _ H0 [Sl.d (.lst<|a.map aY),.no,.no,.no,.no]:=gr ey rs ["rules","rule","weaving","found","latest"];refine aX.run b0 ?_;refine bw<|fH (i:=1) (c9.of λG σ e=>dH<|e.vd rfl) (λj dp=>∃x,dp=[Sl.d (.lst<|a.map aY),x,.no,.no,.no]/\x.own=false) ⟨_,rfl,rfl⟩ (λB' sB hk j x dp hj hp=>?_) λdp hp=>?_
 .obtain ⟨s1,rfl,_⟩:=hp;obtain ⟨r,e0,rfl⟩:=Mx.mp<|Mi hj;exact uE (d:=.av) (λG σ e=>bM ⟨r,rfl,(hR.ok r e0).sound hP,rfl⟩<|aa (e.v rfl) ag)<|dO ⟨_,rfl,rfl⟩
 obtain ⟨x1,rfl,Y⟩:=hp;intro f0 σ H b;have b:=b.free λs hs=>by
  simp only [Mn,MR,M9] at hs;rcases hs with rfl|rfl|rfl|rfl|rfl
  .rfl
  .exact Y
  .rfl
  .rfl
  .rfl
 have S0:ab H0 H:=b.same;have lv:au M H:=b.live;have E0:ax (but H M) σ _:=b.jj;have e1:=E0.len;obtain ⟨v0,i0,r0⟩:=E0.get 0 (.lst<|a.map aY) rfl;dsimp only;refine ⟨v0,i0,λx dx hx e2 a1=>?_⟩;have S1:ab H (upd (upd H dx (.own x)) x (.ins CW dx [])):=λb u e=>by rw [aD<|dm e hx,aD<|dm e e2];exact e
 have back:∀{z:Addr},(upd (upd H dx (.own x)) x (.ins CW dx [])) z=none->H z=none:=λ{z} e=>ib S1 e;have Y:(upd (upd H dx (.own x)) x (.ins CW dx [])) x=some (.ins CW dx []):=aO;generalize upd (upd H dx (.own x)) x (.ins CW dx [])=H1 at S1 back Y;have eb:x∉M:=lv.fresh hx;refine ⟨M,a,x,dx,v0,rfl,Y,lv.same S1,eb,r0.mono<|S1.but M,λr hr=>(hR.ok r hr).Kc,ez,λll J us l H2 k2 ec ac c2 hn dt l2 b7=>⟨rfl,?_⟩⟩;have S2:ab H H2:=λb u e=>k2 b u (dm e hx)<|S1 _ _ e
 have ed:x∉J::(l.flatten++M):=λz=>by
  rcases Mn.mp z with w|w
  .rw [<-w,Y] at ac;cases ac
  .rcases MB.mp w with w|w
   .obtain ⟨os,p,O⟩:=M1.mp w;rw [(hn os p x O).1] at Y;cases Y
   .exact eb w
 have SZ:ab (but H M) (but H2 (J::(l.flatten++M))):=λb u e=>by
  obtain ⟨q1,q2⟩:=aw e;rw [bn]
  .exact S2 _ _ q2
  .intro z;rcases Mn.mp z with w|w
   .rw [w,back ac] at q2;cases q2
   .rcases MB.mp w with w|w
    .obtain ⟨os,p,O⟩:=M1.mp w;rw [back (hn os p b O).1] at q2;cases q2
    .exact q1 w
 have E2:ax (but H2 (J::(l.flatten++M))) (σ.set 2<|some (.ref x)) [some (.lst<|a.map aY),none,none,none,none]:=((E0.mono SZ).off 2 _).drop 1;have eg:(σ.set 2<|some (.ref x))[2]?=some (some (.ref x)):=Mr (by rw [e1];exact (show 2<5 by decide));have d0:but H2 (J::(l.flatten++M)) x=some (.ins CW dx<|mC v0 ll J):=by rw [bn ed];exact ec
 have a2:∀y∈M,y∈J::(l.flatten++M):=λy O=>L8 _<|Ml _ O
 have ei:∀os∈l,∀y∈os,H y=none:=λos p y O=>back (hn os p y O).1;have c3:H J=none:=back ac;have ej:∀os∈l,J∉os:=λos p z=>(hn os p J z).2 rfl;have am:J∈J::(l.flatten++M):=Mc;have d1:=r0.mono SZ;refine (show ow _ _ _ (σ.set 2<|some (.ref x)) H2 from ?_);generalize J::(l.flatten++M)=Z at dt l2 b7 E2 d0 a2 am d1;generalize σ.set 2 (some (.ref x))=f1 at E2 eg;clear ed SZ hn ac Y k2 ec;refine nZ (i:=3) l2 E2 Z8 ag (MI _) λI vF ek H3 o3 i3 n3 h3 r3 l3 k3 E3=>?_;have b8:ab H2 H3:=λx o e=>(k3 x o e).2;have bs:H2 I=none:=none_of (ab.refl H2) k3;have HF:H I=none:=ib S2 bs;have e3:vF=[]:=by cases r3;rfl
 subst e3;have S3:ab H H3:=S2.trans b8;have a3:ab (but H2 Z) (but H3 (I::Z)):=i6 bs b8;have el:ek[2]?=some (some (.ref x)):=(o3 2 Z1).trans eg;have c4:=b8 _ _ c2;have an:=b7.fL;have L3:dn C CL H3 (I::Z) us l (a.map λr=>bR r.2):=b7.frame (λos p y O=>L8 _<|an os p y O) (λb u _ e=>b8 _ _ e) a3;have em:∀os∈l,I∉os:=λos p z=>l2 I (an os p I z) bs;have cd:I≠J:=λz=>by rw [z,c2] at bs;cases bs
 have c5:∀y∈M,y∈I::Z:=λy O=>L8 _<|a2 y O
 have as:J∈I::Z:=L8 _ am;have bc:I∈I::Z:=Mc;have af:=a3 _ _ d0;have a0:=a3 _ _ dt;have ch:=d1.mono a3;generalize I::Z=Z3 at l3 E3 a3 L3 c5 as bc af a0 ch;clear b7 dt d0 l2 E2 an a2 am d1 a3;refine ⟨.ref x,el,x,dx,_,rfl,(aw af).2,rfl,aa (eP (ds:=[]) ag) ag Z3 H3 (ab.refl _) l3 _ λvs H4 T co=>?_⟩;obtain ⟨v1,rfl,r1⟩:=iF co;have bd:=T.but Z3;have dc:=L3.fL;refine ⟨Z3,x,dx,v0,ll,J,us,l,a,a.map λr=>bR r.2,[],[],v1,rfl,l3.same T,bd _ _ af,bd _ _ a0,L3.frame dc (λb u _ e=>T _ _ e) bd,as,ej,T _ _ c4,ch.mono bd,r1,Lo hP hR,λv H5 Z5 d2 k5 cs en l5 L5 n5 d3 r5=>?_⟩;have ep:ab (but H4 Z3) (but H5 Z5):=λb u e=>by
  obtain ⟨q1,q2⟩:=aw e;rw [bn λz=>(en b z).elim q1 λw=>by rw [w] at q2;cases q2];exact k5 b u (λz=>q1 (by rw [z];exact as)) (λos p z=>q1<|dc os p b z) q2
 have bt:=bd.trans ep;have bx:H5 I=some (.lst []):=k5 I _ cd em<|T _ _ h3
 have S5:ab H H5:=λb u e=>k5 b u (λz=>by rw [z,c3] at e;cases e) (λos p z=>by rw [ei os p b z] at e;cases e)<|T _ _<|S3 _ _ e
 have e5:ab H H4:=S3.trans T;rw [LZ] at L5;have E5:ax (but H5 Z5) (ek.set 4<|some v) [some (.lst<|a.map aY),none,none,none,none]:=(E3.mono bt).off 4 _;have e6:=E3.len;rw [Jq,show du [] []=[] from rfl] at d3 r5;refine ⟨λm bi X=>∃(k:List (List bD)) (Z:ZX) (l:List ZX) (v4:V) (uF:List V),fQ c1 a k/\m=200-(aG k).length/\bi[2]?=some (some (.ref x))/\bi[3]?=some (some (.ref I))/\bi[4]?=some (some v4)/\but X Z x=some (.ins CW dx<|mC v0 ll J)/\but X Z ll=some (.lst us)/\dn C CL X Z us l (gF a k)/\J∈Z/\(∀os∈l,J∉os/\I∉os/\∀y∈os,H y=none)/\X J=some (.dT<|cE<|aG k++aV (bf 0 (cD a<|aG k)<|aG k))/\al (but X Z) v0 (.lst<|a.map aY)/\I∈Z/\X I=some (.lst uF)/\aE (but X Z) uF (lO k)/\al (but X Z) v4 (.lst<|(bf 0 (cD a<|aG k)<|aG k).map cU)/\au Z X/\(∀y∈M,y∈Z)/\ab H X/\ax (but X Z) bi [some (.lst<|a.map aY),none,none,none,none],
  ⟨_,[],Z5,d2,v,[],fQ.nil,rfl,(Me Z1).trans el,(Me Z1).trans i3,Mr (by rw [e6];exact (show 4<5 by decide)),bt _ _ af,bt _ _ a0,L5,cs _ as,λos p=>?_,d3,ch.mono bt,cs _ bc,bx,.nil,r5,l5,λy O=>cs _<|c5 y O,S5,E5⟩,?_⟩
 .refine ⟨λz=>?_,λz=>?_,λy O=>?_⟩
  .rcases n5 os p J z with ⟨o,h1,h2⟩|w
   .exact ej o h1 h2
   .rw [T _ _ c4] at w;cases w
  .rcases n5 os p I z with ⟨o,h1,h2⟩|w
   .exact em o h1 h2
   .rw [T _ _ h3] at w;cases w
  .rcases n5 os p y O with ⟨o,h1,h2⟩|w
   .exact ei o h1 y h2
   .exact ib e5 w
 clear E5 L5 d3 r5 l5 bx S5 bt ep n5 k5 cs en L3 E3 ch a0 af bd;rintro m bi X ⟨k,Z,l,v4,uF,b6,rfl,j2,j3,j4,eq,er,LX,am,ao,ct,rz,bc,d4,rF,r4,lX,a2,SX,EX⟩;obtain ⟨a4,u4,rfl,h4,co⟩:=r4.dX;have e4:(!u4.isEmpty)= !(bf 0 (cD a<|aG k)<|aG k).isEmpty:=by
  have:=co.length;rw [Md] at this;cases u4<;>cases hc:bf 0 (cD a<|aG k) (aG k)<;>rw [hc] at this<;>simp at this⊢
 refine ⟨.ref a4,j4, !u4.isEmpty,.inl ⟨u4,aN.of (aw h4).2,rfl⟩,?_⟩;rw [e4];by_cases a1:bf 0 (cD a<|aG k) (aG k)=[]
 .refine Eq.mpr (Mj (c:=(!(bf 0 (cD a<|aG k)<|aG k).isEmpty)=true) (by rw [a1];simp)) ?_
  exact ⟨.ref I,j3,q (.lst<|lO k) _ X ⟨c1,a,k,rfl,rfl,hP,hR,b6,a1⟩ (S0.trans SX) (.lst (by rw [bn λz=>lv I z HF];exact d4)<|rF.mono<|eA a2)⟩
 have L:=b6.snoc hR a1;have fs:=nQ hP L.nd L.hd;have ft:0<(bf 0 (cD a<|aG k)<|aG k).length:=List.length_pos_iff.mpr a1;have e7:=xI hP hR L;have e8:=CA hR L;have fa:=LI a k<|bf 0 (cD a<|aG k)<|aG k
 refine Eq.mpr (Mp (c:=(!(bf 0 (cD a<|aG k)<|aG k).isEmpty)=true) (by rw [<-e4];cases u4 with|nil=>(exact absurd (by have:=co.length;rw [Md] at this;exact NT this.symm) a1)|cons _ _=>rfl)) ?_;have eT:aG k++aV (bf 0 (cD a<|aG k)<|aG k)=aG (k++[bf 0 (cD a<|aG k)<|aG k]):=by rw [jd,jO]
 rw [eT] at ct;have f2:(aG<|k++[bf 0 (cD a<|aG k)<|aG k]).length=(aG k).length+(bf 0 (cD a<|aG k)<|aG k).length:=by rw [<-eT,Mv];unfold aV;rw [Md]
 have f3:(aV<|bf 0 (cD a<|aG k)<|aG k)=aV (bf 0 (cD a<|aG k)<|aG k):=rfl;have es:∀g∈aV (bf 0 (cD a<|aG k)<|aG k),g∈aG (k++[bf 0 (cD a<|aG k)<|aG k]):=λg hg=>by rw [<-eT];exact Ml _ hg
 have f4:k.length<=(aG k).length:=D7 b6;generalize bf 0 (cD a<|aG k) (aG k)=bk at*
 have et:ax (but X Z) bi [some (.lst<|a.map aY),none,none,none,some (.lst<|bk.map cU)]:=Hd EX j4 r4;refine ⟨_,λ_ _ h=>h,?_⟩;refine qZ (d:=.lst<|bk.map cU) lX et bc j3 d4 rF (by unfold lO;rw [Md];exact cq Z4) (aI (i:=4) et rfl) λv5 X5 k5 l5 bx eu E5=>?_;have an:=LX.fL;have S5:ab (but X Z) (but X5 Z):=λb u e=>by
  obtain ⟨q1,q2⟩:=aw e;rw [bn q1];exact k5 b u (λz=>q1 (by rw [z];exact bc)) q2
 have fl:ab H X5:=λb u e=>k5 b u (λz=>by rw [z,HF] at e;cases e)<|SX _ _ e
 have cd:J≠I:=λz=>by rw [z,d4] at ct;cases ct
 have dd:=k5 J _ cd ct;have fn:dn C CL X5 Z us l (gF a k):=LX.frame an (λb u q3 e=>by obtain ⟨os,p,hb⟩:=q3;exact k5 b u (λz=>(ao os p).2.1 (by rw [<-z];exact hb)) e) S5;have di:=S5 _ _ eq;dsimp only;refine ⟨.ref x,j2,x,dx,_,rfl,(aw di).2,rfl,aa (bM (d:=cF<|aV bk) ⟨bk,rfl,by omega,rfl⟩<|aa (aI (i:=4) E5 rfl) ag) ag Z X5 (ab.refl _) l5 _ λvs X6 s6 fp=>?_⟩;obtain ⟨v1,rfl,r1⟩:=iF fp;have bl:=s6.but Z;refine ⟨Z,x,dx,v0,ll,J,us,l,a,gF a k,_,aV bk,v1,rfl,l5.same s6,bl _ _ di,bl _ _<|S5 _ _ er,fn.frame an (λb u _ e=>s6 _ _ e) bl,am,λos p=>(ao os p).1,s6 _ _ dd,(rz.mono S5).mono bl,r1,e7,λv X7 Z7 d5 k7 ea fr l7 L7 n7 ev r7=>?_⟩;rw [uS _ _ es,e8] at ev r7;rw [fa] at L7;have ew:ab (but X6 Z) (but X7 Z7):=λb u e=>by
  obtain ⟨q1,q2⟩:=aw e;rw [bn λz=>(fr b z).elim q1 λw=>by rw [w] at q2;cases q2];exact k7 b u (λz=>q1 (by rw [z];exact am)) (λos p z=>q1<|an os p b z) q2
 have c0:=S5.trans<|bl.trans ew
 have K6:ab H X6:=fl.trans s6;refine ⟨_,?_,k++[bk],Z7,d5,v,_,L,rfl,(Me Z1).trans j2,(Me Z1).trans j3,Mr (by rw [EX.len];exact (show 4<5 by decide)),c0 _ _ eq,c0 _ _ er,L7,ea _ am,λos p=>?_,ev,rz.mono c0,ea _ bc,k7 I _ (M6 cd) (λos p=>(ao os p).2.1)<|s6 _ _ bx,?_,r7,l7,λy O=>ea _<|a2 y O,λb u e=>?_,(EX.mono c0).off 4 _⟩
 .omega
 .refine ⟨λz=>?_,λz=>?_,λy O=>?_⟩
  .rcases n7 os p J z with ⟨o,h1,h2⟩|w
   .exact (ao o h1).1 h2
   .rw [s6 _ _ dd] at w;cases w
  .rcases n7 os p I z with ⟨o,h1,h2⟩|w
   .exact (ao o h1).2.1 h2
   .rw [s6 _ _ bx] at w;cases w
  .rcases n7 os p y O with ⟨o,h1,h2⟩|w
   .exact (ao o h1).2.2 y h2
   .exact ib K6 w
 .unfold lO at eu⊢;rw [MK];exact eu.mono<|bl.trans ew
 .exact k7 b u (λz=>by rw [z,c3] at e;cases e) (λos p z=>by rw [(ao os p).2.2 b z] at e;cases e)<|K6 _ _ e
def vq:bW ["rules","every","found"] ["rules"] (bb sK):=⟨rfl,rfl,rfl,Z9,rfl,Z9,Z9⟩
def Lw (F:aF K "reasons" "reasons" sK f fd)(c:aT P w K mg base 11 "reasons_by_round" ["rules"] (jz sJ Bz)):bq P w K mg base bA 12 f fd ["rules"] (jz sJ xN):=by
 refine F.ok vq (tL (n:=1) λds q0=>by obtain ⟨_,_,e,_⟩:=q0;rw [e];rfl) λac A C s H vs Q E hr h=>?_;obtain ⟨M,ds,lv,rs,⟨y,k,rfl,hP,hR,I⟩,q⟩:=h;refine ⟨_,(az (bj 1 vq.nd<|cY ap)
   (az (cI MD rfl (cr<|bB c hr<|ai (pv 0) ap) (bo 2 vq.nd)<|ay<|iT<|qV NX Ov O2 u3 (pv 1)<|ai (pv 2) ap)
   (ay<|bm<|pv 1))),?_⟩
 have b0:Bx H M [] _ H [Sl.d (.lst<|k.map aY),.no,.no]:=gr lv rs ["rules","every","found"];refine aX.run b0<|bw<|ql (i:=1) ?_
 intro m J H1 b;refine .inl ?_;unfold jh iY;refine aa (b.jj.vd (i:=0) rfl) ag (m++M) H1 (ab.refl _) b.gI _ λvs H2 u L=>⟨m++M,_,b.gI.same u,by rw [MP];exact L,⟨y,k,rfl,hP,hR,I⟩,λd v z hd s3 N=>?_⟩
 obtain ⟨p,o,g,e1,rfl,B⟩:=hd;have Y:(aG g).length<=110:=nQ B.pk B.run.nd B.run.hd;have b3:=b.grow<|u.trans s3;have sub:=b3.sub;have N:al (but (but z m) M) v (.lst<|lO g):=by
  have:but (but z m) M=but z (m++M):=by
   funext a;unfold FL.but;by_cases z1:a∈m<;>by_cases z2:a∈M<;>simp [z1,z2]
  rw [this];exact N
 refine (show lw (jh K<|tK v) (cx 2) _ _ J z from ?_);refine aX.run b3.base<|fH (i:=2) (c9.known N) (λj t=>∃u,t=[Sl.d (.lst<|k.map aY),.l<|(g.take j).flatten.map cU,u]) ⟨_,rfl⟩ (λB' sB hk j x t O T=>?_) λt T=>?_
 .obtain ⟨u,rfl⟩:=T;unfold lO at O;rw [Mo] at O;obtain ⟨r,U,rfl⟩:=M8.mp O;have ej:g.take (j+1)=g.take j++[r]:=by rw [MX,U];rfl
  refine GS (j:=1) (ys:=r.map cU) rfl (λG J e=>e.vd rfl) ?_ (dO ⟨.d (.lst<|r.map cU),?_⟩)
  .have h1:((g.take<|j+1).flatten).length<=g.flatten.length:=by
    conv=>rhs;rw [<-N8 (j+1) g,Nn,Mv]
    exact Nb _ _
   have h2:(aG g).length=g.flatten.length:=by unfold aG aV;rw [Md]
   rw [ej,Nn,Mv,Nd,NO,MP] at h1;rw [Md,Md];exact ND<|cq Z4
  .rw [ej,Nn,MK,Nd,NO,MP]
   rfl
 .obtain ⟨u,rfl⟩:=T;unfold lO;rw [Md,NL];exact eJ (λG J e=>e.v rfl) λv H' s' r'=>q (.lst<|g.flatten.map cU) v H' ⟨p,o,g,e1,rfl,B⟩ (sub.trans s') r'
end
end a5
namespace FL
open PySem L2
section
variable {P:Program}{w:World}{K:PySem.W.Frag}{mg:Str->Option Value}{base h:Heap}{x q:Str}{st:Stmt}{f C:Addr}{fd:FuncData}{oc kV dc pm cd ct:Value}{od an:Option Addr}{sl:Array (Option Value)}{n:Nat}{ps:List Str}{sp:Sp}{p1 p2 p3 p4 p5:Str}
def cS (X:K.In h)(G:h.Ns mainGlobals mg)(a:W.nsIn K mainGlobals x=some (some (.ref f)))(l:K.lookup f=some ⟨oc,od,.func (W.fnOf x x (dS st) (dE st) (bb st) .none kV dc pm an cd ct),sl⟩)(c:W.codeIn K cd x=true)(k:W.keepIn K (.ref f)=true):∃f d,aF K x x st f d/\mg x=some (.ref f):=⟨f,_,xA l c k,PH X G a⟩
def im (a:W.findIn K (.ref C) x=some (some (.ref f)))(i:W.isFn K (.ref f)=true)(l:K.lookup f=some ⟨oc,od,.func (W.fnOf x q (dS st) (dE st) (bb st) .none kV dc pm an cd ct),sl⟩)(c:W.codeIn K cd q=true)(k:W.keepIn K (.ref f)=true):∃f d,aF K x q st f d/\dh K C x f:=⟨f,_,xA l c k,⟨a,i,k⟩⟩
def vN (X:K.In h)(G:h.Ns mainGlobals mg)(n:W.nsIn K mainGlobals x=some (some (.ref C)))(a:W.plainGet K C Str.empty=true)(b:W.hasDictIn K C=true)(c:W.plainOver K C=true)(d:W.findIn K (.ref C) "__setattr__"=some (some (.builtin "object.__setattr__")))(e:W.makesIn K C=true)(g:W.keepIn K (.ref C)=true):mg x=some (.ref C)/\dq K C/\W.makesIn K C=true/\W.keepIn K (.ref C)=true:=⟨PH X G n,⟨a,b,c,d⟩,e,g⟩
def aT.of (h:bq P w K mg base bA n f fd ps sp)(b:Binds K fd ps [])(k:W.keepIn K (.ref f)=true)(m:mg x=some (.ref f)):aT P w K mg base n x ps sp:=⟨⟨f,fd,h,b,k,m⟩⟩
def eB.of (h:bq P w K mg base bA n f fd ps sp)(b:Binds K fd ps [])(m:dh K C x f):eB P w K mg base n C x ps sp:=⟨⟨f,fd,h,b,m⟩⟩
def jI.of (h:bq P w K mg base bA n f fd ps sp)(b:Binds K fd ps [])(m:dh K C "__init__" f)(c:mg x=some (.ref C)/\dq K C/\W.makesIn K C=true/\W.keepIn K (.ref C)=true):jI P w K mg base n C x ps sp:=⟨⟨f,fd,h,b,⟨c.2.2.1,m.at_,m.fn,c.2.2.2⟩,c.1⟩⟩
def b1 (F:aF K x q st f fd)(h:∀(kV b pm:Value) (an:Option Addr) (c ct a:Value),bindArgs (W.fnOf x q (dS st) (dE st) (bb st) .none kV b pm an c ct) ⟨[a],[]⟩=pure [(p1,a)]):Binds K fd [p1] []:=F.binds λkV d pm an e ct g i=>match g,i with|[a],_=>h kV d pm an e ct a
def b2 (F:aF K x q st f fd)(h:∀(kV c pm:Value) (an:Option Addr) (d ct a b:Value),bindArgs (W.fnOf x q (dS st) (dE st) (bb st) .none kV c pm an d ct) ⟨[a,b],[]⟩=pure [(p1,a),(p2,b)]):Binds K fd [p1,p2] []:=F.binds λkV e pm an g ct i j=>match i,j with|[a,b],_=>h kV e pm an g ct a b
def b3 (F:aF K x q st f fd)(h:∀(kV d pm:Value) (an:Option Addr) (e ct a b c:Value),bindArgs (W.fnOf x q (dS st) (dE st) (bb st) .none kV d pm an e ct) ⟨[a,b,c],[]⟩=pure [(p1,a),(p2,b),(p3,c)]):Binds K fd [p1,p2,p3] []:=F.binds λkV g pm an i ct j k=>match j,k with|[a,b,c],_=>h kV g pm an i ct a b c
def b4 (F:aF K x q st f fd)(h:∀(kV e pm:Value) (an:Option Addr) (g ct a b c d:Value),bindArgs (W.fnOf x q (dS st) (dE st) (bb st) .none kV e pm an g ct) ⟨[a,b,c,d],[]⟩=pure [(p1,a),(p2,b),(p3,c),(p4,d)]):Binds K fd [p1,p2,p3,p4] []:=F.binds λkV i pm an j ct k l=>match k,l with|[a,b,c,d],_=>h kV i pm an j ct a b c d
def b5 (F:aF K x q st f fd)(h:∀(kV g pm:Value) (an:Option Addr) (i ct a b c d e:Value),bindArgs (W.fnOf x q (dS st) (dE st) (bb st) .none kV g pm an i ct) ⟨[a,b,c,d,e],[]⟩=pure [(p1,a),(p2,b),(p3,c),(p4,d),(p5,e)]):Binds K fd [p1,p2,p3,p4,p5] []:=F.binds λkV j pm an k ct l m=>match l,m with|[a,b,c,d,e],_=>h kV j pm an k ct a b c d e
end
end FL
namespace a5
open PySem L2 FL
def JZ{K:W.Frag}(X:K.In h)(G:h.Ns mainGlobals a)(u:W.nsIn K mainGlobals "LESS"=some (some (.str "less" t))):∃t,a "LESS"=some (.str "less" t):=⟨t,PH X G u⟩
def DT{K:W.Frag}(X:K.In h)(G:h.Ns mainGlobals a)(u:W.nsIn K mainGlobals "UNLIKE"=some (some (.str "unlike" t))):∃t,a "UNLIKE"=some (.str "unlike" t):=⟨t,PH X G u⟩
def D4{K:W.Frag}(X:K.In h)(G:h.Ns mainGlobals a)(z:W.nsIn K mainGlobals "max"=some none):a "max"=none:=M4 X G z
section
variable {l:PySem.W.OpenLaw}{w:World}{K:PySem.W.Frag}{h base:Heap}{mg:Str->Option Value}{A_Step A_Loom A_Weaving f_is_blank f_filled f_matched f_is_guard f_blanks_in f_holds f_askers_in f_guards_in f_slots_of f_is_ready f_steps_for f_refuse_loose f_check_body f_check_rule f_facts_of f_reasons_by_round f_reasons f_law_at f_law_whole f_law_mixed f_law_is_fact f_law_blanks_in f_law_places_fit f_law_stands_ahead f_law_pool_by f_law_fill_in f_law_true f_law_menu_by f_law_rules_by f_law_choices f_law_follows f_law_alike f_law_stays f_law_closed f_Step_init f_Step_offer f_Step_allows f_Step_carry_on f_Loom_init f_Loom_take_in f_Loom_beginnings f_Loom_is_whole f_Loom_carried_on f_Weaving_given_by f_Weaving_one_round f_Weaving_init:Addr}{d_is_blank d_filled d_matched d_is_guard d_blanks_in d_holds d_askers_in d_guards_in d_slots_of d_is_ready d_steps_for d_refuse_loose d_check_body d_check_rule d_facts_of d_reasons_by_round d_reasons d_law_at d_law_whole d_law_mixed d_law_is_fact d_law_blanks_in d_law_places_fit d_law_stands_ahead d_law_pool_by d_law_fill_in d_law_true d_law_menu_by d_law_rules_by d_law_choices d_law_follows d_law_alike d_law_stays d_law_closed d_Step_init d_Step_offer d_Step_allows d_Step_carry_on d_Loom_init d_Loom_take_in d_Loom_beginnings d_Loom_is_whole d_Loom_carried_on d_Weaving_given_by d_Weaving_one_round d_Weaving_init fd:FuncData}{fa:Addr}{t_LESS t_UNLIKE:Tok}
def all_mk (B:Bl mg)(e4:aF K "law" "law" mQ fa fd)
 (U:aF K "is_blank" "is_blank" ua f_is_blank d_is_blank/\mg "is_blank"=some (.ref f_is_blank))
 (bi:aF K "filled" "filled" rR f_filled d_filled/\mg "filled"=some (.ref f_filled))
 (ao:aF K "matched" "matched" rA f_matched d_matched/\mg "matched"=some (.ref f_matched))
 (Y:aF K "is_guard" "is_guard" qW f_is_guard d_is_guard/\mg "is_guard"=some (.ref f_is_guard))
 (G:aF K "blanks_in" "blanks_in" sk f_blanks_in d_blanks_in/\mg "blanks_in"=some (.ref f_blanks_in))
 (b0:aF K "holds" "holds" s_holds f_holds d_holds/\mg "holds"=some (.ref f_holds))
 (H:aF K "askers_in" "askers_in" ux f_askers_in d_askers_in/\mg "askers_in"=some (.ref f_askers_in))
 (I:aF K "guards_in" "guards_in" sx f_guards_in d_guards_in/\mg "guards_in"=some (.ref f_guards_in))
 (ac:aF K "slots_of" "slots_of" tI f_slots_of d_slots_of/\mg "slots_of"=some (.ref f_slots_of))
 (af:aF K "is_ready" "is_ready" tq f_is_ready d_is_ready/\mg "is_ready"=some (.ref f_is_ready))
 (J:aF K "steps_for" "steps_for" sj f_steps_for d_steps_for/\mg "steps_for"=some (.ref f_steps_for))
 (g:aF K "refuse_loose" "refuse_loose" qI f_refuse_loose d_refuse_loose/\mg "refuse_loose"=some (.ref f_refuse_loose))
 (x:aF K "check_body" "check_body" ug f_check_body d_check_body/\mg "check_body"=some (.ref f_check_body))
 (y:aF K "check_rule" "check_rule" tO f_check_rule d_check_rule/\mg "check_rule"=some (.ref f_check_rule))
 (aj:aF K "facts_of" "facts_of" rV f_facts_of d_facts_of/\mg "facts_of"=some (.ref f_facts_of))
 (a:aF K "reasons_by_round" "reasons_by_round" rn f_reasons_by_round d_reasons_by_round/\mg "reasons_by_round"=some (.ref f_reasons_by_round))
 (as:aF K "reasons" "reasons" sK f_reasons d_reasons/\mg "reasons"=some (.ref f_reasons))
 (bk:aF K "_law_at" "_law_at" sr f_law_at d_law_at/\mg "_law_at"=some (.ref f_law_at))
 (L:aF K "_law_whole" "_law_whole" sv f_law_whole d_law_whole/\mg "_law_whole"=some (.ref f_law_whole))
 (M:aF K "_law_mixed" "_law_mixed" ud f_law_mixed d_law_mixed/\mg "_law_mixed"=some (.ref f_law_mixed))
 (m:aF K "_law_is_fact" "_law_is_fact" uy f_law_is_fact d_law_is_fact/\mg "_law_is_fact"=some (.ref f_law_is_fact))
 (e:aF K "_law_blanks_in" "_law_blanks_in" uh f_law_blanks_in d_law_blanks_in/\mg "_law_blanks_in"=some (.ref f_law_blanks_in))
 (c:aF K "_law_places_fit" "_law_places_fit" sP f_law_places_fit d_law_places_fit/\mg "_law_places_fit"=some (.ref f_law_places_fit))
 (b:aF K "_law_stands_ahead" "_law_stands_ahead" rB f_law_stands_ahead d_law_stands_ahead/\mg "_law_stands_ahead"=some (.ref f_law_stands_ahead))
 (n:aF K "_law_pool_by" "_law_pool_by" uG f_law_pool_by d_law_pool_by/\mg "_law_pool_by"=some (.ref f_law_pool_by))
 (o:aF K "_law_fill_in" "_law_fill_in" qU f_law_fill_in d_law_fill_in/\mg "_law_fill_in"=some (.ref f_law_fill_in))
 (am:aF K "_law_true" "_law_true" tf f_law_true d_law_true/\mg "_law_true"=some (.ref f_law_true))
 (p:aF K "_law_menu_by" "_law_menu_by" uB f_law_menu_by d_law_menu_by/\mg "_law_menu_by"=some (.ref f_law_menu_by))
 (i:aF K "_law_rules_by" "_law_rules_by" qT f_law_rules_by d_law_rules_by/\mg "_law_rules_by"=some (.ref f_law_rules_by))
 (q:aF K "_law_choices" "_law_choices" uu f_law_choices d_law_choices/\mg "_law_choices"=some (.ref f_law_choices))
 (r:aF K "_law_follows" "_law_follows" rZ f_law_follows d_law_follows/\mg "_law_follows"=some (.ref f_law_follows))
 (N:aF K "_law_alike" "_law_alike" uz f_law_alike d_law_alike/\mg "_law_alike"=some (.ref f_law_alike))
 (O:aF K "_law_stays" "_law_stays" tG f_law_stays d_law_stays/\mg "_law_stays"=some (.ref f_law_stays))
 (z:aF K "_law_closed" "_law_closed" rG f_law_closed d_law_closed/\mg "_law_closed"=some (.ref f_law_closed))
 (a0:aF K "__init__" "Step.__init__" mX f_Step_init d_Step_init/\dh K A_Step "__init__" f_Step_init)
 (an:aF K "offer" "Step.offer" mZ f_Step_offer d_Step_offer/\dh K A_Step "offer" f_Step_offer)
 (Q:aF K "allows" "Step.allows" nC f_Step_allows d_Step_allows/\dh K A_Step "allows" f_Step_allows)
 (u:aF K "carry_on" "Step.carry_on" mh f_Step_carry_on d_Step_carry_on/\dh K A_Step "carry_on" f_Step_carry_on)
 (a1:aF K "__init__" "Loom.__init__" md f_Loom_init d_Loom_init/\dh K A_Loom "__init__" f_Loom_init)
 (A:aF K "take_in" "Loom.take_in" nz f_Loom_take_in d_Loom_take_in/\dh K A_Loom "take_in" f_Loom_take_in)
 (j:aF K "beginnings" "Loom.beginnings" mI f_Loom_beginnings d_Loom_beginnings/\dh K A_Loom "beginnings" f_Loom_beginnings)
 (v:aF K "is_whole" "Loom.is_whole" mr f_Loom_is_whole d_Loom_is_whole/\dh K A_Loom "is_whole" f_Loom_is_whole)
 (k:aF K "carried_on" "Loom.carried_on" mH f_Loom_carried_on d_Loom_carried_on/\dh K A_Loom "carried_on" f_Loom_carried_on)
 (f:aF K "given_by" "Weaving.given_by" nc f_Weaving_given_by d_Weaving_given_by/\dh K A_Weaving "given_by" f_Weaving_given_by)
 (d:aF K "one_round" "Weaving.one_round" my f_Weaving_one_round d_Weaving_one_round/\dh K A_Weaving "one_round" f_Weaving_one_round)
 (E:aF K "__init__" "Weaving.__init__" mK f_Weaving_init d_Weaving_init/\dh K A_Weaving "__init__" f_Weaving_init)
 (en:mg "Step"=some (.ref A_Step)/\dq K A_Step/\W.makesIn K A_Step=true/\W.keepIn K (.ref A_Step)=true) (ez:bS K A_Step "asker") (eq:bS K A_Step "shared") (er:bS K A_Step "guards") (es:bS K A_Step "offers") (et:bS K A_Step "newest")
 (ep:mg "Loom"=some (.ref A_Loom)/\dq K A_Loom/\W.makesIn K A_Loom=true/\W.keepIn K (.ref A_Loom)=true) (eu:bS K A_Loom "steps") (c3:bS K A_Loom "is_barred") (dt:bS K A_Loom "taken_in") (ev:bS K A_Loom "fresh") (bs:bS K A_Loom "last_fresh_step")
 (cs:mg "Weaving"=some (.ref A_Weaving)/\dq K A_Weaving/\W.makesIn K A_Weaving=true/\W.keepIn K (.ref A_Weaving)=true) (ew:bS K A_Weaving "rules") (ex:bS K A_Weaving "looms") (e0:bS K A_Weaving "told")
 (dx:mg "LESS"=some (.str "less" t_LESS))
 (bl:mg "UNLIKE"=some (.str "unlike" t_UNLIKE))
 (ei:mg "max"=none)
 :bq l.prog w K mg base bA 13 fa fd ["_law_script"] (sf K):=by
 have T:ln K A_Step:=⟨en.2.1,ez,eq,er,es,et⟩
 have TL:lJ K A_Loom:=⟨ep.2.1,eu,c3,dt,ev,bs⟩
 have TW:qg K A_Weaving:=⟨cs.2.1,ew,ex,e0⟩
 have dx:=And.intro dx (show RelV (.str "less") (.str "less" t_LESS) from ⟨_,rfl⟩);have bl:=And.intro bl (show RelV (.str "unlike") (.str "unlike" t_UNLIKE) from ⟨_,rfl⟩);have cd:aT l.prog w K mg base _ "is_blank" _ _:=.of (Fo U.1 B) (b1 U.1 λ_ _ _ _ _ _ _=>rfl) U.1.kp U.2;have dp:aT l.prog w K mg base _ "filled" _ _:=.of (Ke bi.1 B) (b2 bi.1 λ_ _ _ _ _ _ _ _=>rfl) bi.1.kp bi.2;have ej:aT l.prog w K mg base _ "matched" _ _:=.of (F3 ao.1 B cd) (b3 ao.1 λ_ _ _ _ _ _ _ _ _=>rfl) ao.1.kp ao.2;have a4:aT l.prog w K mg base _ "is_guard" _ _:=.of (LO Y.1 B dx bl) (b1 Y.1 λ_ _ _ _ _ _ _=>rfl) Y.1.kp Y.2;have s:aT l.prog w K mg base _ "blanks_in" _ _:=.of (G4 G.1 B cd) (b1 G.1 λ_ _ _ _ _ _ _=>rfl) G.1.kp G.2;have d5:aT l.prog w K mg base _ "holds" _ _:=.of (ok_holds b0.1 B bl) (b1 b0.1 λ_ _ _ _ _ _ _=>rfl) b0.1.kp b0.2;have b6:aT l.prog w K mg base _ "askers_in" _ _:=.of (JD H.1 B a4) (b1 H.1 λ_ _ _ _ _ _ _=>rfl) H.1.kp H.2;have a2:aT l.prog w K mg base _ "guards_in" _ _:=.of (GI I.1 B a4) (b1 I.1 λ_ _ _ _ _ _ _=>rfl) I.1.kp I.2;have ch:aT l.prog w K mg base _ "slots_of" _ _:=.of (Fg ac.1 B s) (b2 ac.1 λ_ _ _ _ _ _ _ _=>rfl) ac.1.kp ac.2;have ea:aT l.prog w K mg base _ "is_ready" _ _:=.of (Ku af.1 B s ch) (b2 af.1 λ_ _ _ _ _ _ _ _=>rfl) af.1.kp af.2;have e2:jI l.prog w K mg base _ A_Step "Step" _ _:=.of (Gp a0.1 T (C:=A_Step)) (b4 a0.1 λ_ _ _ _ _ _ _ _ _ _=>rfl) a0.2 en;have e1:eB l.prog w K mg base _ A_Step "offer" _ _:=.of (Hu an.1 T B ej (C:=A_Step)) (b3 an.1 λ_ _ _ _ _ _ _ _ _=>rfl) an.2;have ey:eB l.prog w K mg base _ A_Step "allows" _ _:=.of (Js Q.1 T B dp d5 (C:=A_Step)) (b2 Q.1 λ_ _ _ _ _ _ _ _=>rfl) Q.2;have eb:eB l.prog w K mg base _ A_Step "carry_on" _ _:=.of (F6 u.1 T B ey (C:=A_Step)) (b3 u.1 λ_ _ _ _ _ _ _ _ _=>rfl) u.2;have d0:aT l.prog w K mg base _ "steps_for" _ _:=.of (Et J.1 B a2 b6 s ch ea e2 (C:=A_Step)) (b1 J.1 λ_ _ _ _ _ _ _=>rfl) J.1.kp J.2;have e3:jI l.prog w K mg base _ A_Loom "Loom" _ _:=.of (Gv a1.1 TL B a2 s d5 d0 (C:=A_Step) (CL:=A_Loom)) (b2 a1.1 λ_ _ _ _ _ _ _ _=>rfl) a1.2 ep;have ek:eB l.prog w K mg base _ A_Loom "take_in" _ _:=.of (KG A.1 T TL B ei e1 (C:=A_Step) (CL:=A_Loom)) (b2 A.1 λ_ _ _ _ _ _ _ _=>rfl) A.2;have c4:eB l.prog w K mg base _ A_Loom "beginnings" _ _:=.of (GG j.1 T TL B (C:=A_Step) (CL:=A_Loom)) (b1 j.1 λ_ _ _ _ _ _ _=>rfl) j.2;have ec:eB l.prog w K mg base _ A_Loom "is_whole" _ _:=.of (Ib v.1 TL B (C:=A_Step) (CL:=A_Loom)) (b2 v.1 λ_ _ _ _ _ _ _ _=>rfl) v.2;have c5:eB l.prog w K mg base _ A_Loom "carried_on" _ _:=.of (Hf k.1 T TL B ei eb (C:=A_Step) (CL:=A_Loom)) (b2 k.1 λ_ _ _ _ _ _ _ _=>rfl) k.2;have ed:eB l.prog w K mg base _ A_Weaving "given_by" _ _:=.of (Fu f.1 TL TW B dp c4 ec c5 (C:=A_Step) (CL:=A_Loom) (CW:=A_Weaving)) (b3 f.1 λ_ _ _ _ _ _ _ _ _=>rfl) f.2;have d1:eB l.prog w K mg base _ A_Weaving "one_round" _ _:=.of (Du d.1 TL TW B ek ed (C:=A_Step) (CL:=A_Loom) (CW:=A_Weaving)) (b2 d.1 λ_ _ _ _ _ _ _ _=>rfl) d.2;have el:jI l.prog w K mg base _ A_Weaving "Weaving" _ _:=.of (DR E.1 TW e3 (C:=A_Step) (CL:=A_Loom) (CW:=A_Weaving)) (b2 E.1 λ_ _ _ _ _ _ _ _=>rfl) E.2 cs;have a3:aT l.prog w K mg base _ "refuse_loose" _ _:=.of (GN g.1 B b6 s) (b2 g.1 λ_ _ _ _ _ _ _ _=>rfl) g.1.kp g.2;have dc:aT l.prog w K mg base _ "check_body" _ _:=.of (HL x.1 B a2 a3) (b1 x.1 λ_ _ _ _ _ _ _=>rfl) x.1.kp x.2;have dd:aT l.prog w K mg base _ "check_rule" _ _:=.of (DV y.1 B a4 a3 dc) (b1 y.1 λ_ _ _ _ _ _ _=>rfl) y.1.kp y.2;have eg:aT l.prog w K mg base _ "facts_of" _ _:=.of (Em aj.1 B) (b1 aj.1 λ_ _ _ _ _ _ _=>rfl) aj.1.kp aj.2;have bt:aT l.prog w K mg base _ "reasons_by_round" _ _:=.of (Dz a.1 B TW dd el d1 eg (C:=A_Step) (CL:=A_Loom) (CW:=A_Weaving)) (b1 a.1 λ_ _ _ _ _ _ _=>rfl) a.1.kp a.2;have em:aT l.prog w K mg base _ "reasons" _ _:=.of (Lw as.1 bt) (b1 as.1 λ_ _ _ _ _ _ _=>rfl) as.1.kp as.2;have ds:aT l.prog w K mg base _ "_law_at" _ _:=.of (HV bk.1 B) (b2 bk.1 λ_ _ _ _ _ _ _ _=>rfl) bk.1.kp bk.2;have t:aT l.prog w K mg base _ "_law_whole" _ _:=.of (KW L.1 B) (b1 L.1 λ_ _ _ _ _ _ _=>rfl) L.1.kp L.2;have d2:aT l.prog w K mg base _ "_law_mixed" _ _:=.of (Im M.1 B) (b1 M.1 λ_ _ _ _ _ _ _=>rfl) M.1.kp M.2;have ct:aT l.prog w K mg base _ "_law_is_fact" _ _:=.of (KU m.1 B t) (b1 m.1 λ_ _ _ _ _ _ _=>rfl) m.1.kp m.2;have b8:aT l.prog w K mg base _ "_law_blanks_in" _ _:=.of (J7 e.1 B) (b1 e.1 λ_ _ _ _ _ _ _=>rfl) e.1.kp e.2;have b7:aT l.prog w K mg base _ "_law_places_fit" _ _:=.of (GZ c.1 B t) (b3 c.1 λ_ _ _ _ _ _ _ _ _=>rfl) c.1.kp c.2;have bx:aT l.prog w K mg base _ "_law_stands_ahead" _ _:=.of (K8 b.1 B) (b2 b.1 λ_ _ _ _ _ _ _ _=>rfl) b.1.kp b.2;have bc:aT l.prog w K mg base _ "_law_pool_by" _ _:=.of (Kx n.1 B ds) (b1 n.1 λ_ _ _ _ _ _ _=>rfl) n.1.kp n.2;have bd:aT l.prog w K mg base _ "_law_fill_in" _ _:=.of (Iq o.1 B) (b2 o.1 λ_ _ _ _ _ _ _ _=>rfl) o.1.kp o.2;have cl:aT l.prog w K mg base _ "_law_true" _ _:=.of (ER am.1 B t) (b2 am.1 λ_ _ _ _ _ _ _ _=>rfl) am.1.kp am.2;have c0:aT l.prog w K mg base _ "_law_menu_by" _ _:=.of (Gc p.1 B) (b5 p.1 λ_ _ _ _ _ _ _ _ _ _ _=>rfl) p.1.kp p.2;have co:aT l.prog w K mg base _ "_law_rules_by" _ _:=.of (DX i.1 B ds bc c0) (b1 i.1 λ_ _ _ _ _ _ _=>rfl) i.1.kp i.2;have c1:aT l.prog w K mg base _ "_law_choices" _ _:=.of (EF q.1 B) (b2 q.1 λ_ _ _ _ _ _ _ _=>rfl) q.1.kp q.2;have c2:aT l.prog w K mg base _ "_law_follows" _ _:=.of (FN r.1 B ct t b7 bd cl) (b3 r.1 λ_ _ _ _ _ _ _ _ _=>rfl) r.1.kp r.2;have d3:aT l.prog w K mg base _ "_law_alike" _ _:=.of (ED N.1 B t) (b2 N.1 λ_ _ _ _ _ _ _ _=>rfl) N.1.kp N.2;have d4:aT l.prog w K mg base _ "_law_stays" _ _:=.of (Ds O.1 B d3) (b2 O.1 λ_ _ _ _ _ _ _ _=>rfl) O.1.kp O.2;have di:aT l.prog w K mg base _ "_law_closed" _ _:=.of (Lr z.1 B c1 b8 cl bd) (b3 z.1 λ_ _ _ _ _ _ _ _ _=>rfl) z.1.kp z.2;exact Kz e4 B ei d2 bc co em d4 c2 bx di
end
def mE{K:W.Frag}(X:K.In h)(G:h.Ns mainGlobals mg)
 (n:W.nsIn K mainGlobals "Step"=some (some (.ref C))) (pg:W.plainGet K C Str.empty=true) (hd:W.hasDictIn K C=true) (po:W.plainOver K C=true) (sa:W.findIn K (.ref C) "__setattr__"=some (some (.builtin "object.__setattr__"))) (mk:W.makesIn K C=true) (kc:W.keepIn K (.ref C)=true)
 (g:W.findIn K (.ref C) "asker"=some none)
 (a:W.findIn K (.ref C) "shared"=some none)
 (b:W.findIn K (.ref C) "guards"=some none)
 (c:W.findIn K (.ref C) "offers"=some none)
 (e:W.findIn K (.ref C) "newest"=some none)
 (a0:W.findIn K (.ref C) "__init__"=some (some (.ref m))) (i0:W.isFn K (.ref m)=true) (l0:K.lookup m=some ⟨r,w,.func (W.fnOf "__init__" "Step.__init__" (dS mX) (dE mX) (bb mX) .none s t u x i v),y⟩) (c0:W.codeIn K i "Step.__init__"=true) (k0:W.keepIn K (.ref m)=true)
 (a1:W.findIn K (.ref C) "offer"=some (some (.ref o))) (i1:W.isFn K (.ref o)=true) (l1:K.lookup o=some ⟨z,I,.func (W.fnOf "offer" "Step.offer" (dS mZ) (dE mZ) (bb mZ) .none A B E J j H),L⟩) (c1:W.codeIn K j "Step.offer"=true) (k1:W.keepIn K (.ref o)=true)
 (a2:W.findIn K (.ref C) "allows"=some (some (.ref p))) (i2:W.isFn K (.ref p)=true) (l2:K.lookup p=some ⟨M,U,.func (W.fnOf "allows" "Step.allows" (dS nC) (dE nC) (bb nC) .none N O Q Y k T),ac⟩) (c2:W.codeIn K k "Step.allows"=true) (k2:W.keepIn K (.ref p)=true)
 (a3:W.findIn K (.ref C) "carry_on"=some (some (.ref q))) (i3:W.isFn K (.ref q)=true) (l3:K.lookup q=some ⟨af,as,.func (W.fnOf "carry_on" "Step.carry_on" (dS mh) (dE mh) (bb mh) .none aj am an a4 l ao),bc⟩) (c3:W.codeIn K l "Step.carry_on"=true) (k3:W.keepIn K (.ref q)=true)
 :∃C,(mg "Step"=some (.ref C)/\dq K C/\W.makesIn K C=true/\W.keepIn K (.ref C)=true)/\bS K C "asker"/\bS K C "shared"/\bS K C "guards"/\bS K C "offers"/\bS K C "newest"/\(∃f d,aF K "__init__" "Step.__init__" mX f d/\dh K C "__init__" f)/\(∃f d,aF K "offer" "Step.offer" mZ f d/\dh K C "offer" f)/\(∃f d,aF K "allows" "Step.allows" nC f d/\dh K C "allows" f)/\(∃f d,aF K "carry_on" "Step.carry_on" mh f d/\dh K C "carry_on" f):=
 ⟨C,vN X G n pg hd po sa mk kc,g,a,b,c,e,im a0 i0 l0 c0 k0,im a1 i1 l1 c1 k1,im a2 i2 l2 c2 k2,im a3 i3 l3 c3 k3⟩
def nl{K:W.Frag}(X:K.In h)(G:h.Ns mainGlobals mg)
 (n:W.nsIn K mainGlobals "Loom"=some (some (.ref C))) (pg:W.plainGet K C Str.empty=true) (hd:W.hasDictIn K C=true) (po:W.plainOver K C=true) (sa:W.findIn K (.ref C) "__setattr__"=some (some (.builtin "object.__setattr__"))) (mk:W.makesIn K C=true) (kc:W.keepIn K (.ref C)=true)
 (e:W.findIn K (.ref C) "steps"=some none)
 (b:W.findIn K (.ref C) "is_barred"=some none)
 (c:W.findIn K (.ref C) "taken_in"=some none)
 (g:W.findIn K (.ref C) "fresh"=some none)
 (a:W.findIn K (.ref C) "last_fresh_step"=some none)
 (a0:W.findIn K (.ref C) "__init__"=some (some (.ref o))) (i0:W.isFn K (.ref o)=true) (l0:K.lookup o=some ⟨t,y,.func (W.fnOf "__init__" "Loom.__init__" (dS md) (dE md) (bb md) .none u v w z i x),A⟩) (c0:W.codeIn K i "Loom.__init__"=true) (k0:W.keepIn K (.ref o)=true)
 (a1:W.findIn K (.ref C) "take_in"=some (some (.ref p))) (i1:W.isFn K (.ref p)=true) (l1:K.lookup p=some ⟨B,L,.func (W.fnOf "take_in" "Loom.take_in" (dS nz) (dE nz) (bb nz) .none E H I M j J),N⟩) (c1:W.codeIn K j "Loom.take_in"=true) (k1:W.keepIn K (.ref p)=true)
 (a2:W.findIn K (.ref C) "beginnings"=some (some (.ref q))) (i2:W.isFn K (.ref q)=true) (l2:K.lookup q=some ⟨O,ac,.func (W.fnOf "beginnings" "Loom.beginnings" (dS mI) (dE mI) (bb mI) .none Q T U af k Y),aj⟩) (c2:W.codeIn K k "Loom.beginnings"=true) (k2:W.keepIn K (.ref q)=true)
 (a3:W.findIn K (.ref C) "is_whole"=some (some (.ref r))) (i3:W.isFn K (.ref r)=true) (l3:K.lookup r=some ⟨am,bd,.func (W.fnOf "is_whole" "Loom.is_whole" (dS mr) (dE mr) (bb mr) .none an ao as bi l bc),bk⟩) (c3:W.codeIn K l "Loom.is_whole"=true) (k3:W.keepIn K (.ref r)=true)
 (a4:W.findIn K (.ref C) "carried_on"=some (some (.ref s))) (i4:W.isFn K (.ref s)=true) (l4:K.lookup s=some ⟨bl,b6,.func (W.fnOf "carried_on" "Loom.carried_on" (dS mH) (dE mH) (bb mH) .none bs bt bx b7 m b0),b8⟩) (c4:W.codeIn K m "Loom.carried_on"=true) (k4:W.keepIn K (.ref s)=true)
 :∃C,(mg "Loom"=some (.ref C)/\dq K C/\W.makesIn K C=true/\W.keepIn K (.ref C)=true)/\bS K C "steps"/\bS K C "is_barred"/\bS K C "taken_in"/\bS K C "fresh"/\bS K C "last_fresh_step"/\(∃f d,aF K "__init__" "Loom.__init__" md f d/\dh K C "__init__" f)/\(∃f d,aF K "take_in" "Loom.take_in" nz f d/\dh K C "take_in" f)/\(∃f d,aF K "beginnings" "Loom.beginnings" mI f d/\dh K C "beginnings" f)/\(∃f d,aF K "is_whole" "Loom.is_whole" mr f d/\dh K C "is_whole" f)/\(∃f d,aF K "carried_on" "Loom.carried_on" mH f d/\dh K C "carried_on" f):=
 ⟨C,vN X G n pg hd po sa mk kc,e,b,c,g,a,im a0 i0 l0 c0 k0,im a1 i1 l1 c1 k1,im a2 i2 l2 c2 k2,im a3 i3 l3 c3 k3,im a4 i4 l4 c4 k4⟩
def oR{K:W.Frag}(X:K.In h)(G:h.Ns mainGlobals T)
 (n:W.nsIn K mainGlobals "Weaving"=some (some (.ref C))) (U:W.plainGet K C Str.empty=true) (Y:W.hasDictIn K C=true) (po:W.plainOver K C=true) (sa:W.findIn K (.ref C) "__setattr__"=some (some (.builtin "object.__setattr__"))) (mk:W.makesIn K C=true) (kc:W.keepIn K (.ref C)=true)
 (a:W.findIn K (.ref C) "rules"=some none)
 (b:W.findIn K (.ref C) "looms"=some none)
 (c:W.findIn K (.ref C) "told"=some none)
 (a0:W.findIn K (.ref C) "given_by"=some (some (.ref j))) (i0:W.isFn K (.ref j)=true) (l0:K.lookup j=some ⟨m,s,.func (W.fnOf "given_by" "Weaving.given_by" (dS nc) (dE nc) (bb nc) .none o p q t e r),u⟩) (c0:W.codeIn K e "Weaving.given_by"=true) (k0:W.keepIn K (.ref j)=true)
 (a1:W.findIn K (.ref C) "one_round"=some (some (.ref k))) (i1:W.isFn K (.ref k)=true) (l1:K.lookup k=some ⟨v,A,.func (W.fnOf "one_round" "Weaving.one_round" (dS my) (dE my) (bb my) .none w x y B g z),E⟩) (c1:W.codeIn K g "Weaving.one_round"=true) (k1:W.keepIn K (.ref k)=true)
 (a2:W.findIn K (.ref C) "__init__"=some (some (.ref l))) (i2:W.isFn K (.ref l)=true) (l2:K.lookup l=some ⟨H,N,.func (W.fnOf "__init__" "Weaving.__init__" (dS mK) (dE mK) (bb mK) .none I J L O i M),Q⟩) (c2:W.codeIn K i "Weaving.__init__"=true) (k2:W.keepIn K (.ref l)=true)
 :∃C,(T "Weaving"=some (.ref C)/\dq K C/\W.makesIn K C=true/\W.keepIn K (.ref C)=true)/\bS K C "rules"/\bS K C "looms"/\bS K C "told"/\(∃f d,aF K "given_by" "Weaving.given_by" nc f d/\dh K C "given_by" f)/\(∃f d,aF K "one_round" "Weaving.one_round" my f d/\dh K C "one_round" f)/\(∃f d,aF K "__init__" "Weaving.__init__" mK f d/\dh K C "__init__" f):=
 ⟨C,vN X G n U Y po sa mk kc,a,b,c,im a0 i0 l0 c0 k0,im a1 i1 l1 c1 k1,im a2 i2 l2 c2 k2⟩
def Ki{K:W.Frag}{kV:Value}(X:K.In h)(G:h.Ns mainGlobals d)(b:d "law"=some (.ref g))(a:W.nsIn K mainGlobals "law"=some (some (.ref f)))(l:K.lookup f=some ⟨m,q,.func (W.fnOf "law" "law" (dS mQ) (dE mQ) (bb mQ) .none kV n o r i p),t⟩)(c:W.codeIn K i "law"=true)(k:W.keepIn K (.ref f)=true):∃j:FuncData,(∀(s:Shared) (v:Value),BindsTo s j ⟨[v],[]⟩ [("_law_script",v)])/\aF K "law" "law" mQ g j:=by
 have e:=b.symm.trans<|PH X G a
 cases e;exact ⟨_,λs v=>.of_eq rfl,xA l c k⟩
def Ls{K:W.Frag}(X:K.In h)(G:h.Ns mainGlobals o)(j:W.nsIn K mainGlobals "len"=some none)(a:W.nsIn K mainGlobals "isinstance"=some none)(d:W.nsIn K mainGlobals "range"=some none)(k:W.nsIn K mainGlobals "int"=some none)(l:W.nsIn K mainGlobals "str"=some none)(f:W.nsIn K mainGlobals "bool"=some none)(g:W.nsIn K mainGlobals "list"=some none)(e:W.nsIn K mainGlobals "tuple"=some none)(i:W.nsIn K mainGlobals "dict"=some none)(m:W.nsIn K mainGlobals "zip"=some none)(b:W.nsIn K mainGlobals "enumerate"=some none)(n:W.nsIn K mainGlobals "all"=some none)(c:W.nsIn K mainGlobals "reversed"=some none):Bl o:=⟨M4 X G j,M4 X G a,M4 X G d,M4 X G k,M4 X G l,M4 X G f,M4 X G g,M4 X G e,M4 X G i,M4 X G m,M4 X G b,M4 X G n,M4 X G c⟩
def walk {l:W.OpenLaw}{q:Program}{loose:ZY}{XP:(ZU)->Heap->Prop}{YP:World->Heap->Prop}{d:DefRec}{K:Params->W.Frag}(hn:l.most=some 63)(hdf:d.params.defaults=[])
  (hY:∀(w:World) (h:Heap),YP w h->(K w.params).In h)
  (F:∀(w:World) (mg:ZU) (fa:Addr) (h:Heap),(K w.params).In h->h.Ns mainGlobals mg->mg d.name=some (.ref fa)->
   ∃fd:FuncData,(∀(s:Shared) (u:Value),BindsTo s fd ⟨[u],[]⟩ [("_law_script",u)])/\∀base:Heap,(K w.params).In base->base.Ns mainGlobals mg->bq l.prog w (K w.params) mg base bA 13 fa fd ["_law_script"] (sf (K w.params))):
  W.WalkO q loose XP YP l.row.toRowW d [] (λf vs=>PySem.call f vs):=
 L2.Jy (n:=63) (k:=13) (x:="_law_script") (CX:=λ_=>bA) (sp:=λw=>sf (K w.params)) hn Z1 hdf ⟨rfl,by decide,by decide⟩ hY F (λ_ _ a ns hl _ hS=>⟨a,ns,rfl,hS,hl,λ_=>rfl⟩) λ_ _ _ _ _ z=>z
end a5
/-! no twins of the heaps: these names are taken, so the library goes on with the plain heaps (and the file stays small) -/
def PySem.W.Fast.tw208362846510257715 : Unit := ()
def PySem.W.Fast.tw15484460068355931765 : Unit := ()
def PySem.W.Fast.tw18306545392157848364 : Unit := ()
def PySem.W.Fast.tw8078179081205707274 : Unit := ()
def PySem.W.Fast.tw13668159830180609862 : Unit := ()
def PySem.W.Fast.tw10476239983963095964 : Unit := ()
def PySem.W.Fast.tw14774444068423080581 : Unit := ()
def PySem.W.Fast.tw10673635467288666152 : Unit := ()
def PySem.W.Fast.tw13247424127097757409 : Unit := ()
def PySem.W.Fast.tw17715596694866434612 : Unit := ()
def PySem.W.Fast.tw3390249578641683424 : Unit := ()
def PySem.W.Fast.tw3908668981056764243 : Unit := ()
def PySem.W.Fast.tw9535743615876793488 : Unit := ()
def PySem.W.Fast.tw9989104096386627732 : Unit := ()
def PySem.W.Fast.tw15056241870777029957 : Unit := ()
def PySem.W.Fast.tw1688474425996206101 : Unit := ()
def PySem.W.Fast.tw12059127297086873670 : Unit := ()
def PySem.W.Fast.tw9866819701124845086 : Unit := ()
def PySem.W.Fast.tw11259981744227679239 : Unit := ()
def PySem.W.Fast.tw7627702511174695071 : Unit := ()
def PySem.W.Fast.tw15348088720234648042 : Unit := ()
def PySem.W.Fast.tw15213836196629835129 : Unit := ()
def PySem.W.Fast.tw9147477759701255445 : Unit := ()
def PySem.W.Fast.tw11886991694181529282 : Unit := ()
def PySem.W.Fast.tw2406183690101814435 : Unit := ()
def PySem.W.Fast.tw7485776407191348162 : Unit := ()
def PySem.W.Fast.tw766701579891857860 : Unit := ()
def PySem.W.Fast.tw2272187773032052287 : Unit := ()
def PySem.W.Fast.tw3621815828355104878 : Unit := ()
def PySem.W.Fast.tw13711445233921563935 : Unit := ()
def PySem.W.Fast.tw7095071335424328212 : Unit := ()
def PySem.W.Fast.tw12171622598187962414 : Unit := ()
def PySem.W.Fast.tw8562926145089419078 : Unit := ()
def PySem.W.Fast.tw2534864234062435731 : Unit := ()
def PySem.W.Fast.tw2758360032972507827 : Unit := ()
def PySem.W.Fast.tw14839898978585226648 : Unit := ()
def PySem.W.Fast.tw8417512044028696085 : Unit := ()
def PySem.W.Fast.tw7672449082936725538 : Unit := ()
def PySem.W.Fast.tw6801827607818585960 : Unit := ()
def PySem.W.Fast.tw7555048471842812520 : Unit := ()
def PySem.W.Fast.tw7507995499986991462 : Unit := ()
def PySem.W.Fast.tw8419725201019300822 : Unit := ()
def PySem.W.Fast.tw731086835638579462 : Unit := ()
def PySem.W.Fast.tw6964288016651552684 : Unit := ()
def PySem.W.Fast.tw12174928535524444456 : Unit := ()
def PySem.W.Fast.tw4592241973302556574 : Unit := ()
def PySem.W.Fast.tw18260142716085866262 : Unit := ()
def PySem.W.Fast.tw11220960117987118481 : Unit := ()
def PySem.W.Fast.tw5899993031940296729 : Unit := ()
def PySem.W.Fast.tw18296775512561188605 : Unit := ()
def PySem.W.Fast.tw578859438628948406 : Unit := ()
def PySem.W.Fast.tw13374965715989351154 : Unit := ()
def PySem.W.Fast.tw5740857367914778980 : Unit := ()
def PySem.W.Fast.tw17471260971386553680 : Unit := ()
def PySem.W.Fast.tw1366737981641445129 : Unit := ()
def PySem.W.Fast.tw5656955313513206299 : Unit := ()
def PySem.W.Fast.tw4213745337845452272 : Unit := ()
def PySem.W.Fast.tw8105189501590686716 : Unit := ()
def PySem.W.Fast.tw4864430849362082224 : Unit := ()
def PySem.W.Fast.tw8839781178252196073 : Unit := ()
def PySem.W.Fast.tw8605077138205661788 : Unit := ()
def PySem.W.Fast.tw4466358829260920956 : Unit := ()
def PySem.W.Fast.tw5175290477461034017 : Unit := ()
def PySem.W.Fast.tw9148612202056409625 : Unit := ()
def PySem.W.Fast.tw3401190090222385480 : Unit := ()
def PySem.W.Fast.tw13051059099125610019 : Unit := ()
def PySem.W.Fast.tw912910031013481315 : Unit := ()
def PySem.W.Fast.tw15864077133310624948 : Unit := ()
def PySem.W.Fast.tw164565135068892527 : Unit := ()
def PySem.W.Fast.tw7793702070369157217 : Unit := ()
def PySem.W.Fast.tw16142274609982422602 : Unit := ()
def PySem.W.Fast.tw11615427674894194373 : Unit := ()
def PySem.W.Fast.tw13766259733916049703 : Unit := ()
def PySem.W.Fast.tw17148519529802854642 : Unit := ()
def PySem.W.Fast.tw6221948397718964547 : Unit := ()
def PySem.W.Fast.tw17520177725767450292 : Unit := ()
def PySem.W.Fast.tw3808630077912975096 : Unit := ()
open PySem PySem.W PyProof.Rows
set_option maxRecDepth 100000 in
set_option maxHeartbeats 0 in
theorem PySem.Challenge.cw_factloom_k07_whole_told_and_no_more_holds : PySem.Challenge.rw_factloom_k07_whole_told_and_no_more.Holds := by
  w_on; o_law; k_head; (case hw => w_witness2)
  k_fill
  refine a5.walk (l := PySem.Challenge.rw_factloom_k07_whole_told_and_no_more) rfl rfl (fun w h Y => PySem.W.kIn_of Y) ?F
  case F =>
    intro w mg fa h KX G hmg
    have F_is_blank := FL.cS (x := "is_blank") (st := a5.ua) KX G (by k_is) (by k_is) (by k_is) (by k_is)
    have F_filled := FL.cS (x := "filled") (st := a5.rR) KX G (by k_is) (by k_is) (by k_is) (by k_is)
    have F_matched := FL.cS (x := "matched") (st := a5.rA) KX G (by k_is) (by k_is) (by k_is) (by k_is)
    have F_is_guard := FL.cS (x := "is_guard") (st := a5.qW) KX G (by k_is) (by k_is) (by k_is) (by k_is)
    have F_blanks_in := FL.cS (x := "blanks_in") (st := a5.sk) KX G (by k_is) (by k_is) (by k_is) (by k_is)
    have F_holds := FL.cS (x := "holds") (st := a5.s_holds) KX G (by k_is) (by k_is) (by k_is) (by k_is)
    have F_askers_in := FL.cS (x := "askers_in") (st := a5.ux) KX G (by k_is) (by k_is) (by k_is) (by k_is)
    have F_guards_in := FL.cS (x := "guards_in") (st := a5.sx) KX G (by k_is) (by k_is) (by k_is) (by k_is)
    have F_slots_of := FL.cS (x := "slots_of") (st := a5.tI) KX G (by k_is) (by k_is) (by k_is) (by k_is)
    have F_is_ready := FL.cS (x := "is_ready") (st := a5.tq) KX G (by k_is) (by k_is) (by k_is) (by k_is)
    have F_steps_for := FL.cS (x := "steps_for") (st := a5.sj) KX G (by k_is) (by k_is) (by k_is) (by k_is)
    have F_refuse_loose := FL.cS (x := "refuse_loose") (st := a5.qI) KX G (by k_is) (by k_is) (by k_is) (by k_is)
    have F_check_body := FL.cS (x := "check_body") (st := a5.ug) KX G (by k_is) (by k_is) (by k_is) (by k_is)
    have F_check_rule := FL.cS (x := "check_rule") (st := a5.tO) KX G (by k_is) (by k_is) (by k_is) (by k_is)
    have F_facts_of := FL.cS (x := "facts_of") (st := a5.rV) KX G (by k_is) (by k_is) (by k_is) (by k_is)
    have F_reasons_by_round := FL.cS (x := "reasons_by_round") (st := a5.rn) KX G (by k_is) (by k_is) (by k_is) (by k_is)
    have F_reasons := FL.cS (x := "reasons") (st := a5.sK) KX G (by k_is) (by k_is) (by k_is) (by k_is)
    have F_law_at := FL.cS (x := "_law_at") (st := a5.sr) KX G (by k_is) (by k_is) (by k_is) (by k_is)
    have F_law_whole := FL.cS (x := "_law_whole") (st := a5.sv) KX G (by k_is) (by k_is) (by k_is) (by k_is)
    have F_law_mixed := FL.cS (x := "_law_mixed") (st := a5.ud) KX G (by k_is) (by k_is) (by k_is) (by k_is)
    have F_law_is_fact := FL.cS (x := "_law_is_fact") (st := a5.uy) KX G (by k_is) (by k_is) (by k_is) (by k_is)
    have F_law_blanks_in := FL.cS (x := "_law_blanks_in") (st := a5.uh) KX G (by k_is) (by k_is) (by k_is) (by k_is)
    have F_law_places_fit := FL.cS (x := "_law_places_fit") (st := a5.sP) KX G (by k_is) (by k_is) (by k_is) (by k_is)
    have F_law_stands_ahead := FL.cS (x := "_law_stands_ahead") (st := a5.rB) KX G (by k_is) (by k_is) (by k_is) (by k_is)
    have F_law_pool_by := FL.cS (x := "_law_pool_by") (st := a5.uG) KX G (by k_is) (by k_is) (by k_is) (by k_is)
    have F_law_fill_in := FL.cS (x := "_law_fill_in") (st := a5.qU) KX G (by k_is) (by k_is) (by k_is) (by k_is)
    have F_law_true := FL.cS (x := "_law_true") (st := a5.tf) KX G (by k_is) (by k_is) (by k_is) (by k_is)
    have F_law_menu_by := FL.cS (x := "_law_menu_by") (st := a5.uB) KX G (by k_is) (by k_is) (by k_is) (by k_is)
    have F_law_rules_by := FL.cS (x := "_law_rules_by") (st := a5.qT) KX G (by k_is) (by k_is) (by k_is) (by k_is)
    have F_law_choices := FL.cS (x := "_law_choices") (st := a5.uu) KX G (by k_is) (by k_is) (by k_is) (by k_is)
    have F_law_follows := FL.cS (x := "_law_follows") (st := a5.rZ) KX G (by k_is) (by k_is) (by k_is) (by k_is)
    have F_law_alike := FL.cS (x := "_law_alike") (st := a5.uz) KX G (by k_is) (by k_is) (by k_is) (by k_is)
    have F_law_stays := FL.cS (x := "_law_stays") (st := a5.tG) KX G (by k_is) (by k_is) (by k_is) (by k_is)
    have F_law_closed := FL.cS (x := "_law_closed") (st := a5.rG) KX G (by k_is) (by k_is) (by k_is) (by k_is)
    have c_Step := a5.mE KX G (by k_is) (by k_is) (by k_is) (by k_is) (by k_is) (by k_is) (by k_is) (by k_is) (by k_is) (by k_is) (by k_is) (by k_is) (by k_is) (by k_is) (by k_is) (by k_is) (by k_is) (by k_is) (by k_is) (by k_is) (by k_is) (by k_is) (by k_is) (by k_is) (by k_is) (by k_is) (by k_is) (by k_is) (by k_is) (by k_is) (by k_is) (by k_is)
    have c_Loom := a5.nl KX G (by k_is) (by k_is) (by k_is) (by k_is) (by k_is) (by k_is) (by k_is) (by k_is) (by k_is) (by k_is) (by k_is) (by k_is) (by k_is) (by k_is) (by k_is) (by k_is) (by k_is) (by k_is) (by k_is) (by k_is) (by k_is) (by k_is) (by k_is) (by k_is) (by k_is) (by k_is) (by k_is) (by k_is) (by k_is) (by k_is) (by k_is) (by k_is) (by k_is) (by k_is) (by k_is) (by k_is) (by k_is)
    have c_Weaving := a5.oR KX G (by k_is) (by k_is) (by k_is) (by k_is) (by k_is) (by k_is) (by k_is) (by k_is) (by k_is) (by k_is) (by k_is) (by k_is) (by k_is) (by k_is) (by k_is) (by k_is) (by k_is) (by k_is) (by k_is) (by k_is) (by k_is) (by k_is) (by k_is) (by k_is) (by k_is)
    have B := a5.Ls KX G (by k_is) (by k_is) (by k_is) (by k_is) (by k_is) (by k_is) (by k_is) (by k_is) (by k_is) (by k_is) (by k_is) (by k_is) (by k_is)
    have W := a5.Ki KX G hmg (by k_is) (by k_is) (by k_is) (by k_is)
    have u_LESS := a5.JZ KX G (by k_is)
    have u_UNLIKE := a5.DT KX G (by k_is)
    have B_max := a5.D4 KX G (by k_is)
    obtain ⟨f_is_blank, d_is_blank, F_is_blank⟩ := F_is_blank
    obtain ⟨f_filled, d_filled, F_filled⟩ := F_filled
    obtain ⟨f_matched, d_matched, F_matched⟩ := F_matched
    obtain ⟨f_is_guard, d_is_guard, F_is_guard⟩ := F_is_guard
    obtain ⟨f_blanks_in, d_blanks_in, F_blanks_in⟩ := F_blanks_in
    obtain ⟨f_holds, d_holds, F_holds⟩ := F_holds
    obtain ⟨f_askers_in, d_askers_in, F_askers_in⟩ := F_askers_in
    obtain ⟨f_guards_in, d_guards_in, F_guards_in⟩ := F_guards_in
    obtain ⟨f_slots_of, d_slots_of, F_slots_of⟩ := F_slots_of
    obtain ⟨f_is_ready, d_is_ready, F_is_ready⟩ := F_is_ready
    obtain ⟨f_steps_for, d_steps_for, F_steps_for⟩ := F_steps_for
    obtain ⟨f_refuse_loose, d_refuse_loose, F_refuse_loose⟩ := F_refuse_loose
    obtain ⟨f_check_body, d_check_body, F_check_body⟩ := F_check_body
    obtain ⟨f_check_rule, d_check_rule, F_check_rule⟩ := F_check_rule
    obtain ⟨f_facts_of, d_facts_of, F_facts_of⟩ := F_facts_of
    obtain ⟨f_reasons_by_round, d_reasons_by_round, F_reasons_by_round⟩ := F_reasons_by_round
    obtain ⟨f_reasons, d_reasons, F_reasons⟩ := F_reasons
    obtain ⟨f_law_at, d_law_at, F_law_at⟩ := F_law_at
    obtain ⟨f_law_whole, d_law_whole, F_law_whole⟩ := F_law_whole
    obtain ⟨f_law_mixed, d_law_mixed, F_law_mixed⟩ := F_law_mixed
    obtain ⟨f_law_is_fact, d_law_is_fact, F_law_is_fact⟩ := F_law_is_fact
    obtain ⟨f_law_blanks_in, d_law_blanks_in, F_law_blanks_in⟩ := F_law_blanks_in
    obtain ⟨f_law_places_fit, d_law_places_fit, F_law_places_fit⟩ := F_law_places_fit
    obtain ⟨f_law_stands_ahead, d_law_stands_ahead, F_law_stands_ahead⟩ := F_law_stands_ahead
    obtain ⟨f_law_pool_by, d_law_pool_by, F_law_pool_by⟩ := F_law_pool_by
    obtain ⟨f_law_fill_in, d_law_fill_in, F_law_fill_in⟩ := F_law_fill_in
    obtain ⟨f_law_true, d_law_true, F_law_true⟩ := F_law_true
    obtain ⟨f_law_menu_by, d_law_menu_by, F_law_menu_by⟩ := F_law_menu_by
    obtain ⟨f_law_rules_by, d_law_rules_by, F_law_rules_by⟩ := F_law_rules_by
    obtain ⟨f_law_choices, d_law_choices, F_law_choices⟩ := F_law_choices
    obtain ⟨f_law_follows, d_law_follows, F_law_follows⟩ := F_law_follows
    obtain ⟨f_law_alike, d_law_alike, F_law_alike⟩ := F_law_alike
    obtain ⟨f_law_stays, d_law_stays, F_law_stays⟩ := F_law_stays
    obtain ⟨f_law_closed, d_law_closed, F_law_closed⟩ := F_law_closed
    obtain ⟨A_Step, c_Step, T_asker, T_shared, T_guards, T_offers, T_newest, ⟨f_Step_init, d_Step_init, F_Step_init⟩, ⟨f_Step_offer, d_Step_offer, F_Step_offer⟩, ⟨f_Step_allows, d_Step_allows, F_Step_allows⟩, ⟨f_Step_carry_on, d_Step_carry_on, F_Step_carry_on⟩⟩ := c_Step
    obtain ⟨A_Loom, c_Loom, TL_steps, TL_is_barred, TL_taken_in, TL_fresh, TL_last_fresh_step, ⟨f_Loom_init, d_Loom_init, F_Loom_init⟩, ⟨f_Loom_take_in, d_Loom_take_in, F_Loom_take_in⟩, ⟨f_Loom_beginnings, d_Loom_beginnings, F_Loom_beginnings⟩, ⟨f_Loom_is_whole, d_Loom_is_whole, F_Loom_is_whole⟩, ⟨f_Loom_carried_on, d_Loom_carried_on, F_Loom_carried_on⟩⟩ := c_Loom
    obtain ⟨A_Weaving, c_Weaving, TW_rules, TW_looms, TW_told, ⟨f_Weaving_given_by, d_Weaving_given_by, F_Weaving_given_by⟩, ⟨f_Weaving_one_round, d_Weaving_one_round, F_Weaving_one_round⟩, ⟨f_Weaving_init, d_Weaving_init, F_Weaving_init⟩⟩ := c_Weaving
    obtain ⟨t_LESS, c_LESS⟩ := u_LESS
    obtain ⟨t_UNLIKE, c_UNLIKE⟩ := u_UNLIKE
    obtain ⟨fd, hb, F_law⟩ := W
    exact ⟨fd, hb, fun base _ _ => a5.all_mk B F_law F_is_blank F_filled F_matched F_is_guard F_blanks_in F_holds F_askers_in F_guards_in F_slots_of F_is_ready F_steps_for F_refuse_loose F_check_body F_check_rule F_facts_of F_reasons_by_round F_reasons F_law_at F_law_whole F_law_mixed F_law_is_fact F_law_blanks_in F_law_places_fit F_law_stands_ahead F_law_pool_by F_law_fill_in F_law_true F_law_menu_by F_law_rules_by F_law_choices F_law_follows F_law_alike F_law_stays F_law_closed F_Step_init F_Step_offer F_Step_allows F_Step_carry_on F_Loom_init F_Loom_take_in F_Loom_beginnings F_Loom_is_whole F_Loom_carried_on F_Weaving_given_by F_Weaving_one_round F_Weaving_init c_Step T_asker T_shared T_guards T_offers T_newest c_Loom TL_steps TL_is_barred TL_taken_in TL_fresh TL_last_fresh_step c_Weaving TW_rules TW_looms TW_told c_LESS c_UNLIKE B_max⟩
