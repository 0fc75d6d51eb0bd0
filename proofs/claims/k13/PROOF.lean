import PyProof.Rows.All
import Wide.All
import OpenK.AllK
import Wide.FinOn
import Lean
import PyProof.EqAt
import PyProof.EqKinds
import PyProof.TupleCall
import PyProof.CompFree
import PyProof.AttrMissHeap
import PyProof.ListNew
import PyProof.DictUpdate
import PyProof.DictList
import PyProof.FactsAll.dict_1
import PyProof.Rows.DictSet
import PyProof.Seq
import PyProof.TupleIter
import KE.KDictOf
import PyProof.NeKinds
import PyProof.ZipIter
import PyProof.EnumIter
import PyProof.EnumFor
import PyProof.EnumMake
import KE.KRevIter
import KE.KDictLaws
import PyProof.DictRoadsH
import KE.KDictList
import PyProof.ConsumeWalk
import PyProof.DictTruth
import PyProof.MinMaxWalk
import PyProof.WalkInts
import PyProof.WalksMore
import KE.KMinKey
import PyProof.Rows.CallKwBuiltin
import PyProof.Draws
import OpenK.KRaise
import OpenK.KOwn
import KE.KTryMore
import PyProof.StationsW
import PyProof.DictValues
import PyProof.FactsAll.dict_4
import PyProof.DictWalks
import PyProof.Rows.Range3
import KE.KIsAll
import PySem.Challenge.RW_factloom_k13_whole_any_order
set_option Elab.async false
set_option linter.all false
set_option maxRecDepth 100000
open List (mem_cons_of_mem mem_cons_self length_map getElem?_eq_getElem getElem?_set_ne mem_filter mem_map mem_cons getElem?_map mem_of_getElem? mem_append getElem?_set_self mem_append_right mem_append_left map_append map_map length_append length_cons length_take not_mem_nil take_of_length_le mem_singleton append_nil append_assoc map_cons filter_cons getElem?_append_left getElem?_append_right mem_flatten mem_reverse mem_flatMap length_set length_nil length_singleton filter_append getElem?_eq_none take_add_one map_congr_left filter_eq_self length_filter_le nodup_cons flatMap_cons cons_append getElem_mem filter_congr nodup_nil nodup_append all_eq_true any_eq_true mem_iff_getElem? take_length nil_append mem_of_mem_take mem_range length_range all_cons zipIdx_cons set_set foldl_append flatMap_append)
set_option maxHeartbeats 4000000
abbrev ZT:=PySem.Value->PySem.Shared->Prop
abbrev ZU:=PySem.Str->Option PySem.Value
abbrev ZV:=List (PySem.Addr×PySem.Obj)
abbrev ZX:=List PySem.Addr
abbrev ZY:=List PySem.Str
def Z1{p:Prop}(h:p:=by decide):p:=h
def Z4{p:Prop}(h:p:=by omega):p:=h
def Z6{p:Prop}(h:p:=by k_is):p:=h
def Z8{p:Prop}(h:p:=by simp):p:=h
def Z9{p:Prop}(h:p:=by decide+kernel):p:=h
def Lg:=@List.mem_cons_of_mem
def Lh:=@PySem.wpAny_bind
def Li:=@List.getElem?_eq_some_iff
def Lj:=@List.mem_cons_self
def Lk:=@List.getElem?_eq_getElem
def Ll:=@List.length_map
def Lm:=@List.getElem?_set_ne
def Ln:=@PySem.Heap.get?_push_of_some
def Lo:=@Nat.le_refl
def Lp:=@List.mem_of_getElem?
def Lq:=@if_neg
def Lr:=@List.mem_append_right
def Ls:=@Bool.false_ne_true
def Lu:=@List.mem_append_left
def Lv:=@if_pos
def Lw:=@List.mem_cons
def Lx:=@List.getElem?_set_self
def Ly:=@List.mem_filter
def Lz:=@PySem.wpAny_pure
def LA:=@List.getElem?_map
def LB:=@Option.some.inj
def LC:=@List.length_append
def LD:=@of_decide_eq_true
def LF:=@List.size_toArray
def LG:=@List.mem_map
def LH:=@decide_eq_true
def LI:=@List.mem_append
def LJ:=@PySem.Heap.get?_push_size
def LK:=@List.mem_singleton
def LL:=@PySem.Heap.lt_size
def LM:=@PySem.PassesOwn.never
def LN:=@Nat.le_trans
def LO:=@List.getElem?_append_left
def LP:=@Nat.zero_le
def LQ:=@List.getElem?_append_right
def LR:=@decide_eq_false
def LS:=@List.take_of_length_le
def LU:=@List.map_append
def LV:=@List.append_nil
def LW:=@List.map_congr_left
def LY:=@Nat.ne_of_lt
def LZ:=@List.length_filter_le
def L0:=@List.take_add_one
def L1:=@List.not_mem_nil
def L4:=@Nat.lt_of_lt_of_le
def L8:=@Nat.le_of_not_lt
def L9:=@List.length_take
def Ma:=@List.length_cons
def Mb:=@List.map_map
def Mc:=@List.mem_flatten
def Md:=@Bool.eq_iff_iff
def Me:=@List.map_cons
def Mf:=@List.mem_iff_getElem?
def Mh:=@List.getElem?_eq_none
def Mi:=@PySem.W.mg_none_of
def Mj:=@Option.map_eq_some_iff
def Ml:=@Ne.symm
def Mm:=@List.append_assoc
def Mn:=@Bool.and_eq_true
def Mo:=@or_false
def Mp:=@List.filter_eq_self
def Mq:=@congrArg
def Mr:=@Nat.le_add_right
def Ms:=@PySem.wpAny_field
def Mt:=@Bool.and_eq_true_iff
def Mu:=@of_decide_eq_false
def Mv:=@List.flatMap_cons
def Mw:=@PySem.wpAny_seqItems
def Mx:=@List.find?_cons
def My:=@List.length_singleton
def Mz:=@beq_eq_false_iff_ne
def MA:=@PyProof.Rows.callWith_type1
def MB:=@PySem.wpAny_callSpecial?_slot
def MC:=@PySem.W.kia_one
def MD:=@List.filter_append
def ME:=@List.lookup_cons
def MF:=@List.getElem?_eq_none_iff
def MG:=@PySem.wpAny_truthy_bool
def MH:=@List.eq_nil_of_length_eq_zero
def MI:=@Nat.lt_irrefl
def MJ:=@PySem.Heap.size_push
def MK:=@Nat.le_of_lt
def ML:=@PySem.F.slot_dict_setdefault
def MM:=@List.foldl_append
def MN:=@PySem.wpAny_mono
def MO:=@List.all_eq_true
def MP:=@PySem.F.plainAttrs_list
def MQ:=@List.mem_flatMap
def MR:=@List.take_length
def MS:=@PySem.wpAny_newObj_type
def MT:=@PySem.Heap.get?_update_other
def MU:=@List.length_set
def MV:=@List.flatMap_singleton
def MW:=@Nat.lt_succ_self
def MX:=@PySem.tupleKind_room_in1
def MY:=@PySem.F.args_dict_setdefault_3
def MZ:=@PySem.wpAny_holding
def M1:=@List.filter_congr
def M3:=@PySem.F.entry_dict_setdefault
def M4:=@List.mem_reverse
def M5:=@PySem.W.set_slot
def M6:=@List.take_append_of_le_length
def M7:=@PySem.wpAny_pyIter_list
def M8:=@List.ext_getElem?
def M9:=@List.flatten_cons
def Na:=@PySem.F.slot_list_extend
def Nb:=@List.filter_map
def Nc:=@List.filterMap_cons
def Nd:=@PySem.Calls.callWith_builtin
def Nf:=@List.filter_eq_nil_iff
def Ng:=@PySem.Paired.length
def Nh:=@List.filter_cons
def Ni:=@PySem.wpAny_Call_Name_kw
def Nj:=@PySem.F.slot_tuple_iterator_next
def Nk:=@List.drop_eq_getElem_cons
def Nl:=@List.mem_or_eq_of_mem_set
def Nm:=@PySem.wpAny_passesOwn
def Nn:=@Int.toNat_natCast
def No:=@Nat.lt_succ_of_lt
def Np:=@List.nodup_cons
def Nq:=@List.length_nil
def Nr:=@List.cons.inj
def Nt:=@PySem.F.type_list_extend
def Nu:=@PyProof.Rows.slot_tuple_getitem
def Nv:=@PySem.mem_of_lookup
def Nw:=@PySem.Heap.SameBut.update
def Nx:=@List.takeWhile_cons
def Ny:=@List.flatten_append
def Nz:=@PySem.wpAny_call_entry
def NA:=@List.nodup_nil
def NB:=@PySem.F.plain_max_loop
def NC:=@Nat.add_sub_cancel_left
def ND:=@List.flatten_nil
def NE:=@List.getElem_mem
def NF:=@Nat.ne_of_gt
def NG:=@PySem.Calls.spliced_cons
def NH:=@PySem.call_meetsIn
def NI:=@Nat.lt_of_le_of_lt
def NJ:=@List.drop_of_length_le
def NK:=@PyProof.Rows.boot_list
def NL:=@PySem.wpAny_setField_rec
def NM:=@List.nil_append
def NN:=@List.takeWhile_sublist
def NO:=@List.map_inj_right
def NP:=@List.mem_zipIdx_iff_getElem?
def NQ:=@PySem.Heap.get?_update_self
def NR:=@decide_eq_true_eq
def NS:=@PySem.wpAny_letGo
def NT:=@PySem.Around.under_plainId
def NU:=@PySem.wpAny_tryCatch
def NV:=@Bool.or_eq_false_iff
def NW:=@List.all_cons
def NX:=@List.exists_cons_of_ne_nil
def NY:=@List.mem_range
def NZ:=@List.length_drop
def N0:=@Nat.zero_add
def N3:=@List.nodup_append
def N4:=@decide_eq_decide
def N5:=@List.length_range
def N6:=@Array.length_toList
def N7:=@List.getElem?_take_of_lt
def N8:=@PySem.F.args_tuple_add_2
def N9:=@PySem.F.slot_list_getattribute
def Oa:=@PySem.plainId_quiet
def Ob:=@List.filterMap_cons_none
def Oc:=@if_true
def Od:=@Option.map_some
def Oe:=@PySem.codeAny_builtin
def Of:=@List.cons.injEq
def Og:=@PySem.wpAny_pyIter_tuple
def Oh:=@List.mem_filterMap
def Oi:=@beq_iff_eq
def Oj:=@PySem.wpAny_rule
def Ol:=@decide_eq_true_iff
def Om:=@Nat.add_sub_cancel
def Oo:=@PySem.F.entry_tuple_add
def Op:=@PySem.F.plainAttrs_dict
def Oq:=@List.any_eq_true
def Ot:=@List.any_eq_false
def Ou:=@PySem.codeAny_mono
def Ov:=@PySem.F.slot_tuple_add
def Ow:=@List.map_nil
def Ox:=@Option.isSome_map
def Oy:=@PySem.wpAny_pyIter_enum
def Oz:=@List.all_map
def OA:=@List.drop_eq_nil_of_le
def OB:=@List.map_id'
def OC:=@PySem.F.slot_dict_get
def OD:=@List.getElem?_zipWith
def OE:=@PyProof.Rows.boot_str
def OF:=@PyProof.Rows.boot_int
def OG:=@List.take_append_drop
def OH:=@beq_self_eq_true
def OI:=@Nat.min_eq_right
def OJ:=@List.any_cons
def OK:=@Bool.and_true
def OL:=@Bool.true_and
def OM:=@PySem.W.mg_of
def ON:=@PySem.Calls.evalArgs_plain
def OO:=@List.cons_append
def OP:=@PySem.wpAny_execs_nil
def OQ:=@List.of_mem_zip
def OR:=@PySem.wpAny_updateSeq
def OS:=@List.forIn_cons
def OT:=@Nat.min_eq_left
def OU:=@PySem.F.args_tuple_iterator_next_1
def OV:=@PySem.F.slot_zip_next
def OW:=@List.mem_of_mem_take
def OX:=@PySem.W.plainGet_of
def OY:=@List.length_reverse
def OZ:=@List.map_eq_nil_iff
def O0:=@List.mem_map_of_mem
def O2:=@PySem.wpAny_typeOf
def O3:=@PySem.F.entry_tuple_iterator_next
def O4:=@PyProof.Rows.boot_enumerate
def O6:=@List.idxOf_lt_length_of_mem
def O7:=@PySem.Calls.Name_function_global
def Pa:=@PySem.W.callWith_K
def Pb:=@PySem.W.KFB.if_not
def Pc:=@Bool.false_eq_true
def Pd:=@PySem.wpAny_letOwnedTupleGo_enum
def Pe:=@List.flatMap_append
def Pf:=@List.filter_filter
def Pg:=@PySem.F.called_enumerate
def Ph:=@List.length_zipIdx
def Pj:=@List.getElem_idxOf
def Pk:=@List.getElem?_zip_eq_some
def Pl:=@PySem.sizeLine_eq
def Pm:=@PySem.Calls.spliced_nil
def Pn:=@PySem.wpAny_standAt
def Po:=@Option.isSome_iff_exists
def Pp:=@Bool.or_false
def Pq:=@List.filterMap_cons_some
def Pr:=@PySem.F.slot_dict_values
def Ps:=@List.sum_cons
def Pt:=@List.idxOf_lt_length_iff
def Pu:=@PyProof.Rows.vals1
def Pw:=@PySem.noFill_tuple_add
def Px:=@if_false
def Py:=@Option.getD_none
def Pz:=@PySem.F.args_dict_get_3
def PB:=@decide_eq_false_iff_not
def PD:=@PyProof.Rows.boot_tuple
def PF:=@List.map_reverse
def PH:=@Nat.le_mul_of_pos_right
def PJ:=@Nat.lt_add_of_pos_right
def PL:=@Nat.le_of_eq
def PM:=@PySem.W.cellsFrom_some
def PN:=@PySem.F.entry_dict_get
def PP:=@PyProof.Rows.boot_dict
def PQ:=@Nat.succ_mul
def PR:=@Int.emod_nonneg
def PU:=@List.sum_append
def PV:=@PySem.W.methodCall_KW
def PX:=@Array.getElem?_toList
def PY:=@Sum.inr.inj
def PZ:=@Bool.and_false
def P0:=@PySem.wpAny_listPart
def P1:=@PySem.wpAny_of_eq
def P2:=@List.zipIdx_cons
def P4:=@List.getElem?_zipIdx
def P5:=@List.Pairwise.filter
def P6:=@Nat.mul_le_mul_right
def P7:=@Nat.mul_le_mul
def P8:=@List.set_set
def P9:=@Bool.false_or
def Qa:=@List.take_nil
def Qb:=@List.map_take
def Qc:=@PySem.call_meets
def Qd:=@Nat.sub_zero
def Qe:=@Nat.add_comm
def Qf:=@Nat.mul_comm
def Qg:=@Nat.sub_self
def Qh:=@not_or
def Qi:=@Nat.le_succ
def Qj:=@Prod.mk.inj
namespace L2
open PySem PySem.Spec PyProof.Rows
abbrev aJ:=Sum Int Str
def lT:aJ->Value->Bool
 |.inl k,v=>Value.isInt k v
 |.inr x,v=>Value.isStrOf x v
def Eu (w:World):aJ->Int
 |.inl k=>hashInt k
 |.inr x=>hashStr w x
def jh:∀{k:aJ} {v:Value},lT k v=true->(∃i t,k=Sum.inl i/\v=Value.int i t)\/(∃x t,k=Sum.inr x/\v=Value.str x t)
 |.inl i,v,h=>by
  obtain ⟨t,e⟩:=Value.isInt_shape (k:=i) (v:=v) h
  exact .inl ⟨i,t,rfl,e⟩
 |.inr x,v,h=>by
  obtain ⟨t,e⟩:=Value.isStrOf_shape (x:=x) (v:=v) h
  exact .inr ⟨x,t,rfl,e⟩
def DV (i:Int)(t:Tok):lT (.inl i) (.int i t)=true:=by simp [lT,Value.isInt]
def Hg (x:Str)(t:Tok):lT (.inr x) (.str x t)=true:=by simp [lT,Value.isStrOf]
def Hu (a b:Int):decide ((Sum.inl a:aJ)=Sum.inl b)=(a==b):=by
 by_cases e:a=b
 .subst e;simp
 .have h:¬(Sum.inl a:aJ)=Sum.inl b:=λq=>e (Sum.inl.inj q)
  rw [LR h]
  exact (Mz.mpr e).symm
def GH (a b:Str):decide ((Sum.inr a:aJ)=Sum.inr b)=decide (a=b):=by
 by_cases e:a=b
 .subst e;simp
 .have h:¬(Sum.inr a:aJ)=Sum.inr b:=λq=>e (PY q)
  rw [LR h,LR e]
def HL (a:Int)(b:Str):decide ((Sum.inl a:aJ)=Sum.inr b)=false:=LR λq=>nomatch q
def Jq (a:Str)(b:Int):decide ((Sum.inr a:aJ)=Sum.inl b)=false:=LR λq=>nomatch q
def dq (prog:Program)(w:World):PySem.KeyKind prog w aJ where
 is:=lT
 hash:=Eu w
 inj:=λv a b ha hb=>by
  rcases jh ha with ⟨i,t,rfl,rfl⟩|⟨x,t,rfl,rfl⟩
  .rcases jh hb with ⟨j,u,rfl,e⟩|⟨y,u,rfl,e⟩
   .injection e with e1 _;rw [e1]
   .exact nomatch e
  .rcases jh hb with ⟨j,u,rfl,e⟩|⟨y,u,rfl,e⟩
   .exact nomatch e
   .injection e with e1 _;rw [e1]
 byValue:=λk v h=>by
  rcases jh h with ⟨i,t,rfl,rfl⟩|⟨x,t,rfl,rfl⟩<;>rfl
 pyHash:=λhv h=>by
  rcases jh hv with ⟨i,t,rfl,rfl⟩|⟨x,t,rfl,rfl⟩
  .exact wpAny_pyHash_int h
  .exact wpAny_pyHash_str h
 eqBool:=λhu hv h=>by
  rcases jh hu with ⟨i,t,rfl,rfl⟩|⟨x,t,rfl,rfl⟩
  .rcases jh hv with ⟨j,u,rfl,rfl⟩|⟨y,u,rfl,rfl⟩
   .rw [Hu] at h;exact wpAny_eqBool_int h
   .rw [HL] at h;exact SeqAt.EqAt.int_str i t y u _ _ _ _ h
  .rcases jh hv with ⟨j,u,rfl,rfl⟩|⟨y,u,rfl,rfl⟩
   .rw [Jq] at h;exact SeqAt.EqAt.str_int x t j u _ _ _ _ h
   .rw [GH] at h;exact wpAny_eqBool_str h
 «strs»:=λk x t v h=>by
  rcases jh h with ⟨i,u,rfl,e⟩|⟨y,u,rfl,e⟩
  .exact nomatch e
  .injection e with e1 _
   subst e1
   cases v<;>rfl
def IN (a:Program)(w:World)(k:aJ)(v:Value):(dq a w).is k v=lT k v:=rfl
def Fh (a:Program)(w:World)(i:Int)(t:Tok):(dq a w).is (.inl i) (.int i t)=true:=DV i t
def KG (a:Program)(w:World)(x:Str)(t:Tok):(dq a w).is (.inr x) (.str x t)=true:=Hg x t
end L2
namespace L2
open PySem PySem.Spec PyProof.Rows
inductive V where
 |aq|bl (b:Bool)|int (i:Int)|str (x:Str)|gc (b:Array UInt8)|lz (b:UInt64)|ref (a:Addr)|ty (n:String)
 deriving DecidableEq
def RelV:V->Value->Prop
 |.aq,u=>u=Value.none
 |.bl b,u=>u=Value.bool b
 |.int i,u=>∃t,u=Value.int i t
 |.str x,u=>∃t,u=Value.str x t
 |.gc b,u=>∃t,u=Value.bytes b t
 |.lz b,u=>∃t,u=Value.float b t
 |.ref a,u=>u=Value.ref a
 |.ty n,u=>u=Value.type n
abbrev ba:List V->List Value->Prop:=Paired RelV
theorem ba.length(r:ba a b):a.length=b.length:=Ng r
theorem ba.get:∀{a:List V} {b:List Value} {i:Nat} {x:V},ba a b->a[i]?=some x->∃u,b[i]?=some u/\RelV x u
 |_,_,_,_,.nil,e=>by simp at e
 |_,_,0,_,.cons r _,e=>by simp at e;subst e;exact ⟨_,rfl,r⟩
 |_,_,i+1,x,.cons _ t,e=>by
  obtain ⟨u,c,d⟩:=ba.get (i:=i) (x:=x) t (by simpa using e)
  exact ⟨u,by simpa using c,d⟩
theorem ba.append:∀{a b:List V} {c d:List Value},ba a c->ba b d->ba (a++b) (c++d)
 |_,_,_,_,.nil,s=>s
 |_,_,_,_,.cons r t,s=>.cons r<|ba.append t s
theorem ba.take:∀{a:List V} {b:List Value} (n:Nat),ba a b->ba (a.take n) (b.take n)
 |_,_,0,_=>.nil
 |_,_,_+1,.nil=>.nil
 |_,_,n+1,.cons r t=>.cons r<|ba.take n t
theorem ba.drop:∀{a:List V} {b:List Value} (n:Nat),ba a b->ba (a.drop n) (b.drop n)
 |_,_,0,r=>r
 |_,_,_+1,.nil=>.nil
 |_,_,n+1,.cons _ t=>ba.drop n t
def dU:Option V->Option Value->Prop
 |some v,some u=>RelV v u
 |none,none=>True
 |_,_=>False
def KV {κ:Type}:List (κ×V)->List (κ×Value)->Prop:=Paired λ(p:κ×V) (q:κ×Value)=>p.1=q.1/\RelV p.2 q.2
def kV:aJ->V
 |.inl i=>.int i
 |.inr x=>.str x
inductive HO where
 |lst (xs:List V)
 |tup (xs:List V)
 |dK (kvs:List (aJ×V))|dT (kvs:List (List aJ×V))
 |set (S:Int->Bool) (n:Nat)
 |ins (C dx:Addr) (fs:List (Str×V))
 |own (x:Addr)
 |xd (fs:List (Str×V))
 |met (f x:Addr)
 |wk (lo hi:Int)
 |cL (o:Obj) (u:HO)
 |jz (ps:Array Value)
 |ext (φ:Heap->Prop)
abbrev Hp:=Addr->Option HO
def upd (H:Hp)(a:Addr)(o:HO):Hp:=λb=>if b=a then some o else H b
def aN:upd H a o a=some o:=by unfold upd;rw [Lv rfl]
def aA(h:b≠a):upd H a o b=H b:=by unfold upd;rw [Lq h]
def y9{H:Hp}(h:H a=some o)(c:H b=some u)(d:o≠u):a≠b:=by
 intro e;subst e;rw [h] at c;exact d<|LB c
def cU{H:Hp}(h:H a=some o)(c:H b=none):a≠b:=by
 intro e;subst e;rw [h] at c;cases c
section
variable (P:Program)(w:World)
def bS (H:Hp)(h:Heap)(a:Addr):HO->Prop
 |.lst xs=>xs.length<=sizeLine/\∃(its:List Value) (n:Nat),ba xs its/\h.get? a=some {cls:=.type "list",data:=.seq its.toArray n}
 |.tup xs=>xs.length<=sizeLine/\∃its:List Value,ba xs its/\IsTup h a its.toArray
 |.dK kvs=>kvs.length<=sizeLine/\(a==sysModules)=false/\∃vs,KV kvs vs/\h.DictOf (dq P w) a vs
 |.dT kvs=>kvs.length<=sizeLine/\(a==sysModules)=false/\∃xs:List (List aJ×Addr×Value),
   Paired (λ(p:List aJ×V) (q:List aJ×Addr×Value)=>p.1=q.1/\H q.2.1=some (.tup (p.1.map kV))/\RelV p.2 q.2.2) kvs xs/\
   ∃o es ep,h.get? a=some o/\o.ExactDict/\o.data=.dict es ep/\es.toList=xs.map (entryOfKey (tupleKind (dq P w)))/\(xs.map (·.1)).Nodup
 |.set S n=>h.SetOf (intKind P w) a S n
 |.ins C dx fs=>H dx=some (.own a)/\fs.length<=1000/\dx≠a/\h.get? a=some (PySem.W.instObj C dx)/\
   ∃mA,h.Ns1 dx mA/\(∀f,dU (fs.lookup f) (mA f))/\PySem.Within mA (fs.map (·.1))
 |.own _=>∃o,h.get? a=some o
 |.xd fs=>∃mA,h.Ns1 a mA/\∀f,dU (fs.lookup f) (mA f)
 |.wk lo hi=>∃t u v,h.get? a=some {cls:=.type "range",data:=.fields #[.int lo t,.int hi u,.int 1 v]}
 |.cL o u=>h.get? a=some o/\bS H h a u
 |.jz ps=>h.get? a=some {cls:=.none,data:=.fields ps}
 |.met f x=>h.get? a=some (PySem.W.methodObj (.ref f) (.ref x))
 |.ext φ=>φ h/\(∃o,h.get? a=some o)/\∀h1 h2:Heap,φ h1->(∀o,h1.get? a=some o->h2.get? a=some o)->φ h2
def cS (H:Hp)(h:Heap):Prop:=∀a o,H a=some o->bS P w H h a o
end
section
variable {P:Program}{w:World}{H H':Hp}{h h':Heap}{a:Addr}{o:HO}
theorem bS.lt (x:bS P w H h a o):a<h.objs.size:=by
 cases o with
 |lst c=>obtain ⟨_,_,_,_,e⟩:=x;exact LL e
 |tup c=>obtain ⟨_,_,_,p⟩:=x;exact p.lt
 |dK b=>obtain ⟨_,_,_,_,o,_,_,e,_⟩:=x;exact LL e
 |dT b=>obtain ⟨_,_,_,_,o,_,_,e,_⟩:=x;exact LL e
 |set S n=>obtain ⟨o,_,_,_,e,_⟩:=x;exact LL e
 |ins C g d=>obtain ⟨_,_,_,e,_⟩:=x;exact LL e
 |own y=>obtain ⟨_,e⟩:=x;exact LL e
 |xd d=>obtain ⟨_,⟨_,_,_,e,_⟩,_⟩:=x;exact LL e
 |wk lo i=>obtain ⟨_,_,_,e⟩:=x;exact LL e
 |cL j u=>obtain ⟨e,_⟩:=x;exact LL e
 |jz k=>exact LL (show h.get? a=some _ from x)
 |met f y=>exact LL (show h.get? a=some _ from x)
 |ext l=>obtain ⟨_,⟨_,e⟩,_⟩:=x;exact LL e
theorem Paired.uX{G:e->g->Prop}:∀{c:List e} {d:List g},Paired F c d->(∀a b,F a b->G a b)->Paired G c d
 |_,_,.nil,_=>.nil
 |_,_,.cons r t,f=>.cons (f _ _ r)<|Paired.uX t f
def bS.jE (x:bS P w H h a o)(k:∀b u,(b=a\/H b=some (.own a))->h.get? b=some u->h'.get? b=some u)
  (G:∀b,H b=some (.own a)->H' b=some (.own a)) (I:∀b m,H b=some (.tup m)->H' b=some (.tup m)):bS P w H' h' a o:=by
 induction o with
 |lst m=>obtain ⟨z,l,n,r,e⟩:=x;exact ⟨z,l,n,r,k _ _ (.inl rfl) e⟩
 |tup m=>obtain ⟨z,l,r,g,e,c⟩:=x;exact ⟨z,l,r,g,k _ _ (.inl rfl) e,c⟩
 |dK s=>obtain ⟨z,y,J,r,g,i,j,e,c⟩:=x;exact ⟨z,y,J,r,g,i,j,k _ _ (.inl rfl) e,c⟩
 |dT s=>
  obtain ⟨z,y,m,r,g,i,j,e,c⟩:=x
  exact ⟨z,y,m,Paired.uX r λp q z=>⟨z.1,I _ _ z.2.1,z.2.2⟩,g,i,j,k _ _ (.inl rfl) e,c⟩
 |set S n=>obtain ⟨g,i,j,t,e,c⟩:=x;exact ⟨g,i,j,t,k _ _ (.inl rfl) e,c⟩
 |ins C Q L=>
  obtain ⟨d,z,M,e,A,⟨B,i,j,N,c⟩,r⟩:=x
  exact ⟨G _ d,z,M,k _ _ (.inl rfl) e,A,⟨B,i,j,k _ _ (.inr d) N,c⟩,r⟩
 |own y=>obtain ⟨g,e⟩:=x;exact ⟨g,k _ _ (.inl rfl) e⟩
 |xd L=>obtain ⟨A,⟨B,i,j,e,c⟩,r⟩:=x;exact ⟨A,⟨B,i,j,k _ _ (.inl rfl) e,c⟩,r⟩
 |wk lo T=>obtain ⟨t,u,v,e⟩:=x;exact ⟨t,u,v,k _ _ (.inl rfl) e⟩
 |cL g u O=>obtain ⟨e,q⟩:=x;exact ⟨k _ _ (.inl rfl) e,O q⟩
 |jz E=>
  have e:h.get? a=some {cls:=.none,data:=.fields E}:=x
  show h'.get? a=some {cls:=.none,data:=.fields E}
  exact k a _ (.inl rfl) e
 |met f y=>
  have e:h.get? a=some (W.methodObj (.ref f) (.ref y)):=x
  show h'.get? a=some (W.methodObj (.ref f) (.ref y))
  exact k a _ (.inl rfl) e
 |ext U=>obtain ⟨p,⟨o,e⟩,st⟩:=x;exact ⟨st _ _ p λo q=>k _ _ (.inl rfl) q,⟨o,k _ _ (.inl rfl) e⟩,st⟩
theorem cS.lt (x:cS P w H h)(e:H a=some o):a<h.objs.size:=(x a o e).lt
def cS.fresh (x:cS P w H h)(e:h.objs.size<=a):H a=none:=by
 cases q:H a with
 |none=>rfl
 |some u=>exact absurd (L4 (x.lt q) e)<|MI _
def cS.kept (x:cS P w H h)(k:∀b u,h.get? b=some u->h'.get? b=some u):cS P w H h':=λa o e=>
 (x a o e).jE (λb u _ q=>k b u q) (λ_ q=>q) λ_ _ q=>q
def cS.laid (x:cS P w H h)(k:∀b u,h.get? b=some u->h'.get? b=some u)(i:h.objs.size<=a)(d:bS P w (upd H a o) h' a o):cS P w (upd H a o) h':=λb u e=>by
 have f:=x.fresh i
 by_cases g:b=a
 .subst g;rw [aN] at e;cases e;exact d
 .rw [aA g] at e
  exact (x b u e).jE (λc v _ q=>k c v q) (λc q=>by rw [aA<|cU q f];exact q) λc j q=>by rw [aA<|cU q f];exact q
end
def Rd (H:Hp)(a:Addr)(u:HO):Prop:=H a=some u\/∃o,H a=some (.cL o u)
def Rd.of{H:Hp}(h:H a=some u):Rd H a u:=.inl h
def Rd.ok(r:Rd H a u)(x:cS P w H h):bS P w H h a u:=by
 rcases r with r|⟨o,r⟩
 .exact x a u r
 .obtain ⟨_,q⟩:=x a _ r
  exact q
def pb:Option HO->Prop
 |some (.lst _)=>True
 |some (.dK _)=>True
 |some (.dT _)=>True
 |some (.set _ _)=>True
 |some (.ins _ _ _)=>True
 |some (.ext _)=>True
 |_=>False
section
variable {P:Program}{w:World}{H:Hp}{h h':Heap}{x e:Addr}{o':HO}
def cS.write (s:cS P w H h)(g:pb (H x))(o:e=x\/H e=some (.own x))(k:∀b u,b≠e->h.get? b=some u->h'.get? b=some u)(m:∃u,h'.get? e=some u)
  (n:bS P w (upd H x o') h' x o'):cS P w (upd H x o') h':=λb u q=>by
 have d:∀c y,H c=some (.own y)->c≠x:=λc y r z=>by subst z;rw [r] at g;exact g
 have f:∀c i,H c=some (.tup i)->c≠x:=λc i r z=>by subst z;rw [r] at g;exact g
 by_cases j:b=x
 .subst j;rw [aN] at q;cases q;exact n
 .rw [aA j] at q
  by_cases a:b=e
  .have p:H b=some (.own x):=by
    rcases o with z|z
    .exact absurd (a.trans z) j
    .rw [a];exact z
   rw [q] at p;cases p
   obtain ⟨v,t⟩:=m
   exact ⟨v,by rw [a];exact t⟩
  .refine (s b u q).jE (λc v l r=>k c v ?_ r) (λc r=>by rw [aA<|d c b r];exact r) λc i r=>by rw [aA<|f c i r];exact r
   rcases l with rfl|l
   .exact a
   .rintro rfl
    rcases o with z|z
    .exact d c b l z
    .rw [l] at z;cases z;exact j rfl
end
structure Un (fs ex:List Addr)(H H':Hp)(h h':Heap):Prop where
 keep:∀b o,h.get? b=some o->H b=none->b∉fs->b∉ex->h'.get? b=some o
 slot:∀b o,h.get? b=some o->H b=none->b∈fs->b∉ex->∃sl,h'.get? b=some {o with slots:=sl}
 free:∀b o,h.get? b=some o->H b=none->b∉ex->H' b=none
 there:∀b o,h.get? b=some o->b∉ex->∃o',h'.get? b=some o'
 iu:∀b xs,H b=some (.tup xs)->H' b=some (.tup xs)
 ie:∀b o u,H b=some (.cL o u)->H' b=some (.cL o u)
 iC:∀b ps,H b=some (.jz ps)->∃more,H' b=some (.jz (ps++more))
section
variable {fs fs' ex ex':List Addr}{H H1 H2:Hp}{h h1 h2 h':Heap}{a x e:Addr}{o:HO}
def Un.any(u:Un fs ex H H1 h h1)(q:h.get? b=some c)(n:H b=none)(d:b∉ex):∃g,h1.get? b=some {c with slots:=g}:=by
 by_cases f:b∈fs
 .exact u.slot b c q n f d
 .exact ⟨c.slots,u.keep b c q n f d⟩
def Un.kept (k:∀b u,h.get? b=some u->h'.get? b=some u):Un fs ex H H h h':=
 ⟨λb c q _ _ _=>k b c q,λb c q _ _ _=>⟨c.slots,k b c q⟩,λ_ _ _ n _=>n,λb c q _=>⟨c,k b c q⟩,λ_ _ q=>q,λ_ _ _ q=>q,λ_ d q=>⟨#[],by rw [q];simp⟩⟩
def Un.refl:Un fs ex H H h h:=Un.kept λ_ _ q=>q
def Un.laid (k:∀b u,h.get? b=some u->h'.get? b=some u)(hp:h.objs.size<=a)(hn:H a=none):Un fs ex H (upd H a o) h h' where
 keep:=λb u q _ _ _=>k b u q
 slot:=λb u q _ _ _=>⟨u.slots,k b u q⟩
 free:=λb u q n _=>by rw [aA<|LY<|L4 (LL q) hp];exact n
 there:=λb u q _=>⟨u,k b u q⟩
 iu:=λb xs q=>by rw [aA<|cU q hn];exact q
 ie:=λb u xs q=>by rw [aA<|cU q hn];exact q
 iC:=λb ps q=>⟨#[],by rw [aA<|cU q hn,q];simp⟩
def Un.write (d:pb (H x))(l:e=x\/H e=some (.own x))(k:∀b u,b≠e->h.get? b=some u->h'.get? b=some u)(f:∃u,h'.get? e=some u):Un fs ex H (upd H x o) h h':=by
 have i:∀b,H b=none->b≠x:=λb n z=>by subst z;rw [n] at d;exact d
 have j:∀b,H b=none->b≠e:=λb n z=>by
  subst z
  rcases l with r|r
  .exact i b n r
  .rw [n] at r;cases r
 have g:∀b u,H b=some u->¬pb (some u)->b≠x:=λb u q m z=>by subst z;rw [q] at d;exact m d
 refine ⟨λb u q n _ _=>k b u (j b n) q,λb u q n _ _=>⟨u.slots,k b u (j b n) q⟩,λb u q n _=>by rw [aA<|i b n];exact n,λb u q _=>?_,
  λb p q=>by rw [aA<|g b _ q λz=>z];exact q,λb u p q=>by rw [aA<|g b _ q λz=>z];exact q,λb s q=>⟨#[],by rw [aA<|g b _ q λz=>z,q];simp⟩⟩
 by_cases c:b=e
 .subst c;exact f
 .exact ⟨u,k b u c q⟩
end
def sY (h:Heap)(H:Hp):List Addr:=(List.range h.objs.size).filter λa=>(H a).isSome
def jY (h:Heap)(H:Hp):Heap:=PySem.W.hideAll h (sY h H)
def HN (h:Heap)(H:Hp):(jY h H).objs.size=h.objs.size:=W.hideAll_size _ _
def FA{h:Heap}{H:Hp}(e:h.get? b=some o)(n:H b=none):(jY h H).get? b=some o:=
 W.hideAll_get _ e λa=>by
  have q:(H b).isSome=true:=(Ly.mp a).2
  rw [n] at q;simp at q
def DR(e:(jY h H).get? b=some o):h.get? b=some o/\H b=none:=by
 have a:h.get? b=some o:=W.of_hideAll (sY h H) e
 refine ⟨a,?_⟩
 cases q:H b with
 |none=>rfl
 |some x=>
  have c:b∈sY h H:=Ly.mpr ⟨NY.mpr<|LL a,by simp [q]⟩
  have z:(jY h H).get? b=none:=W.hideAll_none (sY h H) c
  rw [z] at e;cases e
end L2
namespace L2
open PySem PySem.Spec PyProof.Rows
structure Mod (K:PySem.W.Frag)(mg:Str->Option Value)(base:Heap):Prop where
 oV:K.In base
 glob:base.Ns mainGlobals mg
 blt:∃mb,base.Ns builtinsNs mb/\∀x:Str,x≠"__name__"->mb x=bootBuiltins x
 nolimit:base.NoLimit
structure Cx where
 prog:Program
 w:World
 K:PySem.W.Frag
 mg:Str->Option Value
 base:Heap
 A:Around
 N:List Str
 s₀:Shared
 H₀:Hp
 env:Env
 outer:List Env
 stack:List Env
 ex:List Addr
 fn:Str->Bool
 calm:Bool
 pn:List (Addr×Obj)
 xe:Value->Shared->Prop
def ia (l:List Env):List Addr:=l.filterMap (·.frame)
abbrev Cx.fs (X:Cx):List Addr:=ia X.outer
def pJ (sc:Scope)(x:Str):Prop:=sc.names.lookup x=some .local\/sc.names.lookup x=some .cell\/sc.names.lookup x=some .free
def Loc (sc:Scope)(x:Str):Prop:=sc.names.lookup x=some .local\/sc.names.lookup x=some .cell
def Look (env:Env)(h:Heap)(m:Str->Option Value)(x:Str)(u:Value):Prop:=
 (env.kindOf x=some .local/\m x=some u)\/((env.kindOf x=some .cell\/env.kindOf x=some .free)/\∃c,env.cells.lookup x=some c/\h.IsCell c (some u))
structure Cx.Ok (X:Cx):Prop where
 mod:Mod X.K X.mg X.base
 kind:X.env.scope.kind=.function
 glob:X.env.globals=mainGlobals
 blt:X.env.builtins=builtinsNs
 above:X.s₀.heap.objs.size<=X.env.locals
 inj:∀x y c,X.env.cells.lookup x=some c->X.env.cells.lookup y=some c->x=y
 has:∀x,(X.env.kindOf x=some .cell\/X.env.kindOf x=some .free)->∃c,X.env.cells.lookup x=some c
 nI:∀x c,X.fn x=true->X.env.cells.lookup x=some c->X.s₀.heap.objs.size<=c
 hd:X.calm=true->X.A.handled=none
 frames:X.A.frames=some X.stack
 pi:X.stack=X.outer\/(X.stack=X.env::X.outer/\X.env.frame=some X.env.locals)
 wC:∀b∈X.ex,b≠X.env.locals/\∀x c,X.env.cells.lookup x=some c->c≠b
 bs:∀b o,X.base.get? b=some o->X.s₀.heap.get? b=some o/\X.H₀ b=none
 jV:X.base.objs.size<=X.s₀.heap.objs.size
 nU:∀b o,X.base.get? b=some o->b∉X.ex
 pX:∀b∈X.ex,b∉X.fs
 gQ:X.s₀.heap.FunFrames X.base X.outer
 kI:∀b∈X.fs,X.H₀ b=none
structure Inv (X:Cx)(pins:List (Addr×Obj))(σ:List (Option V))(H:Hp)(s:Shared):Prop where
 ok:X.Ok
 os:s.os=X.s₀.os
 bare:AllBare s.gens
 base:Un X.fs X.ex X.H₀ H X.s₀.heap s.heap
 loc:∃m,s.heap.Ns X.env.locals m/\∀(i:Nat) (x:Str) (v:V),X.N[i]?=some x->σ[i]?=some (some v)->pJ X.env.scope x->∃u,RelV v u/\Look X.env s.heap m x u
 cell:∀x c,X.env.cells.lookup x=some c->∃v,s.heap.IsCell c v
 free:H X.env.locals=none
 gO:∀x c,X.env.cells.lookup x=some c->H c=none
 pin:∀p∈X.pn++pins,s.heap.get? p.1=some p.2/\H p.1=none/\p.1≠X.env.locals/\p.1∉X.fs/\∀v,p.2.data≠.cell v
 ay:cS X.prog X.w H s.heap
 len:σ.length=X.N.length
section
variable {X:Cx}{pins:List (Addr×Obj)}{σ:List (Option V)}{H H':Hp}{s:Shared}{h':Heap}
def Cx.Ok.Gu(a:X.Ok)(e:X.base.get? b=some o):b∉X.fs:=λc=>by
 have:=(a.gQ.mem c).1
 rw [e] at this;cases this
theorem Inv.bs (I:Inv X pins σ H s):∀b o,X.base.get? b=some o->s.heap.get? b=some o/\H b=none:=λb o e=>
 ⟨I.base.keep b o (I.ok.bs b o e).1 (I.ok.bs b o e).2 (I.ok.Gu e)<|I.ok.nU b o e,I.base.free b o (I.ok.bs b o e).1 (I.ok.bs b o e).2<|I.ok.nU b o e⟩
def Inv.bk (I:Inv X pins σ H s):∀b o,X.base.get? b=some o->s.heap.get? b=some o:=λb o e=>(I.bs b o e).1
theorem Inv.mod (I:Inv X pins σ H s):Mod X.K X.mg X.base:=I.ok.mod
def Inv.dC (I:Inv X pins σ H s):X.K.In s.heap:=I.ok.mod.oV.keeps I.bk
theorem Inv.lt (I:Inv X pins σ H s):X.env.locals<s.heap.objs.size:=let ⟨_,a,_⟩:=I.loc;a.lt
def Inv.sz (I:Inv X pins σ H s):X.s₀.heap.objs.size<=s.heap.objs.size:=LN I.ok.above<|MK I.lt
def Inv.FF(I:Inv X pins σ H s)(h:s.heap.objs.size<=a):a∉X.fs:=λb=>by
 obtain ⟨_,o,c,_⟩:=I.ok.gQ.mem b
 exact absurd (L4 (LL c)<|LN I.sz h)<|MI _
def Inv.jX (I:Inv X pins σ H s):∀x c,X.env.cells.lookup x=some c->c≠X.env.locals:=λx c e z=>by
 obtain ⟨v,o,d,f⟩:=I.cell x c e
 obtain ⟨m,⟨g,h,i,a,b,_⟩,_⟩:=I.loc
 rw [z,a] at d;cases d;rw [b] at f;cases f
theorem Inv.gQ (I:Inv X pins σ H s):s.heap.FunFrames X.base X.outer:=by
 have all:∀(l:List Env),(∀b∈ia l,b∈X.fs)->X.s₀.heap.FunFrames X.base l->s.heap.FunFrames X.base l:=by
  intro l
  induction l with
  |nil=>intro _ _;trivial
  |cons g r h=>
   intro f i
   obtain ⟨j,⟨L,o,a,k,m,n⟩,p⟩:=i
   have c:L∈X.fs:=f L (by unfold ia;rw [Nc,a];exact Lj)
   obtain ⟨q,e⟩:=I.base.slot L o m (I.ok.kI L c) c λz=>I.ok.pX L z c
   exact ⟨j,⟨L,_,a,k,e,n⟩,h (λb d=>f b (by unfold ia;rw [Nc,a];exact Lg _ d)) p⟩
 exact all X.outer (λ_ d=>d) I.ok.gQ
theorem Inv.stack (I:Inv X pins σ H s):s.heap.FunFrames X.base X.stack:=by
 rcases I.ok.pi with e|⟨e,a⟩
 .rw [e];exact I.gQ
 .rw [e]
  obtain ⟨m,b,_⟩:=I.loc
  refine .cons (by rw [I.ok.kind];decide) a b ?_ I.gQ
  exact Heap.get?_none_of_le<|LN I.ok.jV I.ok.above
def Inv.wR (I:Inv X pins σ H s):∀b∈ia X.stack,b∈X.env.locals::X.fs:=λb a=>by
 rcases I.ok.pi with e|⟨e,c⟩
 .rw [e] at a;exact Lg _ a
 .rw [e] at a
  unfold ia at a
  rw [Nc,c] at a
  exact a
def Inv.Ac (I:Inv X pins σ H s):∀b∈ia X.stack,H b=none:=λb a=>by
 rcases Lw.mp (I.wR b a) with e|a
 .rw [e];exact I.free
 .obtain ⟨_,o,c,_⟩:=I.ok.gQ.mem a
  exact I.base.free b o c (I.ok.kI b a) λz=>I.ok.pX b z a
def Inv.step{ch:ZX}(I:Inv X pins σ H s)
  (f:∀b∈ch,(b∈X.ex\/X.s₀.heap.objs.size<=b)/\b≠X.env.locals/\(∀x c,X.env.cells.lookup x=some c->c≠b)/\∀p∈X.pn++pins,p.1≠b)
  (keep:∀b o,b≠X.env.locals->b∉X.fs->b∉ch->s.heap.get? b=some o->H b=none->h'.get? b=some o)
  (y:∀b o,b≠X.env.locals->b∈X.fs->b∉ch->s.heap.get? b=some o->H b=none->∃O,h'.get? b=some {o with slots:=O}) (free:∀b o,b∉ch->s.heap.get? b=some o->H b=none->H' b=none)
  (B:∀b o,b∉ch->s.heap.get? b=some o->∃G,h'.get? b=some G)
  (iu:∀b A,H b=some (.tup A)->H' b=some (.tup A)) (ie:∀b o u,H b=some (.cL o u)->H' b=some (.cL o u)) (iC:∀b N,H b=some (.jz N)->∃J,H' b=some (.jz (N++J)))
  (ns:∀m,s.heap.Ns X.env.locals m->h'.Ns X.env.locals m) (ay:cS X.prog X.w H' h') (hg:AllBare g'):
  Inv X pins σ H' {s with heap:=h',gens:=g',drawn:=d',toks:=t'}:=by
 have L:∀b o,X.s₀.heap.get? b=some o->b≠X.env.locals:=λb o e=>LY<|L4 (LL e) I.ok.above
 have j:∀b o,X.s₀.heap.get? b=some o->b∉X.ex->b∉ch:=λb o e a C=>by
  rcases (f b C).1 with z|z
  .exact a z
  .exact absurd (L4 (LL e) z)<|MI _
 have g:∀x c,X.env.cells.lookup x=some c->∀v,s.heap.IsCell c v->h'.IsCell c v:=λx c e v q0=>by
  obtain ⟨o,E,Q⟩:=q0
  have h:c∉ch:=λz=>(f c z).2.2.1 x c e rfl
  by_cases U:c∈X.fs
  .obtain ⟨O,q⟩:=y c o (I.jX x c e) U h E (I.gO x c e)
   exact ⟨_,q,Q⟩
  .exact ⟨o,keep c o (I.jX x c e) U h E<|I.gO x c e,Q⟩
 refine ⟨I.ok,I.os,hg,⟨λb o e n C a=>?_,λb o e n C a=>?_,λb o e n a=>?_,λb o e a=>?_,λb A e=>iu b A<|I.base.iu b A e,λb o A e=>ie b o A<|I.base.ie b o A e,λb N e=>?_⟩,?_,λx c e=>?_,?_,λx c e=>?_,λp Y=>?_,ay,I.len⟩
 .exact keep b o (L b o e) C (j b o e a) (I.base.keep b o e n C a)<|I.base.free b o e n a
 .obtain ⟨O,t⟩:=I.base.slot b o e n C a
  obtain ⟨T,M⟩:=y b _ (L b o e) C (j b o e a) t<|I.base.free b o e n a
  exact ⟨T,M⟩
 .obtain ⟨G,t⟩:=I.base.there b o e a
  exact free b G (j b o e a) t<|I.base.free b o e n a
 .obtain ⟨G,t⟩:=I.base.there b o e a
  exact B b G (j b o e a) t
 .obtain ⟨m1,t⟩:=I.base.iC b N e
  obtain ⟨m2,M⟩:=iC b _ t
  exact ⟨m1++m2,by rw [M,Array.append_assoc]⟩
 .obtain ⟨m,hn,hl⟩:=I.loc
  refine ⟨m,ns m hn,λi x v t M e3=>?_⟩
  obtain ⟨u,r,l⟩:=hl i x v t M e3
  refine ⟨u,r,?_⟩
  rcases l with l|⟨k,c,e,z⟩
  .exact .inl l
  .exact .inr ⟨k,c,e,g x c e _ z⟩
 .obtain ⟨v,z⟩:=I.cell x c e
  exact ⟨v,g x c e v z⟩
 .obtain ⟨m,⟨o,_,_,E,_⟩,_⟩:=I.loc
  exact free _ o (λz=>(f _ z).2.1 rfl) E I.free
 .obtain ⟨v,o,E,Q⟩:=I.cell x c e
  exact free c o (λz=>(f c z).2.2.1 x c e rfl) E<|I.gO x c e
 .obtain ⟨e,n,ne,nf,d⟩:=I.pin p Y
  have h:p.1∉ch:=λz=>(f p.1 z).2.2.2 p Y rfl
  exact ⟨keep p.1 p.2 ne nf h e n,free p.1 p.2 h e n,ne,nf,d⟩
def Inv.un(I:Inv X pins σ H s)(u:Un X.fs [] H H' s.heap h')(ay:cS X.prog X.w H' h'):Inv X pins σ H' {s with heap:=h',toks:=t'}:=by
 obtain ⟨m,⟨o,k,l,g,r⟩,_⟩:=id I.loc
 obtain ⟨p,h⟩:=u.any g I.free Z8
 exact I.step (g':=s.gens) (d':=s.drawn) (ch:=[]) (λ_ z=>nomatch z) (λb o _ c _ e n=>u.keep b o e n c Z8) (λb o _ c _ e n=>u.slot b o e n c Z8) (λb o _ e n=>u.free b o e n Z8) (λb o _ e=>u.there b o e Z8) u.iu u.ie u.iC (λq i=>by
  obtain ⟨t,d,f,a,j⟩:=i
  rw [g] at a;cases a
  exact ⟨_,d,f,h,j⟩) ay I.bare
def Inv.call(I:Inv X pins σ H s)(u:Un (ia X.stack) ch H H' s.heap h')(ay:cS X.prog X.w H' h')(k:AllBare g')
  (d:∀b∈ch,(b∈X.ex\/X.s₀.heap.objs.size<=b)/\b≠X.env.locals/\(∀x c,X.env.cells.lookup x=some c->c≠b)/\∀p∈X.pn++pins,p.1≠b):
  Inv X pins σ H' {s with heap:=h',gens:=g',drawn:=d',toks:=t'}:=by
 obtain ⟨m,⟨o,v,y,j,r⟩,_⟩:=id I.loc
 obtain ⟨A,g⟩:=u.any j I.free λz=>(d _ z).2.1 rfl
 exact I.step (ch:=ch) d (λb o g l a e n=>u.keep b o e n (λz=>(Lw.mp<|I.wR b z).elim g l) a) (λb o _ _ a e n=>u.any e n a) (λb o a e n=>u.free b o e n a) (λb o a e=>u.there b o e a) u.iu u.ie u.iC (λB q=>by
  obtain ⟨C,h,i,f,t⟩:=q
  rw [j] at f;cases f
  exact ⟨_,h,i,g,t⟩) ay k
def Inv.turned(I:Inv X pins σ H s)(k:∀b o,b≠a->s.heap.get? b=some o->h'.get? b=some o)(h:H a=none)(g:a≠X.env.locals)
  (i:a∈X.ex\/X.s₀.heap.objs.size<=a) (j:∀x c,X.env.cells.lookup x=some c->c≠a) (l:∀p∈X.pn++pins,p.1≠a):Inv X pins σ H {s with heap:=h',toks:=t'}:=by
 have f:∀b u,H b=some u->b≠a:=λb u e z=>by rw [z,h] at e;cases e
 refine I.step (g':=s.gens) (d':=s.drawn) (ch:=[a]) (λb t=>?_) (λb o _ _ d e _=>k b o (λz=>d (by simp [z])) e) (λb o _ _ d e _=>⟨o.slots,k b o (λz=>d (by simp [z])) e⟩) (λ_ _ _ _ n=>n)
  (λb o d e=>⟨o,k b o (λz=>d (by simp [z])) e⟩) (λ_ _ e=>e) (λ_ _ _ e=>e) (λb C e=>⟨#[],by rw [e];simp⟩) (λm w=>?_) (λb u e=>?_) I.bare
 .have e:b=a:=by simpa using t
  subst e
  exact ⟨i,g,j,l⟩
 .obtain ⟨o,y,A,B,r⟩:=w
  exact ⟨o,y,A,k _ o (Ml g) B,r⟩
 .refine (I.ay b u e).jE (λc v d q=>k c v ?_ q) (λ_ q=>q) λ_ _ q=>q
  rcases d with z|z
  .rw [z];exact f b u e
  .exact f c _ z
def Inv.tok (I:Inv X pins σ H s)(t:Nat):Inv X pins σ H {s with toks:=t}:=I.un (h':=s.heap) (t':=t) Un.refl I.ay
theorem Inv.kept(I:Inv X pins σ H s)(k:∀b u,s.heap.get? b=some u->h'.get? b=some u):Inv X pins σ H {s with heap:=h',toks:=t'}:=I.un (Un.kept k)<|I.ay.kept k
theorem Inv.laid(I:Inv X pins σ H s)(k:∀b u,s.heap.get? b=some u->h'.get? b=some u)(c:s.heap.objs.size<=a)(d:bS X.prog X.w (upd H a o) h' a o):
  Inv X pins σ (upd H a o) {s with heap:=h',toks:=t'}:=I.un (Un.laid k c<|I.ay.fresh c)<|I.ay.laid k c d
theorem Inv.write(I:Inv X pins σ H s)(d:pb (H x))(f:e=x\/H e=some (.own x))(k:∀b u,b≠e->s.heap.get? b=some u->h'.get? b=some u)(a:∃u,h'.get? e=some u)
  (c:bS X.prog X.w (upd H x o) h' x o):Inv X pins σ (upd H x o) {s with heap:=h',toks:=g}:=I.un (Un.write d f k a)<|I.ay.write d f k a c
def Inv.xC {a:ZV}(I:Inv X pins σ H s)(h:∀p∈a,s.heap.get? p.1=some p.2/\H p.1=none/\p.1≠X.env.locals/\p.1∉X.fs/\∀v,p.2.data≠.cell v):Inv X a σ H s:=
 ⟨I.ok,I.os,I.bare,I.base,I.loc,I.cell,I.free,I.gO,λp b=>(LI.mp b).elim (λz=>I.pin p<|Lu _ z)<|h p,I.ay,I.len⟩
def BA{N:ZY}(c:N.Nodup){i j:Nat}(a:N[i]?=some x)(b:N[j]?=some x):i=j:=by
 obtain ⟨f,d⟩:=Li.mp a
 obtain ⟨g,e⟩:=Li.mp b
 exact (List.getElem_inj c).mp<|d.trans e.symm
def Cp{i:Nat}{Q:Unit->Shared->Prop}(I:Inv X pins σ H s)(hN:X.N.Nodup)(hi:X.N[i]?=some x)(B:Loc X.env.scope x)(r:RelV v u)
  (h:∀s',Inv X pins (σ.set i (some v)) H s'->(∃a,Heap.SameBut a s.heap s'.heap/\(a=X.env.locals\/X.env.cells.lookup x=some a))->Q () s') (hf:X.fn x=true\/X.env.scope.names.lookup x=some .local:=by first|exact .inl rfl|exact .inr rfl|assumption):wpAny M A (storeName X.env x u) Q E s:=by
 obtain ⟨m,hn,hl⟩:=id I.loc
 have ac:(X.env.scope.kind==.class||(X.env.scope.kind==.module&&X.env.locals !=X.env.globals))=false:=by rw [I.ok.kind];rfl
 have J:i<σ.length:=by rw [I.len];exact (Li.mp hi).1
 have jX:=I.jX
 have g:∀{a:Addr} {Y:Heap},(∃o,s.heap.get? a=some o/\H a=none)->Heap.SameBut a s.heap Y->cS X.prog X.w H Y:=λ{a Y} ha f b ob e=>by
  obtain ⟨_,_,C⟩:=ha
  refine (I.ay b ob e).jE (λc w' t q=>(f.2 c ?_).trans q) (λ_ q=>q) λ_ _ q=>q
  rintro rfl
  rcases t with rfl|t
  .rw [C] at e;cases e
  .rw [C] at t;cases t
 rcases B with L|L
 .refine wpAny_storeName_local L hn (λY ao f=>?_) ac
  obtain ⟨oL,_,_,as,_⟩:=id hn
  refine h _ ⟨I.ok,I.os,I.bare,⟨λb o e n O B=>?_,λb o e n O B=>?_,I.base.free,λb o e B=>?_,I.base.iu,I.base.ie,I.base.iC⟩,⟨_,ao,λj y v' l G e3=>?_⟩,λy c e=>?_,I.free,I.gO,λp hp=>?_,g ⟨oL,as,I.free⟩ f,by simpa using I.len⟩ ⟨_,f,.inl rfl⟩
  .exact (f.2 b<|LY<|L4 (LL e) I.ok.above).trans<|I.base.keep b o e n O B
  .obtain ⟨sl,l⟩:=I.base.slot b o e n O B
   exact ⟨sl,(f.2 b<|LY<|L4 (LL e) I.ok.above).trans l⟩
  .obtain ⟨o',l⟩:=I.base.there b o e B
   exact ⟨o',(f.2 b<|LY<|L4 (LL e) I.ok.above).trans l⟩
  .by_cases T:j=i
   .subst T
    rw [hi] at l;cases l
    rw [Lx J] at G
    cases G
    exact ⟨u,r,.inl ⟨L,by simp⟩⟩
   .rw [Lm<|Ml T] at G
    obtain ⟨u',r',q⟩:=hl j y v' l G e3
    refine ⟨u',r',?_⟩
    rcases q with ⟨k,e⟩|⟨k,c,e,z⟩
    .refine .inl ⟨k,?_⟩
     have:y≠x:=λe=>T<|BA hN l<|e▸hi
     simp [this,e]
    .exact .inr ⟨k,c,e,z.sameBut f<|jX y c e⟩
  .obtain ⟨w',z⟩:=I.cell y c e
   exact ⟨w',z.sameBut f<|jX y c e⟩
  .obtain ⟨e,n,ne,nf,d⟩:=I.pin p hp
   exact ⟨(f.2 p.1 ne).trans e,n,ne,nf,d⟩
 .have U:X.fn x=true:=by
   rcases hf with z|z
   .exact z
   .rw [z] at L;cases L
  obtain ⟨c,t⟩:=I.ok.has x (.inl L)
  obtain ⟨w',z⟩:=I.cell x c t
  refine wpAny_storeName_cell I.ok.kind L t z λY af f=>?_
  obtain ⟨oc,aj,am⟩:=id z
  refine h {s with heap:=Y} ⟨I.ok,I.os,I.bare,⟨λb o e n O B=>?_,λb o e n O B=>?_,I.base.free,λb o e B=>?_,I.base.iu,I.base.ie,I.base.iC⟩,⟨m,hn.sameBut f<|Ml<|jX x c t,λj y v' l G e3=>?_⟩,λy c' e=>?_,I.free,I.gO,λp hp=>?_,g ⟨oc,aj,I.gO x c t⟩ f,by simpa using I.len⟩ ⟨c,f,.inr t⟩
  .exact (f.2 b<|LY<|L4 (LL e)<|I.ok.nI x c U t).trans<|I.base.keep b o e n O B
  .obtain ⟨sl,l⟩:=I.base.slot b o e n O B
   exact ⟨sl,(f.2 b<|LY<|L4 (LL e)<|I.ok.nI x c U t).trans l⟩
  .obtain ⟨o',l⟩:=I.base.there b o e B
   exact ⟨o',(f.2 b<|LY<|L4 (LL e)<|I.ok.nI x c U t).trans l⟩
  .by_cases T:j=i
   .subst T
    rw [hi] at l;cases l
    rw [Lx J] at G
    cases G
    exact ⟨u,r,.inr ⟨.inl L,c,t,af⟩⟩
   .rw [Lm<|Ml T] at G
    obtain ⟨u',r',q⟩:=hl j y v' l G e3
    refine ⟨u',r',?_⟩
    rcases q with q|⟨k,c',e,z'⟩
    .exact .inl q
    .refine .inr ⟨k,c',e,z'.sameBut f ?_⟩
     rintro rfl
     exact T<|BA hN l<|I.ok.inj _ _ _ e t▸hi
  .by_cases an:c'=c
   .subst an;exact ⟨_,af⟩
   .obtain ⟨w2,z2⟩:=I.cell y c' e
    exact ⟨w2,z2.sameBut f an⟩
  .obtain ⟨e,n,ne,nf,d⟩:=I.pin p hp
   refine ⟨(f.2 p.1 ?_).trans e,n,ne,nf,d⟩
   intro q
   rw [q,aj] at e
   have q':oc=p.2:=LB e
   exact d w' (by rw [<-q'];exact am)
def Cg{i:Nat}{Q:Unit->Shared->Prop}(I:Inv X pins σ H s)(b:X.N.Nodup)(c:X.N[i]?=some x)(d:Loc X.env.scope x)(r:RelV v u)
  (h:∀a,Inv X pins (σ.set i (some v)) H a->Q () a) (e:X.fn x=true\/X.env.scope.names.lookup x=some .local:=by first|exact .inl rfl|exact .inr rfl|assumption):wpAny M A (storeName X.env x u) Q E s:=
 Cp I b c d r (λa f _=>h a f) e
def Inv.Go{a:Shared}(I:Inv X pins σ H s)(f:a.os=s.os)(u:Un (ia X.stack) ch H H' s.heap a.heap)(ay:cS X.prog X.w H' a.heap)(g:AllBare a.gens)
  (d:∀b∈ch,(b∈X.ex\/X.s₀.heap.objs.size<=b)/\b≠X.env.locals/\(∀x c,X.env.cells.lookup x=some c->c≠b)/\∀p∈X.pn++pins,p.1≠b):Inv X pins σ H' a:=by
 obtain ⟨l,h,i,j,k⟩:=a
 have e:k=s.os:=f
 subst e
 exact I.call (g':=h) (t':=j) (d':=i) u ay g d
end
abbrev XK:=Value->Option Addr->Hp->Prop
abbrev St:=List (Option V)
abbrev VK:=V->Hp->Prop
abbrev TE:=St->Hp->VK->Prop
abbrev TT:=St->Hp->(Bool->Hp->Prop)->Prop
abbrev TA:=St->Hp->(List V->Hp->Prop)->Prop
structure Ends where
 nx:St->Hp->Prop
 rt:VK
 bk:St->Hp->Prop:=fun _ _=>False
 ct:St->Hp->Prop:=fun _ _=>False
abbrev TS:=Ends->St->Hp->Prop
def EP (X:Cx)(pins:List (Addr×Obj))(σ:St)(Q:VK)(u:Value)(s':Shared):Prop:=∃v H',Inv X pins σ H' s'/\RelV v u/\Q v H'
def TP (X:Cx)(pins:List (Addr×Obj))(σ:St)(Q:Bool->Hp->Prop)(b:Bool)(s':Shared):Prop:=∃H',Inv X pins σ H' s'/\Q b H'
def AP (X:Cx)(pins:List (Addr×Obj))(σ:St)(Q:List V->Hp->Prop)(us:List Value)(s':Shared):Prop:=∃vs H',Inv X pins σ H' s'/\ba vs us/\Q vs H'
def SP (X:Cx)(pins:List (Addr×Obj))(D:Ends)(f:Flow)(s':Shared):Prop:=
 match f with
 |.next=>∃σ' H',Inv X pins σ' H' s'/\D.nx σ' H'
 |.brk=>∃σ' H',Inv X pins σ' H' s'/\D.bk σ' H'
 |.cont=>∃σ' H',Inv X pins σ' H' s'/\D.ct σ' H'
 |.ret u=>∃v σ' H',Inv X pins σ' H' s'/\RelV v u/\D.rt v H'
def PE (X:Cx)(e:Expr)(t:TE):Prop:=
 ∀(pins:List (Addr×Obj)) (s:Shared) (σ:St) (H:Hp) (Q:VK),Inv X pins σ H s->t σ H Q->wpAny (model X.prog X.w) X.A (eval e X.env) (EP X pins σ Q) X.xe s
def PT (X:Cx)(e:Expr)(t:TT):Prop:=
 ∀(pins:List (Addr×Obj)) (s:Shared) (σ:St) (H:Hp) (Q:Bool->Hp->Prop),Inv X pins σ H s->t σ H Q->wpAny (model X.prog X.w) X.A (isTrue e X.env (eval e X.env)) (TP X pins σ Q) X.xe s
def PW (X:Cx)(e:Expr)(t:TT):Prop:=
 ∀(fQ:Sem Value) (pins:List (Addr×Obj)) (s:Shared) (σ:St) (H:Hp) (Q:Bool->Hp->Prop),Inv X pins σ H s->t σ H Q->wpAny (model X.prog X.w) X.A (isTrue e X.env fQ) (TP X pins σ Q) X.xe s
def PW.pt(h:PW X e t):PT X e t:=h _
def PA (X:Cx)(es:List Expr)(t:TA):Prop:=
 ∀(pos:Pos) (pins:List (Addr×Obj)) (s:Shared) (σ:St) (H:Hp) (Q:List V->Hp->Prop),Inv X pins σ H s->t σ H Q->wpAny (model X.prog X.w) X.A (spliced (backTo pos (starEach es X.env))) (AP X pins σ Q) X.xe s
def PS (X:Cx)(st:Stmt)(t:TS):Prop:=
 ∀(pins:List (Addr×Obj)) (s:Shared) (σ:St) (H:Hp) (D:Ends),Inv X pins σ H s->t D σ H->wpAny (model X.prog X.w) X.A (exec st X.env) (SP X pins D) X.xe s
def gv (X:Cx)(st:List Stmt)(t:TS):Prop:=
 ∀(pins:List (Addr×Obj)) (s:Shared) (σ:St) (H:Hp) (D:Ends),Inv X pins σ H s->t D σ H->wpAny (model X.prog X.w) X.A (execs st X.env) (SP X pins D) X.xe s
def aS{c:b->Shared->Prop}(h:wpAny M A t Q E s)(d:∀a s,Q a s->c a s):wpAny M A t c E s:=MN h d λ_ _ x=>x
end L2
namespace L2
open PySem PySem.Spec PyProof.Rows
section
variable {X:Cx}
def aY (i:Nat):TE:=λσ H Q=>∃v,σ[i]?=some (some v)/\Q v H
def tC (v:V):TE:=λ_ H Q=>Q v H
def Bo{i:Nat}(o:X.N[i]?=some x)(p:pJ X.env.scope x)(j:(x==("__debug__":Str))=false:=by decide)(k:(x==("__classdict__":Str))=false:=by decide):PE X (.Name x g) (aY i):=by
 intro f s q H Q I h
 obtain ⟨v,e,h⟩:=h
 obtain ⟨m,t,w⟩:=I.loc
 obtain ⟨u,r,l⟩:=w i x v o e p
 have b:EP X f q Q u s:=⟨v,H,I,r,h⟩
 rcases l with ⟨d,y⟩|⟨d,c,n,a⟩
 .exact wpAny_Name (wpAny_loadName_local I.ok.kind d t y b) j
 .rcases d with d|d
  .exact wpAny_Name (wpAny_loadName_cell I.ok.kind d n a b) j
  .exact wpAny_Name (wpAny_loadName_free I.ok.kind d n a b k) j
def aO {i j a}:PE X (.Constant (.int i) j a) (tC (.int i)):=λ_ _ _ H _ I h=>wpAny_Constant_int ⟨.int i,H,I.tok _,⟨_,rfl⟩,h⟩
def eh {b j a}:PE X (.Constant (.bool b) j a) (tC (.bl b)):=λ_ _ _ H _ I h=>Constant_bool ⟨.bl b,H,I,rfl,h⟩
def vz {j a}:PE X (.Constant .none j a) (tC .aq):=λ_ _ _ H _ I h=>Constant_none ⟨.aq,H,I,rfl,h⟩
def gF {x j a}:PE X (.Constant (.str x) j a) (tC (.str x)):=λ_ _ _ H _ I h=>Calls.Constant_str ⟨.str x,H,I.tok _,⟨_,rfl⟩,h⟩
def Gl (X:Cx)(x:Str):Prop:=X.env.kindOf x=some .globalImplicit
def vn{Q:ZT}(I:Inv X a c H s)(d:Gl X x)(e:X.mg x=some u)(h:Q u s)
  (f:(x==("__debug__":Str))=false:=by decide):wpAny (model X.prog X.w) X.A (eval (.Name x b) X.env) Q E s:=
 O7 I.ok.kind d (Calls.loadGlobal_global (by rw [I.ok.glob];exact I.mod.glob.keeps I.bk) e h) f
def je{Q:ZT}(I:Inv X a c H s)(d:Gl X x)(e:X.mg x=none)(f:bootBuiltins x=some u)(h:Q u s)
  (g:x≠"__name__":=by decide) (i:(x==("__debug__":Str))=false:=by decide):wpAny (model X.prog X.w) X.A (eval (.Name x b) X.env) Q E s:=by
 obtain ⟨l,j,k⟩:=I.mod.blt
 exact O7 I.ok.kind d (Calls.loadGlobal_builtin (by rw [I.ok.glob];exact I.mod.glob.keeps I.bk) e (by rw [I.ok.blt];exact j.keeps I.bk) ((k x g).trans f) h) i
def ua(b:Gl X x)(c:X.mg x=some u)(r:RelV v u)(d:(x==("__debug__":Str))=false:=by decide):PE X (.Name x a) (tC v):=
 λ_ _ _ H _ I h=>vn I b c ⟨v,H,I,r,h⟩ d
def Jo(b:Gl X x)(c:X.mg x=none)(d:bootBuiltins x=some u)(r:RelV v u)(e:x≠"__name__":=by decide)(f:(x==("__debug__":Str))=false:=by decide):PE X (.Name x a) (tC v):=
 λ_ _ _ H _ I h=>je I b c d ⟨v,H,I,r,h⟩ e f
variable {a b:Expr}{ta tb:TE}{pos:Pos}
def PC (X:Cx)(op:CmpOp)(a b:Expr)(t:TE):Prop:=
 ∀(pins:List (Addr×Obj)) (s:Shared) (σ:St) (H:Hp) (Q:VK),Inv X pins σ H s->t σ H Q->
  wpAny (model X.prog X.w) X.A (eval a X.env) (λv s₁=>wpAny (model X.prog X.w) X.A (eval b X.env) (λu s₂=>wpAny (model X.prog X.w) X.A (compareOp op v u) (EP X pins σ Q) X.xe s₂) X.xe s₁) X.xe s
def tB (t:TE):TT:=λσ H Q=>t σ H λx H1=>∃c,x=.bl c/\Q c H1
def EC(h:PC X d a b t)(e:behindInMarks d b=false:=by first|exact Ig _ Z1 Z1|rfl):PE X (.Compare a [d] [b] pos) t:=λc s f H Q I g=>wpAny_Compare1 (h c s f H Q I g) e
def jt(h:PC X f a b t)(g:behindInMarks f b=false:=by first|exact Ig _ Z1 Z1|rfl):PT X (.Compare a [f] [b] pos) (tB t):=by
 intro e s i H Q I j
 refine wpAny_isTrue_Compare1 (aS (h e s i H _ I j) λv p g=>aS g λu r k=>aS k λc w ⟨x,l,m,n,o⟩=>?_) g
 obtain ⟨d,rfl,q⟩:=o
 cases n
 exact MG ⟨l,m,q⟩
def dN(h:PE X e t)(f:∀fQ,isTrue e X.env fQ=(do let v<-fQ;standAt e.pos;holding [v] (truthy v)):=by intro _;rfl):PT X e (tB t):=by
 intro c s g H Q I i
 refine isTrue_plain (aS (h c s g H _ I i) λv n ⟨x,j,k,l,m⟩=>?_)<|f _
 obtain ⟨d,rfl,q⟩:=m
 cases l
 exact MG ⟨j,k,q⟩
variable {tA tB':TT}{b9:List Expr}
def wO (t u:TT):TT:=λσ H Q=>t σ H λc H1=>if c=true then u σ H1 Q else Q false H1
def BK (t u:TT):TT:=λσ H Q=>t σ H λc H1=>if c=true then Q true H1 else u σ H1 Q
def A8 (t:TT):TT:=λσ H Q=>t σ H λc H1=>Q (!c) H1
def kR (f:PT X a tA):PW X (.BoolOp .And [a] pos) tA:=by
 intro i d s g H Q I h
 refine isTrue_and<|aS (f d s g H Q I h) λc j e=>?_
 cases c with
 |true=>exact isTrue_and_nil e
 |false=>exact e
def ng (f:PT X a tA):PW X (.BoolOp .Or [a] pos) tA:=by
 intro i d s g H Q I h
 refine isTrue_or<|aS (f d s g H Q I h) λc j e=>?_
 cases c with
 |false=>exact isTrue_or_nil e
 |true=>exact e
def kG (j:PT X a tA)(k:PW X (.BoolOp .And (b::b9) pos) tB'):PW X (.BoolOp .And (a::b::b9) pos) (wO tA tB'):=by
 intro l d s e H Q I h
 refine isTrue_and<|aS (j d s e H _ I h) λc m n=>?_
 obtain ⟨f,g,i⟩:=n
 cases c with
 |true=>exact k l d m e f Q g i
 |false=>exact ⟨f,g,i⟩
def kQ (j:PT X a tA)(k:PW X (.BoolOp .Or (b::b9) pos) tB'):PW X (.BoolOp .Or (a::b::b9) pos) (BK tA tB'):=by
 intro l d s e H Q I h
 refine isTrue_or<|aS (j d s e H _ I h) λc m n=>?_
 obtain ⟨f,g,i⟩:=n
 cases c with
 |true=>exact ⟨f,g,i⟩
 |false=>exact k l d m e f Q g i
def gg (e:PT X a tA):PT X (.UnaryOp .Not a pos) (A8 tA):=by
 intro d s f H Q I h
 exact isTrue_not<|e d s f H (λc g=>Q (!c) g) I h
def sw (ta tb:TE):TE:=λσ H Q=>ta σ H λx H1=>∃c,x=.bl c/\if c=true then tb σ H1 Q else Q (.bl false) H1
def Bv (ta tb:TE):TE:=λσ H Q=>ta σ H λx H1=>∃c,x=.bl c/\if c=true then Q (.bl true) H1 else tb σ H1 Q
def AN (ta:TE):TE:=λσ H Q=>ta σ H λx H1=>∃c,x=.bl c/\Q (.bl (!c)) H1
def pr{d}(h:PE X a t):PE X (.BoolOp d [a] pos) t:=λc s e H Q I f=>BoolOp_one<|h c s e H Q I f
def n9 (j:PE X a ta)(k:PE X (.BoolOp .And (b::b9) pos) tb):PE X (.BoolOp .And (a::b::b9) pos) (sw ta tb):=by
 intro d s f H Q I h
 refine BoolOp_and<|aS (j d s f H _ I h) λv l m=>?_
 obtain ⟨x,g,i,n,e⟩:=m
 obtain ⟨c,rfl,e⟩:=e
 cases n
 refine MG ?_
 cases c with
 |true=>exact k d l f g Q i e
 |false=>exact ⟨.bl false,g,i,rfl,e⟩
def HC (j:PE X a ta)(k:PE X (.BoolOp .Or (b::b9) pos) tb):PE X (.BoolOp .Or (a::b::b9) pos) (Bv ta tb):=by
 intro d s f H Q I h
 refine BoolOp_or<|aS (j d s f H _ I h) λv l m=>?_
 obtain ⟨x,g,i,n,e⟩:=m
 obtain ⟨c,rfl,e⟩:=e
 cases n
 refine MG ?_
 cases c with
 |false=>exact k d l f g Q i e
 |true=>exact ⟨.bl true,g,i,rfl,e⟩
def Ap (f:PE X a ta):PE X (.UnaryOp .Not a pos) (AN ta):=by
 intro d s g H Q I h
 refine UnaryOp_<|aS (f d s g H _ I h) λv m i=>?_
 obtain ⟨x,j,k,l,e⟩:=i
 obtain ⟨c,rfl,e⟩:=e
 cases l
 exact not_of<|MG ⟨.bl<|!c,j,k,rfl,e⟩
end
end L2
namespace L2
open PySem PySem.Spec PyProof.Rows
def aQ (K:PySem.W.Frag)(H:Hp)(a:Addr)(xs:List V):Prop:=
 Rd H a (.lst xs)\/
  ∃(o:Obj) (its:Array Value) (n:Nat),K.lookup a=some o/\o.cls=.type "list"/\o.dict=none/\o.data=.seq its n/\its.size<=sizeLine/\ba xs its.toList
def br (K:PySem.W.Frag)(H:Hp)(a:Addr)(xs:List V):Prop:=
 Rd H a (.tup xs)\/
  ∃(o:Obj) (its:Array Value) (n:Nat),K.lookup a=some o/\o.cls=.type "tuple"/\o.data=.seq its n/\its.size<=sizeLine/\ba xs its.toList
def ID:Value->Option V
 |.none=>some .aq
 |.bool b=>some (.bl b)
 |.int i _=>some (.int i)
 |.str x _=>some (.str x)
 |.bytes b _=>some (.gc b)
 |.float b _=>some (.lz b)
 |.ref a=>some (.ref a)
 |.type n=>some (.ty n)
 |_=>none
def RelV.abs(r:RelV x u):ID u=some x:=by
 cases x with
 |aq=>cases r;rfl
 |bl _=>cases r;rfl
 |int _=>obtain ⟨t,rfl⟩:=r;rfl
 |str _=>obtain ⟨t,rfl⟩:=r;rfl
 |gc _=>obtain ⟨t,rfl⟩:=r;rfl
 |lz _=>obtain ⟨t,rfl⟩:=r;rfl
 |ref _=>cases r;rfl
 |ty _=>cases r;rfl
def RelV.inj(r:RelV x u)(q:RelV y u):x=y:=LB<|r.abs.symm.trans q.abs
theorem ba.inj:∀{a b:List V} {c:List Value},ba a c->ba b c->a=b
 |_,_,_,.nil,.nil=>rfl
 |_,_,_,.cons r t,.cons d e=>by rw [r.inj d,ba.inj t e]
section
variable {X:Cx}{pins:List (Addr×Obj)}{σ:St}{H:Hp}{s:Shared}{a:Addr}{xs ys:List V}
def aQ.of {K:W.Frag}(h:H a=some (.lst xs)):aQ K H a xs:=.inl (.inl h)
def br.of {K:W.Frag}(h:H a=some (.tup xs)):br K H a xs:=.inl (.inl h)
def Inv.list (I:Inv X pins σ H s)(h:aQ X.K H a xs):∃b:List Value,ba xs b/\PlainL s.heap a b.toArray/\xs.length<=sizeLine:=by
 rcases h with h|⟨o,b,n,c,d,f,g,i,r⟩
 .obtain ⟨z,b,n,r,e⟩:=h.ok I.ay
  exact ⟨b,r,⟨_,n,e,rfl,rfl,rfl⟩,z⟩
 .refine ⟨b.toList,r,⟨o,n,I.dC a o c,d,f,by simpa using g⟩,?_⟩
  have e:=r.length
  simp only [N6] at e
  omega
def Inv.tuple (I:Inv X pins σ H s)(h:br X.K H a xs):∃b:List Value,ba xs b/\IsTup s.heap a b.toArray/\xs.length<=sizeLine:=by
 rcases h with h|⟨o,b,n,c,d,f,g,r⟩
 .obtain ⟨z,b,r,p⟩:=h.ok I.ay
  exact ⟨b,r,p,z⟩
 .refine ⟨b.toList,r,⟨o,I.dC a o c,d,n,by simpa using f⟩,?_⟩
  have e:=r.length
  simp only [N6] at e
  omega
def Inv.ql (I:Inv X pins σ H s)(h:aQ X.K H a xs)(i:aQ X.K H a ys):xs=ys:=by
 obtain ⟨c,r,⟨o,n,e,_,_,d⟩,_⟩:=I.list h
 obtain ⟨b,j,⟨l,m,f,_,_,g⟩,_⟩:=I.list i
 rw [e] at f;cases f
 rw [d] at g
 injection g with k _
 have:c=b:=by simpa using Mq Array.toList k
 subst this
 exact r.inj j
def Inv.xn (I:Inv X pins σ H s)(h:br X.K H a xs)(i:br X.K H a ys):xs=ys:=by
 obtain ⟨c,r,⟨o,e,_,n,d⟩,_⟩:=I.tuple h
 obtain ⟨b,j,⟨l,f,_,m,g⟩,_⟩:=I.tuple i
 rw [e] at f;cases f
 rw [d] at g
 injection g with k _
 have:c=b:=by simpa using Mq Array.toList k
 subst this
 exact r.inj j
end
abbrev Cx.jj (X:Cx)(E:Value->Shared->Prop):Cx:={X with xe:=E}
abbrev Cx.qe (X:Cx):Cx:=X.jj λ_ _=>False
theorem Cx.Ok.jj {X:Cx}(a:X.Ok)(E:ZT):(X.jj E).Ok:=
 ⟨a.mod,a.kind,a.glob,a.blt,a.above,a.inj,a.has,a.nI,a.hd,a.frames,a.pi,a.wC,a.bs,a.jV,a.nU,a.pX,a.gQ,a.kI⟩
def Cx.Ok.kF{X:Cx}(a:(X.jj E).Ok):X.Ok:=
 ⟨a.mod,a.kind,a.glob,a.blt,a.above,a.inj,a.has,a.nI,a.hd,a.frames,a.pi,a.wC,a.bs,a.jV,a.nU,a.pX,a.gQ,a.kI⟩
section
variable {X:Cx}{pins:List (Addr×Obj)}{σ:St}{H:Hp}{s:Shared}{E:Value->Shared->Prop}
theorem Inv.jj (I:Inv X pins σ H s)(E:ZT):Inv (X.jj E) pins σ H s:=⟨I.ok.jj E,I.os,I.bare,I.base,I.loc,I.cell,I.free,I.gO,I.pin,I.ay,I.len⟩
theorem Inv.kF (I:Inv (X.jj E) pins σ H s):Inv X pins σ H s:=⟨I.ok.kF,I.os,I.bare,I.base,I.loc,I.cell,I.free,I.gO,I.pin,I.ay,I.len⟩
theorem SP.kF{D:Ends}(h:SP (X.jj E) pins D f c):SP X pins D f c:=by
 cases f with
 |next=>obtain ⟨a,b,I,q⟩:=h;exact ⟨a,b,I.kF,q⟩
 |brk=>obtain ⟨a,b,I,q⟩:=h;exact ⟨a,b,I.kF,q⟩
 |cont=>obtain ⟨a,b,I,q⟩:=h;exact ⟨a,b,I.kF,q⟩
 |ret u=>obtain ⟨v,a,b,I,r,q⟩:=h;exact ⟨v,a,b,I.kF,r,q⟩
theorem gv.qe{st:List Stmt}(h:gv X.qe st t):gv X st t:=λa s b H D I c=>
 MN (h a s b H D (I.jj _) c) (λ_ _ q=>q.kF) λ_ _ z=>False.elim z
end
section
variable {X:Cx}{st:Stmt}{b9:List Stmt}{t u:TS}{e:Expr}{te:TE}{pos:Pos}
def rV:TS:=λD σ H=>D.nx σ H
def nq (t u:TS):TS:=λD σ H=>t {D with nx:=u D} σ H
def cM:gv X [] rV:=λ_ _ a H _ I h=>OP ⟨a,H,I,h⟩
def aD (c:PS X st t)(d:gv X b9 u):gv X (st::b9) (nq t u):=by
 intro a s g H D I h
 refine wpAny_execs_cons<|aS (c a s g H {D with nx:=u D} I h) λf i q=>?_
 cases f with
 |next=>
  obtain ⟨b,j,k,q⟩:=q
  exact d a i b j D k q
 |ret v=>exact q
 |brk=>exact q
 |cont=>exact q
def aE (b:PS X st t):gv X [st] t:=by
 intro a s c H D I h
 refine wpAny_execs_cons<|aS (b a s c H D I h) λf d q=>?_
 cases f with
 |next=>exact OP q
 |ret v=>exact q
 |brk=>exact q
 |cont=>exact q
def JU:TS:=λD σ H=>D.bk σ H
def FS:PS X (.Break pos) JU:=λ_ _ a H _ I h=>wpAny_Break ⟨a,H,I,h⟩
def Inv.quiet(I:Inv X a b H s):interactive X.env=false:=by simp [interactive,I.ok.kind]
def j6 (te:TE):TS:=λD σ H=>te σ H λ_ H1=>D.nx σ H1
def il (c:PE X e te)(d:swapsWith e none pos.line X.env=pure false:=by rfl):PS X (.Expr e pos) (j6 te):=by
 intro a s b H D I h
 exact wpAny_Expr_any (aS (c a s b H _ I h) λv k f=>by obtain ⟨x,g,i,l,j⟩:=f;exact ⟨b,g,i,j⟩) I.quiet d
def m8 (te:TE):TS:=λD σ H=>te σ H D.rt
def bE (c:PE X e te):PS X (.Return (some e) pos) (m8 te):=by
 intro a s b H D I h
 exact wpAny_Return_some<|aS (c a s b H _ I h) λv k d=>by obtain ⟨x,f,g,i,j⟩:=d;exact ⟨x,b,f,g,i,j⟩
def mK (c:TT)(t u:TS):TS:=λD σ H=>c σ H λb H1=>if b=true then t D σ H1 else u D σ H1
def cx(n:PT X c i)(o:gv X a t)(p:gv X b u):PS X (.If c a b pos) (mK i t u):=by
 intro f s g H D I h
 refine wpAny_If<|aS (n f s g H _ I h) λd j q=>?_
 obtain ⟨k,l,m⟩:=q
 cases d with
 |true=>exact o f j g k D l m
 |false=>exact p f j g k D l m
def IX:TS:=λ_ _ _=>False
def vA:PS X st IX:=λ_ _ _ _ _ _ h=>h.elim
end
abbrev TG:=V->St->Hp->(St->Hp->Prop)->Prop
abbrev lh:=List V->St->Hp->(St->Hp->Prop)->Prop
def PG (X:Cx)(target:Expr)(t:TG):Prop:=
 ∀(pins:List (Addr×Obj)) (s:Shared) (σ:St) (H:Hp) (v:V) (u:Value) (Q:St->Hp->Prop),Inv X pins σ H s->RelV v u->t v σ H Q->
  wpAny (model X.prog X.w) X.A (assign target X.env u) (λ_ s'=>∃σ' H',Inv X pins σ' H' s'/\Q σ' H') X.xe s
def pD (X:Cx)(ts:List Expr)(t:lh):Prop:=
 ∀(pins:List (Addr×Obj)) (s:Shared) (σ:St) (H:Hp) (vs:List V) (us:List Value) (Q:St->Hp->Prop),Inv X pins σ H s->ba vs us->t vs σ H Q->
  wpAny (model X.prog X.w) X.A (assignInOrder ((assignEach ts X.env).map (·.2)) us) (λ_ s'=>∃σ' H',Inv X pins σ' H' s'/\Q σ' H') X.xe s
section
variable {X:Cx}{pos:Pos}
def cf (i:Nat):TG:=λv σ H Q=>Q (σ.set i (some v)) H
def D4{i:Nat}(b:X.N.Nodup)(c:X.N[i]?=some x)(d:Loc X.env.scope x)(e:X.fn x=true\/X.env.scope.names.lookup x=some .local:=by first|exact .inl rfl|exact .inr rfl|assumption):PG X (.Name x pos) (cf i):=by
 intro a s g H v u Q I r h
 exact wpAny_assign_Name<|Cg I b c d r (λj f=>⟨_,H,f,h⟩) e
def pH:lh:=λvs σ H Q=>vs=[]/\Q σ H
def jU (t:TG)(u:lh):lh:=λvs σ H Q=>∃v r,vs=v::r/\t v σ H λσ' H'=>u r σ' H' Q
def jM:pD X [] pH:=by
 intro a s b H c d Q I r h
 obtain ⟨e,h⟩:=h
 subst e
 cases r
 exact assignInOrder_nil ⟨b,H,I,h⟩
def fb(d:PG X e t)(f:pD X b u)
  (g:(assignEach (e::b) X.env).map (·.2)=assign e X.env::(assignEach b X.env).map (·.2):=by rfl):pD X (e::b) (jU t u):=by
 intro a s i H q w Q I r h
 obtain ⟨v,x,j,h⟩:=h
 subst j
 cases r with
 |cons r k=>
  rw [g]
  refine assignInOrder_cons<|aS (d a s i H _ _ _ I r h) λ_ l m=>?_
  obtain ⟨c,n,o,p⟩:=m
  exact f a l c n _ _ Q o k p
def na (K:PySem.W.Frag)(n:Nat)(t:lh):TG:=λv σ H Q=>∃a xs,v=.ref a/\br K H a xs/\xs.length=n/\t xs σ H Q
def ml(l:X.calm=true)(h:pD X d t)
  (m:(assignEach d X.env).length=n:=by rfl) (f:(assignEach d X.env).findIdx? (·.1)=none:=by rfl):PG X (.Tuple d k pos) (na X.K n t):=by
 intro c s i H v u Q I r g
 obtain ⟨a,p,q,w,x,g⟩:=g
 subst q
 cases r
 obtain ⟨y,j,z,E⟩:=I.tuple w
 refine assign_Tuple_tuple (I.ok.hd l) z (by simp [m,<-x,j.length]) f λA B=>?_
 have C:Inv X c i H {s with heap:=A}:=I.kept (t':=s.toks) λb o e=>B b o (LY<|LL e) e
 exact h c _ i H p _ Q C (by simpa using j) g
def dZ (te:TE)(g:TG):TS:=λD σ H=>te σ H λx H1=>g x σ H1 D.nx
def AO{i:Nat}(d:X.N.Nodup)(f:X.N[i]?=some x)(g:Loc X.env.scope x)(j:PE X e c)(k:swapsWith e (some (.Name x a)) pos.line X.env=pure false:=by rfl)(l:X.fn x=true\/X.env.scope.names.lookup x=some .local:=by first|exact .inl rfl|exact .inr rfl|assumption):
  PS X (.Assign [.Name x a] e pos) (dZ c (cf i)):=by
 intro b s m H D I h
 refine wpAny_Assign_Name (aS (j b s m H _ I h) λv t ⟨y,n,o,p,q⟩=>?_) k
 exact Cg o d f g p (λu r=>⟨_,n,r,q⟩) l
end
section
variable {X:Cx}{pos:Pos}
def Cb (c:TT)(tb:TS):TS:=λD σ H=>∃W:Nat->St->Hp->Prop,(∃m,W m σ H)/\∀m σ H,W m σ H->
 c σ H λb H1=>if b=true then∃N:St->Hp->Prop,(∀σ' H',N σ' H'->∃m',m'<m/\W m' σ' H')/\tb {D with nx:=N,ct:=N,bk:=D.nx} σ H1 else D.nx σ H1
def ve(y:PassesOwn (model X.prog X.w) X.A X.env X.xe)(J:PT X c u)(L:gv X g x):PS X (.While c g [] pos) (Cb u x):=by
 intro a s M H D I h
 obtain ⟨W,⟨O,Q⟩,i⟩:=h
 refine wpAny_While<|codeAny_whileLoop (λn T=>∃j z,Inv X a j z T/\W n j z) ?_ O ⟨M,H,I,Q⟩
 rintro n U ⟨e,B,Y,w1⟩
 refine Nm y<|aS (J a U e B _ Y<|i n e B w1) λb s2 q0=>?_
 obtain ⟨C,E,l⟩:=q0
 cases b with
 |true=>
  obtain ⟨N,G,l⟩:=l
  rw [Lv rfl]
  refine Nm y<|aS (L a s2 e C _ E l) λf s3 m=>?_
  cases f with
  |next=>
   obtain ⟨d,k,o,p⟩:=m
   obtain ⟨q,r,t⟩:=G d k p
   exact ⟨q,r,d,k,o,t⟩
  |cont=>
   obtain ⟨d,k,o,p⟩:=m
   obtain ⟨q,r,t⟩:=G d k p
   exact ⟨q,r,d,k,o,t⟩
  |brk=>exact m
  |ret v=>exact m
 |false=>
  rw [Lq Ls]
  exact OP ⟨e,C,E,l⟩
end
structure It where
 go:Nat->Hp->Prop
 nl:Nat->Hp->V->Hp->Prop
 stop:Nat->Hp->Prop
def ir (X:Cx)(pins:List (Addr×Obj))(H:Hp)(b:Addr):Prop:=
 H b=none/\b≠X.env.locals/\b∉X.fs/\(b∈X.ex\/X.s₀.heap.objs.size<=b)/\(∀x c,X.env.cells.lookup x=some c->c≠b)/\∀p∈X.pn++pins,p.1≠b
def Inv.gL{f:Hp}(I:Inv X a g H s)(d:s.heap.objs.size<=b)(h:f b=none):ir X a f b:=by
 refine ⟨h,NF<|L4 I.lt d,I.FF d,.inr<|LN I.sz d,λx c e z=>?_,λp i z=>?_⟩
 .obtain ⟨v,q⟩:=I.cell x c e
  exact absurd (L4 q.lt (by rw [z];exact d))<|MI _
 .exact absurd (L4 (LL (I.pin p i).1) (by rw [z];exact d))<|MI _
structure iF (P:Program)(w:World)(K:PySem.W.Frag)(tg:Expr)(J:It)(fp:List Addr)(it:Addr)(tn:Nat->Heap->Prop):Prop where
 mem:it∈fp
 obj:∀i h,tn i h->∀b∈fp,∃o,h.get? b=some o/\∀v,o.data≠.cell v
 keep:∀i h h',tn i h->(∀b∈fp,∀o,h.get? b=some o->h'.get? b=some o)->tn i h'
 item:∀(X:Cx),X.prog=P->X.w=w->X.K=K->X.calm=true->∀(i:Nat) (pins:List (Addr×Obj)) (s:Shared) (σ:St) (H:Hp) (E:Value->Shared->Prop),Inv X pins σ H s->(∀b∈fp,ir X pins H b)->tn i s.heap->J.go i H->
  wpAny (model P w) X.A (pyNext (.ref it)) (fun r s1=>∃u,r=some u/\
   wpAny (model P w) X.A (letOwnedTupleGo tg (.ref it) u) (fun _ s2=>∃x H',Inv X pins σ H' s2/\RelV x u/\J.nl i H x H'/\tn (i+1) s2.heap/\∀b∈fp,H' b=none) E s1) E s
 done:∀(X:Cx),X.prog=P->X.w=w->X.K=K->X.calm=true->∀(i:Nat) (pins:List (Addr×Obj)) (s:Shared) (σ:St) (H:Hp) (E:Value->Shared->Prop),Inv X pins σ H s->(∀b∈fp,ir X pins H b)->tn i s.heap->J.stop i H->
  wpAny (model P w) X.A (pyNext (.ref it)) (fun r s1=>r=none/\Inv X pins σ H s1) E s
 self:∀(A:Around) (i:Nat) (s:Shared) (Q:Value->Shared->Prop) (E:Value->Shared->Prop),tn i s.heap->Q (.ref it) s->wpAny (model P w) A (pyIter (.ref it)) Q E s
abbrev TI:=St->Hp->(It->Hp->Prop)->Prop
def A1 (X:Cx)(pins:List (Addr×Obj))(σ:St)(tg:Expr)(R:It->Hp->Prop)(itv:Value)(s2:Shared):Prop:=
 ∃(it:Addr) (fp:List Addr) (tn:Nat->Heap->Prop) (J:It) (H':Hp),itv=.ref it/\Inv X pins σ H' s2/\iF X.prog X.w X.K tg J fp it tn/\tn 0 s2.heap/\(∀b∈fp,ir X pins H' b)/\R J H'
def PI (X:Cx)(tg iter:Expr)(wi:TI):Prop:=
 ∀(pins:List (Addr×Obj)) (s:Shared) (σ:St) (H:Hp) (R:It->Hp->Prop),Inv X pins σ H s->wi σ H R->
  wpAny (model X.prog X.w) X.A (eval iter X.env) (λv s1=>wpAny (model X.prog X.w) X.A (pyIter v) (A1 X pins σ tg R) X.xe s1) X.xe s
def nc{s:Shared}{Q:Unit->Shared->Prop}(e:s.heap.get? c=some o)(f:o.cls=.type n)(g:o.data=.fields d)
  (i:["enumerate","zip","dict_itemiterator","dict_reverseitemiterator","odict_iterator","itertools.zip_longest","itertools.pairwise"].contains n=false) (a:Q () s):wpAny M A (letOwnedTupleGo b (.ref c) u) Q E s:=by
 unfold letOwnedTupleGo
 cases b<;>first
  |exact Lz a
  |(cases u<;>first
    |exact Lz a
    |(refine Lh (wpAny_load e ?_)
      rw [f,g]
      show wpAny M A (if (["enumerate","zip","dict_itemiterator","dict_reverseitemiterator","odict_iterator","itertools.zip_longest","itertools.pairwise"].contains n&&d[0]?==some (rawInt _))=true then _ else _) Q E s
      rw [Lq (by intro h;rw [i,Bool.false_and] at h;cases h)]
      exact Lz a))
def zn (K:PySem.W.Frag)(a:Addr):It:=
 ⟨λi H=>∃xs x,aQ K H a xs/\xs[i]?=some x,λi H x H'=>H'=H/\∀xs,aQ K H a xs->xs[i]?=some x,λi H=>∃xs,aQ K H a xs/\xs.length<=i⟩
def AK (K:PySem.W.Frag)(a:Addr):It:=
 ⟨λi H=>∃xs x,br K H a xs/\xs[i]?=some x,λi H x H'=>H'=H/\∀xs,br K H a xs->xs[i]?=some x,λi H=>∃xs,br K H a xs/\xs.length<=i⟩
def xb (lo:Int)(n:Nat):It:=⟨λi _=>i<n,λi H x H'=>H'=H/\x=.int (lo+i),λi _=>n<=i⟩
def Ho {P:Program}{w:World}{K:W.Frag}{tg:Expr}(a it:Addr):iF P w K tg (zn K a) [it] it (λi h=>h.IsListIter it a i) where
 mem:=by simp
 obj:=λi h st b hb=>by
  have e:b=it:=by simpa using hb
  subst e
  obtain ⟨o,e,c,d⟩:=st
  exact ⟨o,e,λv z=>by rw [d] at z;cases z⟩
 keep:=λi h h' st k=>st.at λo e=>k it Z8 o e
 item:=by
  intro X hP hw hK hc i pins s σ H E I hf st hg
  subst hP hw hK
  obtain ⟨xs,x,hq,hx⟩:=hg
  obtain ⟨its,rv,p,hz⟩:=I.list hq
  obtain ⟨u,hu,ru⟩:=rv.get hx
  obtain ⟨f0,f1,f2,f3,f4,f5⟩:=hf it Z8
  refine wpAny_pyNext_list_item st p.isList (x:=u) (by simpa using hu) λh' st' sb=>?_
  have I1:Inv X pins σ H {s with heap:=h'}:=I.turned (t':=s.toks) (λb o hb e=>(sb.2 b hb).trans e) f0 f1 f3 f4 f5
  obtain ⟨o,e,c,d⟩:=id st'
  exact ⟨u,rfl,nc (s:={s with heap:=h'}) e c d Z1 ⟨x,H,I1,ru,⟨rfl,λys hy=>by rw [I.ql hy hq];exact hx⟩,st',λb hb=>(hf b hb).1⟩⟩
 done:=by
  intro X hP hw hK hc i pins s σ H E I hf st hg
  subst hP hw hK
  obtain ⟨xs,hq,hx⟩:=hg
  obtain ⟨its,rv,p,hz⟩:=I.list hq
  obtain ⟨f0,f1,f2,f3,f4,f5⟩:=hf it Z8
  have hl:=rv.length
  exact wpAny_pyNext_list_end (I.ok.hd hc) st p.isList (by simp;omega) λh' eb=>⟨rfl,I.turned (t':=s.toks) (λb o hb e=>eb b o hb e) f0 f1 f3 f4 f5⟩
 self:=λ_ _ _ _ _ st h=>wpAny_pyIter_listiter st h
def Jx {P:Program}{w:World}{K:W.Frag}{tg:Expr}(a it:Addr):iF P w K tg (AK K a) [it] it (λi h=>h.IsTupleIter it a i) where
 mem:=by simp
 obj:=λi h st b hb=>by
  have e:b=it:=by simpa using hb
  subst e
  obtain ⟨o,e,c,d⟩:=st
  exact ⟨o,e,λv z=>by rw [d] at z;cases z⟩
 keep:=λi h h' st k=>st.at λo e=>k it Z8 o e
 item:=by
  intro X hP hw hK hc i pins s σ H E I hf st hg
  subst hP hw hK
  obtain ⟨xs,x,hq,hx⟩:=hg
  obtain ⟨its,rv,p,hz⟩:=I.tuple hq
  obtain ⟨u,hu,ru⟩:=rv.get hx
  obtain ⟨f0,f1,f2,f3,f4,f5⟩:=hf it Z8
  refine wpAny_pyNext_tuple_item st (show s.heap.IsTuple a its.toArray from p) (x:=u) (by simpa using hu) λh' st' sb=>?_
  have I1:Inv X pins σ H {s with heap:=h'}:=I.turned (t':=s.toks) (λb o hb e=>(sb.2 b hb).trans e) f0 f1 f3 f4 f5
  obtain ⟨o,e,c,d⟩:=id st'
  exact ⟨u,rfl,nc (s:={s with heap:=h'}) e c d Z1 ⟨x,H,I1,ru,⟨rfl,λys hy=>by rw [I.xn hy hq];exact hx⟩,st',λb hb=>(hf b hb).1⟩⟩
 done:=by
  intro X hP hw hK hc i pins s σ H E I hf st hg
  subst hP hw hK
  obtain ⟨xs,hq,hx⟩:=hg
  obtain ⟨its,rv,p,hz⟩:=I.tuple hq
  obtain ⟨f0,f1,f2,f3,f4,f5⟩:=hf it Z8
  have hl:=rv.length
  exact wpAny_pyNext_tuple_end (I.ok.hd hc) st (show s.heap.IsTuple a its.toArray from p) (by simp;omega) λh' eb=>⟨rfl,I.turned (t':=s.toks) (λb o hb e=>eb b o hb e) f0 f1 f3 f4 f5⟩
 self:=λ_ _ _ _ _ st h=>wpAny_pyIter_tupleiter st h
def JR {P:Program}{w:World}{K:W.Frag}{tg:Expr}(it:Addr)(lo:Int)(n:Nat):iF P w K tg (xb lo n) [it] it (λi h=>IsRangeIter h it (lo+(i:Nat)*1) ((n:Int)-(i:Nat)) 1) where
 mem:=by simp
 obj:=λi h st b hb=>by
  have e:b=it:=by simpa using hb
  subst e
  exact ⟨_,st,λv z=>by
   have z':Data.fields _=Data.cell v:=z
   cases z'⟩
 keep:=λi h h' st k=>k it Z8 _ st
 item:=by
  intro X hP hw hK hc i pins s σ H E I hf st hg
  subst hP hw hK
  obtain ⟨f0,f1,f2,f3,f4,f5⟩:=hf it Z8
  have W:=Walks.range (prog:=X.prog) (w:=X.w) (I.ok.hd hc) it lo 1 n
  refine W.item i s _ _ hg st λv h' tk hv st' kk=>?_
  obtain ⟨t,rfl⟩:=hv
  have I1:Inv X pins σ H {s with heap:=h',toks:=tk}:=I.turned (λb o hb e=>kk b o (by simpa using hb) e) f0 f1 f3 f4 f5
  refine ⟨_,rfl,nc (s:={s with heap:=h',toks:=tk}) (n:="range_iterator") st' rfl rfl Z1 ⟨.int<|lo+i,H,I1,⟨t,?_⟩,⟨rfl,rfl⟩,st',λb hb=>(hf b hb).1⟩⟩
  rw [Int.mul_one]
 done:=by
  intro X hP hw hK hc i pins s σ H E I hf st hg
  subst hP hw hK
  obtain ⟨f0,f1,f2,f3,f4,f5⟩:=hf it Z8
  exact wpAny_pyNext_range_end (I.ok.hd hc) st (by have:n<=i:=hg;omega) λh' eb=>⟨rfl,I.turned (t':=s.toks) (λb o hb e=>eb b o hb e) f0 f1 f3 f4 f5⟩
 self:=λ_ _ _ _ _ st h=>wpAny_pyIter_rangeiter st h
end L2
namespace L2
open PySem PySem.Spec PyProof.Rows
section
variable {X:Cx}{tg:Expr}
def jT (K:PySem.W.Frag)(tl:TE):TI:=λσ H R=>tl σ H λx H1=>∃a,x=.ref a/\(∃xs,aQ K H1 a xs)/\R (zn K a) H1
def mh (K:PySem.W.Frag)(tl:TE):TI:=λσ H R=>tl σ H λx H1=>∃a,x=.ref a/\(∃xs,br K H1 a xs)/\R (AK K a) H1
def Kk(i:PE X l g):PI X tg l (jT X.K g):=by
 intro c s j H R I h
 refine aS (i c s j H _ I h) λv d k=>?_
 obtain ⟨x,m,f,n,r⟩:=k
 obtain ⟨a,e,⟨y,t⟩,q⟩:=r
 subst e
 cases n
 obtain ⟨u,z,p,A⟩:=f.list t
 refine M7 p.isList ?_
 refine ⟨d.heap.objs.size,[d.heap.objs.size],_,_,m,rfl,f.kept (t':=d.toks) λb o e=>Ln _ e,Ho a _,⟨_,LJ _ rfl,rfl,rfl⟩,λb w=>?_,q⟩
 have e:b=d.heap.objs.size:=by simpa using w
 subst e
 exact f.gL (Lo _)<|f.ay.fresh<|Lo _
def EW(j:PE X l i):PI X tg l (mh X.K i):=by
 intro c s k H R I h
 refine aS (j c s k H _ I h) λv d m=>?_
 obtain ⟨x,n,f,r,t⟩:=m
 obtain ⟨a,e,⟨y,u⟩,q⟩:=t
 subst e
 cases r
 obtain ⟨g,z,p,A⟩:=f.tuple u
 refine Og (show d.heap.IsTuple a g.toArray from p) ?_
 refine ⟨d.heap.objs.size,[d.heap.objs.size],_,_,n,rfl,f.kept (t':=d.toks) λb o e=>Ln _ e,Jx a _,⟨_,LJ _ rfl,rfl,rfl⟩,λb w=>?_,q⟩
 have e:b=d.heap.objs.size:=by simpa using w
 subst e
 exact f.gL (Lo _)<|f.ay.fresh<|Lo _
def Di{R:It->Hp->Prop}{lo:Int}(I:Inv X c d H s)(h:-(2^62)<=lo)(i:lo<2^62)(j:-(2^62)<=a)(k:a<2^62)
  (q:R (xb lo (a-lo).toNat) H):wpAny (model X.prog X.w) X.A (pyIter (.ref s.heap.objs.size)) (A1 X c d tg R) E {s with heap:=s.heap.push {cls:=.type "range",data:=.fields #[.int lo t,.int a u,.int 1 v]},toks:=f}:=by
 refine wpAny_pyIter_range (IsRange.new ..) (small_one h i j k) ?_
 have g:Inv X c d H {s with heap:=s.heap.push {cls:=.type "range",data:=.fields #[.int lo t,.int a u,.int 1 v]},toks:=f}:=I.kept λb o e=>Ln _ e
 refine ⟨(s.heap.push {cls:=.type "range",data:=.fields #[.int lo t,.int a u,.int 1 v]}).objs.size,[(s.heap.push {cls:=.type "range",data:=.fields #[.int lo t,.int a u,.int 1 v]}).objs.size],_,_,H,rfl,
  g.kept (t':=f) λb o e=>Ln _ e,JR _ lo (a-lo).toNat,?_,λb l=>?_,q⟩
 .have m:lo+((0:Nat):Int)*1=lo:=by simp
  have n:(((a-lo).toNat:Nat):Int)-((0:Nat):Int)=Builtin.Range.rangeSize lo a 1:=by rw [rangeSize_one];split<;>omega
  show IsRangeIter _ _ (lo+((0:Nat):Int)*1) ((((a-lo).toNat:Nat):Int)-((0:Nat):Int)) 1
  rw [m,n]
  exact LJ _ rfl
 .have e:b=(s.heap.push {cls:=.type "range",data:=.fields #[.int lo t,.int a u,.int 1 v]}).objs.size:=by simpa using l
  subst e
  exact g.gL (Lo _)<|g.ay.fresh<|Lo _
def uN (ta:TA):TI:=λσ H R=>ta σ H λvs H1=>∃j:Int,vs=[.int j]/\-(2^62)<=j/\j<2^62/\R (xb 0 j.toNat) H1
def oE{a:Expr}(g:Gl X "range")(i:X.mg "range"=none)(k:PA X [a] f)(l:starEach [a] X.env=[(false,eval a X.env)]:=by rfl):PI X tg (.Call (.Name "range" p) [a] [] b) (uN f):=by
 intro c s m H R I h
 refine Call_<|je I g i boot_range<|MA (aS (k b c s m H _ I h) λw x ⟨y,z,n,o,d⟩=>?_) l rfl
 obtain ⟨j,e,d,u,q⟩:=d
 subst e
 cases o with
 |cons r v=>
  cases v
  obtain ⟨t,rfl⟩:=r
  exact call_range_1<|Di n Z4 Z4 d u (by simpa using q)
def lK (wi:TI)(g:TG)(tb:TS):TS:=λD σ H=>wi σ H λJ H1=>∃W:Nat->Nat->St->Hp->Prop,(∃m,W 0 m σ H1)/\∀i m σ H,W i m σ H->
 (J.stop i H/\D.nx σ H)\/(J.go i H/\∃N:St->Hp->Prop,(∀σ' H',N σ' H'->∃m',m'<m/\W (i+1) m' σ' H')/\∀x H',J.nl i H x H'->g x σ H' λσ2 H2=>tb {D with nx:=N,ct:=N,bk:=D.nx} σ2 H2)
def oC (fp:List Addr)(h:Heap):List (Addr×Obj):=fp.filterMap λb=>(h.get? b).map λo=>(b,o)
def t0{a:ZX}{h:Heap}(c:b∈a)(e:h.get? b=some o):(b,o)∈oC a h:=Oh.mpr ⟨b,c,by rw [e];rfl⟩
def Ix(c:p∈oC a h):p.1∈a/\h.get? p.1=some p.2:=by
 obtain ⟨b,d,e⟩:=Oh.mp c
 cases q:h.get? b with
 |none=>rw [q] at e;cases e
 |some o=>
  rw [q] at e
  have f:(b,o)=p:=LB e
  subst f
  exact ⟨d,q⟩
def Inv.pinned{c:ZX}(I:Inv X a f H s)(i:∀b∈c,ir X a H b)(j:∀b∈c,∃o,s.heap.get? b=some o/\∀v,o.data≠.cell v):Inv X (a++oC c s.heap) f H s:=
 I.xC λp k=>(LI.mp k).elim (λz=>I.pin p<|Lr _ z) λz=>by
  obtain ⟨g,e⟩:=Ix z
  obtain ⟨l,m,n,_⟩:=i p.1 g
  obtain ⟨o,h,d⟩:=j p.1 g
  rw [e] at h;cases h
  exact ⟨e,l,m,n,d⟩
def Inv.sF(I:Inv X (a++c) b H s):Inv X a b H s:=I.xC λp d=>I.pin p<|Lr _<|Lu _ d
def cO{iter:Expr}(E:PassesOwn (model X.prog X.w) X.A X.env X.xe)(hc:X.calm=true)(hi:PI X tg iter wi)(hg:PG X tg g)(j:gv X z tb)
  (hs:∀x,foldedSetIterable iter X.env x=pure x:=by intro _;rfl):PS X (.For tg iter z [] ac) (lK wi g tb):=by
 intro a s σ H D I h
 refine wpAny_For (aS (hi a s σ H _ I h) λv s1 h1=>aS h1 λao s2 h2=>?_) hs
 obtain ⟨it,G,tn,J,H2,e,I2,T,af,f2,W,⟨m0,w0⟩,L⟩:=h2
 subst e
 have k:∀{y:Hp},(∀b∈G,y b=none)->∀b∈G,ir X a y b:=λhn b j=>⟨hn b j,(f2 b j).2⟩
 refine codeAny_forLoop_any (λn s'=>∃i l y,Inv X a l y s'/\tn i s'.heap/\(∀b∈G,y b=none)/\W i n l y) ?_ m0 ⟨0,σ,H2,I2,af,λb j=>(f2 b j).1,w0⟩
 rintro n s3 ⟨i,p,Y,I3,M,O,w3⟩
 rcases L i n p Y w3 with ⟨Q,qn⟩|⟨go,N,hN,step⟩
 .refine Nm E (aS (T.done X rfl rfl rfl hc i a s3 p Y X.xe I3 (k O) M Q) λr s4 q0=>?_)
  obtain ⟨hr,I4⟩:=q0
  subst hr
  exact OP ⟨p,Y,I4,qn⟩
 .refine Nm E (aS (T.item X rfl rfl rfl hc i a s3 p Y X.xe I3 (k O) M go) λr s4 q1=>?_)
  obtain ⟨u,hr,h4⟩:=q1
  subst hr
  refine Nm E<|aS h4 λ_ s5 q2=>?_
  obtain ⟨x,H5,I5,r5,y5,C,aj⟩:=q2
  have am:=I5.pinned (k aj)<|T.obj _ _ C
  refine Nm E<|aS (hg _ s5 p H5 x u _ am r5<|step x H5 y5) λ_ s6 q3=>?_
  obtain ⟨an,H6,I6,q6⟩:=q3
  refine Nm E<|aS (j _ s6 an H6 _ I6 q6) λf s7 B=>?_
  have again:∀{c:St} {q:Hp},Inv X (a++oC G s5.heap) c q s7->N c q->∃m,m<n/\∃i l y,Inv X a l y s7/\tn i s7.heap/\(∀b∈G,y b=none)/\W i m l y:=λ{c q} t U=>by
   obtain ⟨m',hm,w7⟩:=hN c q U
   refine ⟨m',hm,i+1,c,q,t.sF,T.keep _ _ _ C λb j o e=>(t.pin (b,o)<|Lr _<|Lr _<|t0 j e).1,λb j=>?_,w7⟩
   obtain ⟨o,e,d⟩:=T.obj _ _ C b j
   exact (t.pin (b,o)<|Lr _<|Lr _<|t0 j e).2.1
  cases f with
  |next=>obtain ⟨c,q,t,U⟩:=B;exact again t U
  |cont=>obtain ⟨c,q,t,U⟩:=B;exact again t U
  |brk=>obtain ⟨c,q,t,B⟩:=B;exact ⟨c,q,t.sF,B⟩
  |ret v=>obtain ⟨x7,c,q,t,r7,B⟩:=B;exact ⟨x7,c,q,t.sF,r7,B⟩
end
end L2
namespace L2
open PySem PySem.Spec PyProof.Rows
abbrev R2:=V->V->Hp->VK->Prop
def cH (X:Cx)(f:Value->Value->Sem Value)(r:R2):Prop:=
 ∀(pins:List (Addr×Obj)) (s:Shared) (σ:St) (H:Hp) (x y:V) (v u:Value) (Q:VK),Inv X pins σ H s->RelV x v->RelV y u->r x y H Q->
  wpAny (model X.prog X.w) X.A (f v u) (EP X pins σ Q) X.xe s
def ux (X:Cx)(f:Value->Sem Value)(r:V->Hp->VK->Prop):Prop:=
 ∀(pins:List (Addr×Obj)) (s:Shared) (σ:St) (H:Hp) (x:V) (v:Value) (Q:VK),Inv X pins σ H s->RelV x v->r x H Q->
  wpAny (model X.prog X.w) X.A (f v) (EP X pins σ Q) X.xe s
def iM (X:Cx)(f:Value)(r:List V->Hp->VK->Prop):Prop:=
 ∀(pins:List (Addr×Obj)) (s:Shared) (σ:St) (H:Hp) (xs:List V) (us:List Value) (Q:VK),Inv X pins σ H s->ba xs us->r xs H Q->
  wpAny (model X.prog X.w) X.A (call f us) (EP X pins σ Q) X.xe s
def IF (X:Cx)(r:V->Hp->(Bool->Hp->Prop)->Prop):Prop:=
 ∀(pins:List (Addr×Obj)) (s:Shared) (σ:St) (H:Hp) (x:V) (v:Value) (Q:Bool->Hp->Prop),Inv X pins σ H s->RelV x v->r x H Q->
  wpAny (model X.prog X.w) X.A (truthy v) (TP X pins σ Q) X.xe s
def bZ (r:R2)(ta tb:TE):TE:=λσ H Q=>ta σ H λx H1=>tb σ H1 λy H2=>r x y H2 Q
def yL (r:V->Hp->VK->Prop)(ta:TE):TE:=λσ H Q=>ta σ H λx H1=>r x H1 Q
def rI (C:Int->Int->Prop)(g:Int->Int->V):R2:=λx y H Q=>∃i j,x=.int i/\y=.int j/\C i j/\Q (g i j) H
def fS (g:Int->Int->V):R2:=λx y H Q=>∃i j,x=.int i/\y=.int j/\Q (g i j) H
def rU (g:Int->V):V->Hp->VK->Prop:=λx H Q=>∃i,x=.int i/\Q (g i) H
section
variable {X:Cx}{a b c:Expr}{ta tb tc:TE}{pos:Pos}
def wE(m:PE X a ta)(n:PE X b tb){R:V->V->Hp->Prop}(I:Inv X d e H s)
  (h:ta e H λx l=>tb e l λy g=>R x y g)  {f:Value->Value->Sem Value}
  (o:∀v u k x y g,Inv X d e g k->RelV x v->RelV y u->R x y g->wpAny (model X.prog X.w) X.A (f v u) Q X.xe k):
  wpAny (model X.prog X.w) X.A (eval a X.env) (λv i=>wpAny (model X.prog X.w) X.A (eval b X.env) (λu j=>wpAny (model X.prog X.w) X.A (f v u) Q X.xe j) X.xe i) X.xe s:=by
 refine aS (m d s e H _ I h) λv p q=>?_
 obtain ⟨x,l,r,t,z⟩:=q
 refine aS (n d p e l _ r z) λu k B=>?_
 obtain ⟨y,g,C,E,G⟩:=B
 exact o v u k x y g C t E G
def cC(f:cH X (binaryOp e) r)(g:PE X a ta)(i:PE X b tb):PE X (.BinOp a e b pos) (bZ r ta tb):=by
 intro d s j H Q I h
 exact wpAny_BinOp<|wE g i I h λv u k x y l m n o q=>f d k j l x y v u Q m n o q
def lH(g:ux X (unaryOp e) r)(i:PE X a ta):PE X (.UnaryOp e a pos) (yL r ta):=by
 intro d s f H Q I h
 exact UnaryOp_<|aS (i d s f H _ I h) λv j k=>by obtain ⟨x,l,m,n,o⟩:=k;exact g d j f l x v Q m n o
def rG {f:Value->Value->Sem Value}{C:Int->Int->Prop}{g:Int->Int->Int}
  (rule:∀(i j:Int) (t u:Tok) (s:Shared) (Q:ZT) (E:ZT),C i j->Q (.int (g i j) s.toks) {s with toks:=s.toks+1}->wpAny (model X.prog X.w) X.A (f (.int i t) (.int j u)) Q E s):
  cH X f (rI C λi j=>.int (g i j)):=by
 intro d s n H x y v u Q I e k h
 obtain ⟨i,j,rfl,rfl,l,q⟩:=h
 obtain ⟨t,rfl⟩:=e
 obtain ⟨m,rfl⟩:=k
 exact rule i j t m s _ _ l ⟨.int<|g i j,H,I.tok _,⟨_,rfl⟩,q⟩
def AF {f:Value->Value->Sem Value}{g:Int->Int->Int}
  (rule:∀(i j:Int) (t u:Tok) (s:Shared) (Q:ZT) (E:ZT),Q (.int (g i j) s.toks) {s with toks:=s.toks+1}->wpAny (model X.prog X.w) X.A (f (.int i t) (.int j u)) Q E s):
  cH X f (fS λi j=>.int (g i j)):=by
 intro d s m H x y v u Q I e k h
 obtain ⟨i,j,rfl,rfl,q⟩:=h
 obtain ⟨t,rfl⟩:=e
 obtain ⟨l,rfl⟩:=k
 exact rule i j t l s _ _ ⟨.int<|g i j,H,I.tok _,⟨_,rfl⟩,q⟩
def wa {f:Value->Value->Sem Value}{g:Int->Int->Bool}
  (rule:∀(i j:Int) (t u:Tok) (s:Shared) (Q:ZT) (E:ZT),Q (.bool (g i j)) s->wpAny (model X.prog X.w) X.A (f (.int i t) (.int j u)) Q E s):
  cH X f (fS λi j=>.bl (g i j)):=by
 intro d s m H x y v u Q I e k h
 obtain ⟨i,j,rfl,rfl,q⟩:=h
 obtain ⟨t,rfl⟩:=e
 obtain ⟨l,rfl⟩:=k
 exact rule i j t l s _ _ ⟨.bl<|g i j,H,I,rfl,q⟩
def uw (i j:Int):Prop:=0<j/\j<1073741824
def uR (i j:Int):Prop:=0<=j/\j<=1000000/\i.natAbs<2^64
def mo (i j:Int):Prop:=(-(2^64)<i/\i<2^64)\/(-(2^64)<j/\j<2^64)
def mo.ok(h:mo i j):IntMulOk i j:=by
 rcases h with ⟨d,e⟩|⟨d,e⟩
 .exact .of_left<|intBits_le_64 d e
 .exact .of_right<|intBits_le_64 d e
def jK:cH X (binaryOp .Add) (fS λi j=>.int (i+j)):=AF λ_ _ _ _ _ _ _ q=>add_int q
def wT:cH X (binaryOp .Sub) (fS λi j=>.int (i-j)):=AF λ_ _ _ _ _ _ _ q=>sub_int q
def yR:cH X (binaryOp .Mult) (rI mo λi j=>.int (i*j)):=rG λ_ _ _ _ _ _ _ d q=>mul_int q d.ok
def gt:cH X (binaryOp .FloorDiv) (rI uw λi j=>.int (i/j)):=rG λi j _ _ _ _ _ d q=>by
 have e:(0:Int)<j:=d.1
 have f:j<1073741824:=d.2
 exact floordiv_int Z4 (by rw [Int.fdiv_eq_ediv_of_nonneg i Z4];exact q) (.inl<|PyProof.noPylong_small Z4)
def eo:cH X (binaryOp .Mod) (rI (λ_ j=>0<j) λi j=>.int (i%j)):=rG λi j _ _ _ _ _ d q=>by
 have e:(0:Int)<j:=d
 exact mod_int' Z4 (by rw [Int.fmod_eq_emod_of_nonneg i Z4];exact q)
def EK:cH X (binaryOp .Pow) (rI uR λi j=>.int (i^j.toNat)):=rG λ_ _ _ _ _ _ _ d q=>pow_int_small d.1 d.2.1 d.2.2 q
def FC {f:Value->Sem Value}{g:Int->Int}
  (rule:∀(i:Int) (t:Tok) (s:Shared) (Q:ZT) (E:ZT),Q (.int (g i) s.toks) {s with toks:=s.toks+1}->wpAny (model X.prog X.w) X.A (f (.int i t)) Q E s):
  ux X f (rU λi=>.int (g i)):=by
 intro d s j H x v Q I e h
 obtain ⟨i,rfl,q⟩:=h
 obtain ⟨t,rfl⟩:=e
 exact rule i t s _ _ ⟨.int<|g i,H,I.tok _,⟨_,rfl⟩,q⟩
def mB:ux X (unaryOp .USub) (rU λi=>.int (-i)):=FC λ_ _ _ _ _ q=>neg_int q
end
def vX:V->V->Bool
 |.aq,.aq=>true|.aq,.int _=>true|.int _,.aq=>true|.aq,.bl _=>true|.bl _,.aq=>true|.aq,.str _=>true|.str _,.aq=>true
 |.int _,.int _=>true|.bl _,.bl _=>true|.str _,.str _=>true|.gc _,.gc _=>true
 |.int _,.str _=>true|.str _,.int _=>true|.bl _,.str _=>true|.str _,.bl _=>true
 |_,_=>false
def sy:R2:=λx y H Q=>vX x y=true/\Q (.bl (decide (x=y))) H
def pE:R2:=λx y H Q=>vX x y=true/\Q (.bl (!decide (x=y))) H
def Aq:decide (V.int i=V.int j)=(i==j):=by
 rw [Md]
 simp
def yI:decide (V.bl i=V.bl j)=(i==j):=by
 rw [Md]
 simp
def ya:decide (V.str i=V.str j)=(i==j):=by
 rw [Md]
 simp
def BN:decide (V.gc i=V.gc j)=(i.toList==j.toList):=by
 rw [Md]
 cases i
 cases j
 simp
section
variable {X:Cx}{a b c:Expr}{ta tb tc:TE}{pos:Pos}
def cW{Q:VK}(I:Inv X d f H s)(q:Q (.bl k) H)(e:k=g):EP X d f Q (.bool g) s:=by
 subst e
 exact ⟨.bl k,H,I,rfl,q⟩
def yF:cH X (compareOp .Eq) sy:=by
 intro k s l H x y v u Q I g d h
 obtain ⟨f,q⟩:=h
 cases x with
 |aq=>
  cases g
  cases y with
  |aq=>cases d;exact PySem.EqNone.eq_none_none<|cW I q Z8
  |bl j=>cases d;exact PySem.EqNone.eq_none_bool<|cW I q Z8
  |int j=>obtain ⟨e,rfl⟩:=d;exact PySem.EqNone.eq_none_int<|cW I q Z8
  |str j=>obtain ⟨e,rfl⟩:=d;exact PySem.EqNone.eq_none_str<|cW I q Z8
  |_=>exact absurd (show false=true from f) Ls
 |bl i=>
  cases g
  cases y with
  |aq=>cases d;exact PySem.EqNone.eq_bool_none<|cW I q Z8
  |bl j=>cases d;exact eq_bool<|cW I q yI
  |str j=>obtain ⟨e,rfl⟩:=d;exact PySem.EqMixed.eq_bool_str<|cW I q Z8
  |_=>exact absurd (show false=true from f) Ls
 |int i=>
  obtain ⟨t,rfl⟩:=g
  cases y with
  |aq=>cases d;exact PySem.EqNone.eq_int_none<|cW I q Z8
  |int j=>obtain ⟨e,rfl⟩:=d;exact eq_int<|cW I q Aq
  |str j=>obtain ⟨e,rfl⟩:=d;exact PySem.EqMixed.eq_int_str<|cW I q Z8
  |_=>exact absurd (show false=true from f) Ls
 |str i=>
  obtain ⟨t,rfl⟩:=g
  cases y with
  |aq=>cases d;exact PySem.EqNone.eq_str_none<|cW I q Z8
  |bl j=>cases d;exact PySem.EqMixed.eq_str_bool<|cW I q Z8
  |int j=>obtain ⟨e,rfl⟩:=d;exact PySem.EqMixed.eq_str_int<|cW I q Z8
  |str j=>obtain ⟨e,rfl⟩:=d;exact eq_str<|cW I q ya
  |_=>exact absurd (show false=true from f) Ls
 |gc i=>
  obtain ⟨t,rfl⟩:=g
  cases y with
  |gc j=>obtain ⟨e,rfl⟩:=d;exact W.eq_bytes<|cW I q BN
  |_=>exact absurd (show false=true from f) Ls
 |_=>cases y<;>exact absurd (show false=true from f) Ls
def zj:cH X (compareOp .NotEq) pE:=by
 intro k s l H x y v u Q I g d h
 obtain ⟨f,q⟩:=h
 cases x with
 |aq=>
  cases g
  cases y with
  |aq=>cases d;exact PySem.EqNone.ne_none_none<|cW I q Z8
  |bl j=>cases d;exact PySem.EqNone.ne_none_bool<|cW I q Z8
  |int j=>obtain ⟨e,rfl⟩:=d;exact PySem.EqNone.ne_none_int<|cW I q Z8
  |str j=>obtain ⟨e,rfl⟩:=d;exact PySem.EqNone.ne_none_str<|cW I q Z8
  |_=>exact absurd (show false=true from f) Ls
 |bl i=>
  cases g
  cases y with
  |aq=>cases d;exact PySem.EqNone.ne_bool_none<|cW I q Z8
  |bl j=>cases d;exact ne_bool<|cW I q<|Mq not yI
  |str j=>obtain ⟨e,rfl⟩:=d;exact PySem.EqMixed.ne_bool_str<|cW I q Z8
  |_=>exact absurd (show false=true from f) Ls
 |int i=>
  obtain ⟨t,rfl⟩:=g
  cases y with
  |aq=>cases d;exact PySem.EqNone.ne_int_none<|cW I q Z8
  |int j=>obtain ⟨e,rfl⟩:=d;exact ne_int<|cW I q<|Mq not Aq
  |str j=>obtain ⟨e,rfl⟩:=d;exact PySem.EqMixed.ne_int_str<|cW I q Z8
  |_=>exact absurd (show false=true from f) Ls
 |str i=>
  obtain ⟨t,rfl⟩:=g
  cases y with
  |aq=>cases d;exact PySem.EqNone.ne_str_none<|cW I q Z8
  |bl j=>cases d;exact PySem.EqMixed.ne_str_bool<|cW I q Z8
  |int j=>obtain ⟨e,rfl⟩:=d;exact PySem.EqMixed.ne_str_int<|cW I q Z8
  |str j=>obtain ⟨e,rfl⟩:=d;exact ne_str<|cW I q<|Mq not ya
  |_=>exact absurd (show false=true from f) Ls
 |gc i=>
  obtain ⟨t,rfl⟩:=g
  cases y with
  |gc j=>obtain ⟨e,rfl⟩:=d;exact W.ne_bytes<|cW I q<|Mq not BN
  |_=>exact absurd (show false=true from f) Ls
 |_=>cases y<;>exact absurd (show false=true from f) Ls
def m5:cH X (compareOp .Lt) (fS λi j=>.bl (decide (i<j))):=wa λ_ _ _ _ _ _ _ q=>lt_int q
def rR:cH X (compareOp .Gt) (fS λi j=>.bl (decide (j<i))):=wa λ_ _ _ _ _ _ _ q=>gt_int q
def yw:cH X (compareOp .GtE) (fS λi j=>.bl (decide (j<=i))):=wa λ_ _ _ _ _ _ _ q=>ge_int q
def Hh:cH X (compareOp .IsNot) (λx y H Q=>y=.aq/\Q (.bl (!decide (x=.aq))) H):=by
 intro d s g H x y v u Q I e f h
 obtain ⟨rfl,q⟩:=h
 cases f
 refine isnot_none_gen<|cW I q ?_
 cases x<;>first
  |(cases e;rfl)
  |(obtain ⟨t,rfl⟩:=e;rfl)
def cH.or(h:cH X f r)(k:cH X f e):cH X f (λx y H Q=>r x y H Q\/e x y H Q):=by
 intro d s g H x y v u Q I i j q
 rcases q with q|q
 .exact h d s g H x y v u Q I i j q
 .exact k d s g H x y v u Q I i j q
def ym(b:Expr)(h:d≠.In:=by decide)(e:d≠.NotIn:=by decide):behindInMarks d b=false:=by
 have f:(d==CmpOp.In)=false:=by cases d<;>first|rfl|exact absurd rfl h
 have g:(d==CmpOp.NotIn)=false:=by cases d<;>first|rfl|exact absurd rfl e
 cases b<;>simp [behindInMarks,f,g]
def KS(f:cH X (compareOp e) r)(g:PE X a ta)(i:PE X b tb)(j:behindInMarks e b=false):PE X (.Compare a [e] [b] pos) (bZ r ta tb):=by
 intro d s k H Q I h
 exact wpAny_Compare1 (wE g i I h λv u l x y m n o p q=>f d l k m x y v u Q n o p q) j
def sQ (t:TE):TT:=λσ H Q=>t σ H λx H'=>∃k,x=.bl k/\Q k H'
theorem FR {op:CmpOp}{r:R2}(ho:cH X (compareOp op) r)(ha:PE X a ta)(hb:PE X b tb)(hm:behindInMarks op b=false):PT X (.Compare a [op] [b] pos) (sQ (bZ r ta tb)):=by
 intro pins s σ H Q I h
 refine wpAny_isTrue_Compare1 (aS (ha pins s σ H _ I h) fun v s1 ⟨x,H1,I1,r1,q1⟩=>aS (hb pins s1 σ H1 _ I1 q1) fun u s2 ⟨y,H2,I2,r2,q2⟩=>
  aS (ho pins s2 σ H2 x y v u _ I2 r1 r2 q2) fun c s3 ⟨z,H3,I3,r3,k,e,q3⟩=>?_) hm
 subst e
 cases r3
 exact wpAny_truthy_bool ⟨H3,I3,q3⟩
def qX (K:PySem.W.Frag)(x:V)(H:Hp)(k:Bool):Prop:=
 match x with
 |.aq=>k=false
 |.bl b=>k=b
 |.int i=>k=(i !=0)
 |.str y=>y.length<=sizeLine/\k=((y.length:Int) !=0)
 |.gc y=>y.size<=sizeLine/\k=((y.size:Int) !=0)
 |.ref p=>(∃xs,aQ K H p xs/\k= !xs.isEmpty)\/(∃xs,br K H p xs/\k= !xs.isEmpty)\/∃kvs,H p=some (.dK kvs)/\k= !kvs.isEmpty
 |_=>False
def Ji(r:KV d f):(!f.isEmpty)= !d.isEmpty:=by
 cases r<;>rfl
def zk(r:ba e d):(!d.toArray.isEmpty)= !e.isEmpty:=by
 cases r<;>simp
def oU:(sizeLine:Nat)<2^63:=by rw [Pl];decide
def IR:IF X (λx H Q=>∃k,qX X.K x H k/\Q k H):=by
 intro A s G H x v Q I l h
 obtain ⟨k,e,q⟩:=h
 have J:=oU
 have L:sizeLine=16777216:=Pl
 cases x with
 |aq=>
  cases l
  have d:k=false:=e
  subst d
  exact truthy_none ⟨H,I,q⟩
 |bl b=>
  cases l
  have d:k=b:=e
  subst d
  exact MG ⟨H,I,q⟩
 |int i=>
  obtain ⟨t,rfl⟩:=l
  have d:k=(i !=0):=e
  subst d
  exact PySem.P.truthy_int ⟨H,I,q⟩
 |str y=>
  obtain ⟨t,rfl⟩:=l
  obtain ⟨C,d⟩:y.length<=sizeLine/\k=((y.length:Int) !=0):=e
  subst d
  exact PySem.P.truthy_str Z4 ⟨H,I.tok _,q⟩
 |gc y=>
  obtain ⟨t,rfl⟩:=l
  obtain ⟨C,d⟩:y.size<=sizeLine/\k=((y.size:Int) !=0):=e
  subst d
  exact W.truthy_bytes Z4 ⟨H,I.tok _,q⟩
 |ref p=>
  cases l
  have d:(∃j,aQ X.K H p j/\k= !j.isEmpty)\/(∃j,br X.K H p j/\k= !j.isEmpty)\/∃f,H p=some (.dK f)/\k= !f.isEmpty:=e
  rcases d with ⟨j,n,d⟩|⟨j,n,d⟩|⟨f,n,d⟩
  .subst d
   obtain ⟨u,r,z,B⟩:=I.list n
   have g:=r.length
   exact wpAny_truthy_list z.isList (by simp only [LF];omega) ⟨H,I.tok _,by rw [zk r];exact q⟩
  .subst d
   obtain ⟨u,r,z,B⟩:=I.tuple n
   have g:=r.length
   exact truthy_tuple z (by simp only [LF];omega) ⟨H,I.tok _,by rw [zk r];exact q⟩
  .subst d
   obtain ⟨B,E,o,r,m⟩:f.length<=sizeLine/\(p==sysModules)=false/\∃o,KV f o/\s.heap.DictOf (dq X.prog X.w) p o:=I.ay p _ n
   have g:f.length=o.length:=Ng r
   exact wpAny_truthy_dict E m Z4 ⟨H,I.tok _,by rw [Ji r];exact q⟩
 |_=>exact (show False from e).elim
def uf (g:PE X a ta)(i:∀fQ,isTrue a X.env fQ=(do let v<-fQ;standAt a.pos;holding [v] (truthy v))):
  PT X a (λe H Q=>ta e H λx f=>∃k,qX X.K x f k/\Q k f):=by
 intro d s e H Q I h
 exact isTrue_plain (aS (g d s e H _ I h) λv j l=>by obtain ⟨x,m,n,o,p⟩:=l;exact IR d j e m x v Q n o p)<|i _
def Pu{x:V}(r:ba [x] d):∃u,d=[u]/\RelV x u:=by
 cases r with
 |cons e f=>cases f;exact ⟨_,rfl,e⟩
def vals2(r:ba [x,y] d):∃u e,d=[u,e]/\RelV x u/\RelV y e:=by
 cases r with
 |cons f g=>
  cases g with
  |cons h i=>cases i;exact ⟨_,_,rfl,f,h⟩
end
end L2
namespace L2
open PySem PySem.Spec PyProof.Rows
structure mF (h:Heap)(x dx C:Addr)(mA:Str->Option Value):Prop where
 obj:h.get? x=some (PySem.W.instObj C dx)
 ns:h.Ns1 dx mA
 ne:dx≠x
def Ef{h:Heap}(n:h.Ns1 c d):∃f,h.get? c=some f/\∀name,W.lookIn name f=some (d name):=by
 obtain ⟨o,g,r,i,j,k,_,l⟩:=n
 refine ⟨o,i,λname=>?_⟩
 have e:=l name
 unfold nsFind findBy at e
 rw [<-Array.find?_toList] at e
 unfold W.lookIn
 rw [j]
 dsimp only
 split
 .rename_i y q
  rw [q] at e
  exact Mq some e
 .rename_i q
  rw [q] at e
  have a:g.toList.any (·.refKey)=false:=by
   rw [Ot]
   intro y m
   obtain ⟨z,t,b⟩:=k y<|Array.mem_toList_iff.mp m
   simp [DictEntry.refKey,b]
  have p:¬g.toList.any (·.refKey)=true:=by rw [a];exact Ls
  rw [Lq p]
  exact Mq some e
def mF.look(I:mF h x b C c):∃a,W.InstAt h x (W.instObj C b) C (some a)/\∀name,W.lookIn name a=some (c name):=
 let ⟨a,d,e⟩:=Ef I.ns
 ⟨a,⟨I.obj,rfl,rfl,d⟩,e⟩
section
variable {prog:Program}{w:World}{A:Around}{E:Value->Shared->Prop}{s:Shared}{K:PySem.W.Frag}{x dx C f:Addr}{mA:Str->Option Value}{name:Str}{v:Value}
def IK{Q:ZT}(X:K.In s.heap)(I:mF s.heap x dx C mA)(c:W.plainGet K C name=true)(d:W.hasDictIn K C=true)
  (e:W.findIn K (.ref C) name=some none) (g:mA name=some v) (b:W.handedIn v=true) (h:Q v {s with toks:=s.toks+1}):
  wpAny (model prog w) A (getAttr (.ref x) name a) Q E s:=by
 obtain ⟨j,J,i⟩:=I.look
 exact W.get_value X J (OX c).1 (W.findObj_own d e rfl (by rw [i,g])) b h
def EA{Q:Value×List Value->Shared->Prop}(X:K.In s.heap)(I:mF s.heap x dx C mA)(a:W.plainGet K C name=true)
  (c:W.findIn K (.ref C) name=some (some (.ref f))) (d:W.isFn K (.ref f)=true) (e:mA name=none) (h:Q (.ref f,[.ref x]) s):
  wpAny (model prog w) A (getMethod (.ref x) name b) Q E s:=by
 obtain ⟨g,J,i⟩:=I.look
 exact W.method_fn X J (OX a).1 (OX a).2 c (Oi.mp d) (by show (W.lookIn name g).map (·.isSome)=some false;rw [i,e];rfl) h
def K8{Q:Unit->Shared->Prop}(X:K.In s.heap)(I:mF s.heap x dx C mA)
  (m:W.findIn K (.ref C) "__setattr__"=some (some (.builtin "object.__setattr__"))) (n:W.plainOver K C=true) (o:W.takerIn K C name=some none) (p:W.hasDictIn K C=true)
  (q:PySem.Within mA l) (t:l.length<=sizeLine)
  (h:∀e,mF e x dx C (λy=>if y=name then some v else mA y)->Heap.SameBut dx s.heap e->Q () {s with heap:=e,toks:=s.toks+2}):
  wpAny (model prog w) A (setAttr (.ref x) name v) Q E s:=by
 obtain ⟨H,J,L⟩:=I.look
 refine W.set_plain X J m<|W.osa_open (s:={s with toks:=s.toks+1}) (r:=none) X J n o λb=>?_
 obtain ⟨M,u,g⟩:=W.any_some p
 have z:s.heap.get? x=some ⟨.ref C,some dx,.plain, #[]⟩:=I.obj
 refine Lh<|Lz<|Lh<|Lh<|wpAny_loadPart z<|Lh<|W.Looks.here (s:={s with toks:=s.toks+1}) (W.looks_clsIn X u) ?_
 rw [g]
 refine Lz (a:=some dx)<|Lh<|Lz<|Lh ?_
 refine wpAny_nsSet1 (s:={s with toks:=s.toks+1}) I.ns λe c d=>?_
 obtain ⟨N,B,G,i,j,k⟩:=c.count<|PySem.Within.cons name v q
 refine Lh<|wpAny_lookBehind i (by rw [j];exact pastItsLine_dict<|LN k (by rw [Ma];omega)) ?_
 exact Lz<|h _ ⟨(d.2 _<|Ml I.ne).trans I.obj,c,I.ne⟩ d
def EF(X:K.In s.heap)(e:W.makesIn K C=true)
  (i:W.findIn K (.ref C) "__init__"=some (some (.ref f))) (j:W.typeIn K (.ref f)=some (.type "function"))
  (h:codeAny (model prog w) (A.under (.builtin "type.__call__" ⟨.ref C::b,c⟩)) (.call (.ref f) ⟨.ref (s.heap.objs.size+1)::b,c⟩) (W.InitBack (s.heap.objs.size+1) R)
   {s with heap:=(s.heap.push W.emptyDict).push (W.instObj C s.heap.objs.size)}):
  codeAny (model prog w) A (.call (.ref C) ⟨b,c⟩) R s:=by
 obtain ⟨k,g,d,t,os⟩:=s
 exact W.make_core (W.makes_of X e) (W.looks_findIn X i) (λa=>W.bind_fn X a j) (.inl rfl) h
end
def cN (f:Str)(v:V):List (Str×V)->List (Str×V)
 |[]=>[(f,v)]
 |(g,x)::r=>if g=f then (g,v)::r else (g,x)::cN f v r
theorem Av (f g:Str)(v:V):∀c:List (Str×V),(cN f v c).lookup g=if g=f then some v else c.lookup g
 |[]=>by
  show List.lookup g [(f,v)]=_
  by_cases h:g=f
  .have a:(g==f)=true:=Oi.mpr h
   simp only [List.lookup,a,Lv h]
  .have a:(g==f)=false:=Mz.mpr h
   simp only [List.lookup,a,Lq h]
 |(k,x)::r=>by
  have d:=Av f g v r
  rw [show cN f v ((k,x)::r)=(if k=f then (k,v)::r else (k,x)::cN f v r) from rfl]
  by_cases b:k=f
  .rw [Lv b]
   by_cases h:g=k
   .have a:(g==k)=true:=Oi.mpr h
    simp only [List.lookup,a,Lv<|h.trans b]
   .have a:(g==k)=false:=Mz.mpr h
    simp only [List.lookup,a,Lq λe:g=f=>h<|e.trans b.symm]
  .rw [Lq b]
   by_cases h:g=k
   .have a:(g==k)=true:=Oi.mpr h
    simp only [List.lookup,a,Lq λe:g=f=>b<|h.symm.trans e]
   .have a:(g==k)=false:=Mz.mpr h
    simp only [List.lookup,a]
    exact d
theorem wN (f:Str)(v:V):∀a:List (Str×V),f∈(cN f v a).map (·.1)/\∀g,g∈a.map (·.1)->g∈(cN f v a).map (·.1)
 |[]=>⟨by simp [cN],λg h=>by simp at h⟩
 |(k,x)::r=>by
  obtain ⟨c,d⟩:=wN f v r
  rw [show cN f v ((k,x)::r)=(if k=f then (k,v)::r else (k,x)::cN f v r) from rfl]
  by_cases b:k=f
  .rw [Lv b]
   subst b
   exact ⟨by simp,λg h=>by simpa using h⟩
  .rw [Lq b]
   refine ⟨?_,λg h=>?_⟩
   .rw [Me]
    exact Lg _ c
   .rw [Me] at h⊢
    rcases Lw.mp h with e|e
    .exact Lw.mpr (.inl e)
    .exact Lg _<|d g e
theorem y3 (f:Str)(v:V):∀a:List (Str×V),(cN f v a).length<=a.length+1
 |[]=>by simp [cN]
 |(k,x)::r=>by
  have c:=y3 f v r
  rw [show cN f v ((k,x)::r)=(if k=f then (k,v)::r else (k,x)::cN f v r) from rfl]
  by_cases b:k=f
  .rw [Lv b,Ma,Ma];omega
  .rw [Lq b,Ma,Ma];omega
def dU.some_of(r:dU (some v) o):∃u,o=some u/\RelV v u:=by
 cases o with
 |none=>exact (show False from r).elim
 |some u=>exact ⟨u,rfl,r⟩
def dU.none_of(r:dU none o):o=none:=by
 cases o with
 |none=>rfl
 |some u=>exact (show False from r).elim
def Ia(r:RelV v u):W.handedIn u=true:=by
 cases v with
 |aq=>cases (show u=Value.none from r);rfl
 |bl b=>cases (show u=Value.bool b from r);rfl
 |int i=>obtain ⟨t,e⟩:=(show∃t,u=Value.int i t from r);cases e;rfl
 |str x=>obtain ⟨t,e⟩:=(show∃t,u=Value.str x t from r);cases e;rfl
 |gc b=>obtain ⟨t,e⟩:=(show∃t,u=Value.bytes b t from r);cases e;rfl
 |lz b=>obtain ⟨t,e⟩:=(show∃t,u=Value.float b t from r);cases e;rfl
 |ref a=>cases (show u=Value.ref a from r);rfl
 |ty n=>cases (show u=Value.type n from r);rfl
section
variable {P:Program}{w:World}{H H':Hp}{h h':Heap}{a C dx:Addr}{fs fs':List (Str×V)}
def tw (ay:cS P w H h)(e:H a=some (.ins C dx fs)):∃b,mF h a dx C b/\(∀f,dU (fs.lookup f) (b f))/\PySem.Within b (fs.map (·.1))/\fs.length<=1000/\H dx=some (.own a):=by
 obtain ⟨d,z,c,g,b,n,r,q⟩:=(show bS P w H h a (.ins C dx fs) from ay a _ e)
 exact ⟨b,⟨g,n,c⟩,r,q,z,d⟩
end
structure dk (K:PySem.W.Frag)(C:Addr):Prop where
 pg:PySem.W.plainGet K C Str.empty=true
 hd:PySem.W.hasDictIn K C=true
 po:PySem.W.plainOver K C=true
 sa:PySem.W.findIn K (.ref C) "__setattr__"=some (some (.builtin "object.__setattr__"))
def dk.get{K:W.Frag}(c:dk K C)(f:Str):W.plainGet K C f=true:=c.pg
def bO (K:PySem.W.Frag)(C:Addr)(f:Str):Prop:=PySem.W.findIn K (.ref C) f=some none
def bO.Gi{K:W.Frag}(n:bO K C f):W.takerIn K C f=some none:=by
 unfold W.takerIn
 rw [show W.findIn K (.ref C) f=some none from n]
 rfl
structure cZ (K:PySem.W.Frag)(C:Addr)(m:Str)(f:Addr):Prop where
 at_:PySem.W.findIn K (.ref C) m=some (some (.ref f))
 fn:PySem.W.isFn K (.ref f)=true
 kp:PySem.W.keepIn K (.ref f)=true
section
variable {X:Cx}{pins:List (Addr×Obj)}{σ:St}{H:Hp}{s:Shared}{a C dx:Addr}{fs:List (Str×V)}{f:Str}{v:V}{A:Around}{E:Value->Shared->Prop}
def F8{Q:ZT}(I:Inv X pins σ H s)(e:H a=some (.ins C dx fs))(c:dk X.K C)(n:bO X.K C f)(l:fs.lookup f=some v)
  (h:∀u d,Inv X pins σ H d->RelV v u->Q u d):wpAny (model X.prog X.w) A (getAttr (.ref a) f b) Q E s:=by
 obtain ⟨i,O,r,_,_,_⟩:=tw I.ay e
 obtain ⟨u,j,g⟩:=dU.some_of (v:=v) (o:=i f) (by rw [<-l];exact r f)
 exact IK I.dC O (c.get f) c.hd n j (Ia g)<|h u _ (I.tok _) g
def za{Q:Value×List Value->Shared->Prop}(I:Inv X pins σ H s)(e:H a=some (.ins C dx fs))(c:dk X.K C)(k:cZ X.K C m g)(l:fs.lookup m=none)
  (h:Q (.ref g,[.ref a]) s):wpAny (model X.prog X.w) A (getMethod (.ref a) m b) Q E s:=by
 obtain ⟨d,O,r,_,_,_⟩:=tw I.ay e
 have i:d m=none:=dU.none_of (by rw [<-l];exact r m)
 exact EA I.dC O (c.get m) k.at_ k.fn i h
def El{Q:Unit->Shared->Prop}(I:Inv X pins σ H s)(e:H a=some (.ins C dx fs))(c:dk X.K C)(n:bO X.K C f)(N:fs.length<1000)(m:RelV y u)
  (h:∀i,Inv X pins σ (upd H a (.ins C dx (cN f y fs))) i->Q () i):wpAny (model X.prog X.w) A (setAttr (.ref a) f u) Q E s:=by
 obtain ⟨j,O,r,k,_,l⟩:=tw I.ay e
 have p:(fs.map (·.1)).length<=sizeLine:=by rw [Ll,Pl];omega
 refine K8 I.dC O c.sa c.po n.Gi c.hd k p λt d B=>h _ ?_
 have G:∃o,t.get? dx=some o:=let ⟨o,_,_,J,_⟩:=d.ns;⟨o,J⟩
 refine I.write (x:=a) (e:=dx) (by rw [e];exact True.intro) (.inr l) (λb q L z=>(B.2 b L).trans z) G ?_
 refine ⟨by rw [aA O.ne];exact l,?_,O.ne,d.obj,_,d.ns,λg=>?_,λg M=>?_⟩
 .have:=y3 f y fs;omega
 .show dU ((cN f y fs).lookup g) (if g=f then some u else j g)
  rw [Av]
  by_cases q:g=f
  .rw [Lv q,Lv q];exact m
  .rw [Lq q,Lq q];exact r g
 .by_cases q:g=f
  .rw [q];exact (wN f y fs).1
  .refine (wN f y fs).2 g (k g λz=>M ?_)
   show (if g=f then some u else j g)=none
   rw [Lq q];exact z
def Inv.made (I:Inv X pins σ H s):Inv X pins σ (upd (upd H s.heap.objs.size (.own (s.heap.objs.size+1))) (s.heap.objs.size+1) (.ins C s.heap.objs.size []))
  {s with heap:=(s.heap.push W.emptyDict).push (W.instObj C s.heap.objs.size)}:=by
 have c:(s.heap.push W.emptyDict).get? s.heap.objs.size=some W.emptyDict:=LJ s.heap rfl
 have g:((s.heap.push W.emptyDict).push<|W.instObj C s.heap.objs.size).get? (s.heap.objs.size+1)=some (W.instObj C s.heap.objs.size):=by
  have:=LJ (s.heap.push W.emptyDict) (o:=W.instObj C s.heap.objs.size) rfl
  rwa [MJ] at this
 have h:(s.heap.push W.emptyDict).Ns s.heap.objs.size (λ_=>none):=⟨W.emptyDict, #[],_,c,rfl,(λe i=>absurd i Z8),λ_=>rfl⟩
 have j:=I.laid (a:=s.heap.objs.size) (o:=.own<|s.heap.objs.size+1) (h':=s.heap.push W.emptyDict) (t':=s.toks) (λb u q=>Ln _ q) (Lo _) ⟨_,c⟩
 refine j.laid (a:=s.heap.objs.size+1) (o:=.ins C s.heap.objs.size []) (t':=s.toks) (λb u q=>Ln _ q) (PL<|MJ _ _) ?_
 have d:s.heap.objs.size≠s.heap.objs.size+1:=LY<|MW _
 refine ⟨by rw [aA d,aN],LP _,d,g,λ_=>none,(Heap.Ns1.of_empty h).at λo q=>Ln _ q,λ_=>True.intro,λy k=>absurd rfl k⟩
def Jk{f:Str}{s:Shared}(i:attributeBase e f c (eval e c)=eval e c)
  (h:wpAny (model b w) A (eval e c) (λo d=>wpAny (model b w) A (getAttr o f true) Q E d) E s):wpAny (model b w) A (eval (.Attribute e f g) c) Q E s:=
 Attribute_any_ h (by rw [arm_eval_Attribute,i])
end
def kz (K:PySem.W.Frag)(ta:TE)(f:Str):TE:=λσ H Q=>ta σ H λx H1=>∃a C dx fs v,x=.ref a/\H1 a=some (.ins C dx fs)/\dk K C/\bO K C f/\fs.lookup f=some v/\Q v H1
def Br (K:PySem.W.Frag)(ta tv:TE)(f:Str):TS:=λD σ H=>tv σ H λy H1=>ta σ H1 λx H2=>∃a C dx fs,x=.ref a/\H2 a=some (.ins C dx fs)/\dk K C/\bO K C f/\fs.length<1000/\
 D.nx σ (upd H2 a (.ins C dx (cN f y fs)))
section
variable {X:Cx}{o e value:Expr}{f:Str}{pos pos' tpos:Pos}{ta tv:TE}
def dB (d:PE X e ta)(g:attributeBase e f X.env (eval e X.env)=eval e X.env):PE X (.Attribute e f pos) (kz X.K ta f):=by
 intro b s i H Q I h
 refine Jk g<|aS (d b s i H _ I h) λu z j=>?_
 obtain ⟨x,k,m,p,a,C,A,B,v,r,t,c,n,l,q⟩:=j
 subst r
 obtain rfl:u=Value.ref a:=p
 exact F8 m t c n l λE G w y=>⟨v,k,w,y,q⟩
def fw (g:PE X o ta)(i:PE X value tv)(j:swapsWith value (some (.Attribute o f pos')) pos.line X.env=pure false):PS X (.Assign [.Attribute o f pos'] value pos) (Br X.K ta tv f):=by
 intro b s d H D I h
 refine plainObj_wpAny_Assign_Attribute (aS (i b s d H _ I h) λu k ⟨y,m,p,r,q⟩=>aS (g b k d m _ p q) λt G ⟨x,J,v,w,a,C,L,M,z,A,c,n,l,B⟩=>?_) j
 subst z
 obtain rfl:t=Value.ref a:=w
 exact El v A c n l r λN E=>⟨d,_,E,B⟩
end
section
variable {X:Cx}{pins:List (Addr×Obj)}{σ:St}{H:Hp}{s:Shared}{A:Around}{E:Value->Shared->Prop}{Q:Value->Shared->Prop}{c:Value}{b:Bool}
inductive gf (K:PySem.W.Frag)(H:Hp):V->Value->Prop where
 |aq:gf K H .aq (.type "NoneType")
 |bl (x:Bool):gf K H (.bl x) (.type "bool")
 |int (i:Int):gf K H (.int i) (.type "int")
 |str (x:Str):gf K H (.str x) (.type "str")
 |lz (x:UInt64):gf K H (.lz x) (.type "float")
 |lst {a:Addr} {xs:List V} (e:H a=some (.lst xs)):gf K H (.ref a) (.type "list")
 |cL {a:Addr} {o:Obj} {xs:List V} (e:H a=some (.cL o (.lst xs))):gf K H (.ref a) (.type "list")
 |tup {a:Addr} {xs:List V} (e:H a=some (.tup xs)):gf K H (.ref a) (.type "tuple")
 |dK {a:Addr} {kvs:List (aJ×V)} (e:H a=some (.dK kvs)):gf K H (.ref a) (.type "dict")
 |dT {a:Addr} {kvs:List (List aJ×V)} (e:H a=some (.dT kvs)):gf K H (.ref a) (.type "dict")
 |ins {a C dx:Addr} {fs:List (Str×V)} (e:H a=some (.ins C dx fs)) (cl:dk K C) (ha:PySem.W.findIn K (.ref C) "__class__"=some (some (.builtin "object.__class__")))
   (hn:PySem.W.specialIn K (.builtin "object.__class__") "__get__"=some (some (.builtin "getset_descriptor.__get__"))) (htk:PySem.W.takesIn K (.builtin "object.__class__")=some true)
   (hm:PySem.W.mroIn K C (.type "object")=some true):gf K H (.ref a) (.ref C)
def Gh(I:Inv X pins σ H s)(d:RelV x u)(v:gf X.K H x t)(e:W.kitOne X.K t c=some b)(h:∀B,Q (.bool b) {s with toks:=B}):
  wpAny (model X.prog X.w) A (call (.builtin "isinstance") [u,c]) Q E s:=by
 cases v with
 |aq=>cases (show u=Value.none from d);exact MC W.kitx_none I.dC True.intro e (λz=>nomatch z) h
 |bl y=>cases (show u=Value.bool y from d);exact MC W.kitx_bool I.dC True.intro e (λz=>nomatch z) h
 |int i=>obtain ⟨t,q⟩:=(show∃t,u=Value.int i t from d);cases q;exact MC W.kitx_int I.dC True.intro e (λz=>nomatch z) h
 |str y=>obtain ⟨t,q⟩:=(show∃t,u=Value.str y t from d);cases q;exact MC W.kitx_str I.dC True.intro e (λz=>nomatch z) h
 |lz y=>obtain ⟨t,q⟩:=(show∃t,u=Value.float y t from d);cases q;exact MC W.kitx_float I.dC True.intro e (λz=>nomatch z) h
 |@lst a k f=>
  cases (show u=Value.ref a from d)
  obtain ⟨_,_,n,_,g⟩:=(show bS X.prog X.w H s.heap a (.lst k) from I.ay a _ f)
  exact MC W.kitx_list I.dC ⟨_,g,rfl⟩ e (λz=>nomatch z) h
 |@cL a G k f=>
  cases (show u=Value.ref a from d)
  obtain ⟨_,_,_,n,_,g⟩:=(show bS X.prog X.w H s.heap a (.cL G (.lst k)) from I.ay a _ f)
  exact MC W.kitx_list I.dC ⟨_,g,rfl⟩ e (λz=>nomatch z) h
 |@tup a k f=>
  cases (show u=Value.ref a from d)
  obtain ⟨_,_,_,p⟩:=(show bS X.prog X.w H s.heap a (.tup k) from I.ay a _ f)
  obtain ⟨o,g,l,_⟩:=p
  exact MC W.kitx_tuple I.dC ⟨o,g,l⟩ e (λz=>nomatch z) h
 |@dK a j f=>
  cases (show u=Value.ref a from d)
  obtain ⟨_,_,Y,_,p⟩:=(show bS X.prog X.w H s.heap a (.dK j) from I.ay a _ f)
  obtain ⟨o,L,M,g,l,_⟩:=p
  exact MC W.kitx_dict I.dC ⟨o,g,l.1⟩ e (λz=>nomatch z) h
 |@dT a j f=>
  cases (show u=Value.ref a from d)
  obtain ⟨_,_,k,_,o,L,M,g,l,_⟩:=(show bS X.prog X.w H s.heap a (.dT j) from I.ay a _ f)
  exact MC W.kitx_dict I.dC ⟨o,g,l.1⟩ e (λz=>nomatch z) h
 |@ins a C dx fs f r N T m U=>
  cases (show u=Value.ref a from d)
  obtain ⟨mA,O,_⟩:=tw I.ay f
  obtain ⟨od,J,_⟩:=O.look
  exact MC (W.kitx_own (r.get _) r.hd N T m U) I.dC J e (λz=>nomatch z) h
end
end L2
namespace L2
open PySem PySem.Spec PyProof.Rows
structure cK (k:Nat)(A:Around):Prop where
 hd:A.handled=none
 dp:A.depth+3*k+5<recursionLimit
 un:A.units+16*k+200<cLine
def cK.mono(r:cK k A)(h:j<=k):cK j A:=⟨r.hd,by have:=r.dp;omega,by have:=r.un;omega⟩
theorem cK.deeper(r:cK (k+1) A)(a:Env):cK k (A.deeper a):=
 ⟨r.hd,by have:=r.dp;show A.depth+1+3*k+5<_;omega,by have:=r.un;show A.units+3+16*k+200<_;omega⟩
def Ld{A:Around}:(A.under (.builtin "type.__call__" ⟨.ref C::a,b⟩)).depth=A.depth+1:=by
 first|rfl|simp [Around.under,Code.weight,Code.isCreation,Code.isGuard,Code.isCaller,Code.frames,Code.isFrame,guardIds]
def EG{A:Around}:(A.under (.builtin "type.__call__" ⟨.ref C::a,b⟩)).units=A.units+1:=by
 first|rfl|simp [Around.under,Code.cUnits,Code.frames,Code.isFrame]
def cK.make(r:cK (k+1) A)(C:Addr)(a:List Value)(b:List (Str×Value)):cK k (A.under (.builtin "type.__call__" ⟨.ref C::a,b⟩)):=
 ⟨r.hd,by have:=r.dp;rw [Ld];omega,by have:=r.un;rw [EG];omega⟩
theorem cK.depth(r:cK k A):A.depth<recursionLimit:=by have:=r.dp;omega
theorem cK.units(r:cK k A):A.units+64<cLine:=by have:=r.un;omega
def bB:TA:=λ_ H Q=>Q [] H
def bn (ta:TE)(tr:TA):TA:=λσ H Q=>ta σ H λx H1=>tr σ H1 λxs H2=>Q (x::xs) H2
section
variable {X:Cx}{e:Expr}{es:List Expr}{te:TE}{t:TA}{pos:Pos}
def ar:PA X [] bB:=λ_ _ _ _ H Q I h=>Pm ⟨[],H,I,.nil,h⟩
def ak (d:PE X e te)(f:PA X es t)(g:starEach (e::es) X.env=(false,eval e X.env)::starEach es X.env:=by rfl):PA X (e::es) (bn te t):=by
 intro b a s c H Q I h
 rw [g]
 show wpAny _ _ (spliced ((false,eval e X.env)::backTo b (starEach es X.env))) _ _ s
 refine NG<|aS (d a s c H _ I h) λu i j=>?_
 obtain ⟨x,k,l,m,n⟩:=j
 exact aS (f b a i c k _ l n) λy z o=>by obtain ⟨p,q,r,v,w⟩:=o;exact ⟨x::p,q,r,.cons m v,w⟩
def sZ (t:TA):TE:=λσ H Q=>t σ H λxs H1=>xs.length<=sizeLine/\∀p,H1 p=none->Q (.ref p) (upd H1 p (.tup xs))
def jG (t:TA):TE:=λσ H Q=>t σ H λxs H1=>xs.length<=sizeLine/\∀p,H1 p=none->Q (.ref p) (upd H1 p (.lst xs))
def eE {g}(h:PA X es t):PE X (.Tuple es g pos) (sZ t):=by
 intro a s i H Q I j
 refine wpAny_Tuple_spliced<|aS (h pos a s i H _ I j) λk c ⟨l,d,f,r,z,q⟩=>⟨by rw [<-r.length];exact z,?_⟩
 have m:d c.heap.objs.size=none:=f.ay.fresh<|Lo _
 refine ⟨.ref c.heap.objs.size,upd d c.heap.objs.size (.tup l),f.laid (t':=c.toks) (λb u e=>Ln _ e) (Lo _) ?_,rfl,q _ m⟩
 exact ⟨z,k,r,⟨_,LJ _ rfl,rfl,_,rfl⟩⟩
def dj (h:PA X es t):PE X (.List es pos) (jG t):=by
 intro a s g H Q I i
 refine wpAny_List_spliced<|aS (h pos a s g H _ I i) λj c ⟨k,d,f,r,z,q⟩=>⟨by rw [<-r.length];exact z,?_⟩
 have l:d c.heap.objs.size=none:=f.ay.fresh<|Lo _
 refine ⟨.ref c.heap.objs.size,upd d c.heap.objs.size (.lst k),f.laid (t':=c.toks) (λb u e=>Ln _ e) (Lo _) ?_,rfl,q _ l⟩
 exact ⟨z,j,0,r,LJ _ rfl⟩
end
abbrev Sp:=List V->Hp->VK->XK->Prop
abbrev gZ:=List Env->Hp->Shared->XK->Value->Shared->Prop
structure lF (P:Program)(w:World)(K:PySem.W.Frag)(mg:Str->Option Value)(base:Heap)(A:Around)(outer:List Env)(s:Shared)(H:Hp):Prop where
 frames:A.frames=some outer
 mod:Mod K mg base
 bs:∀b o,base.get? b=some o->s.heap.get? b=some o/\H b=none
 jV:base.objs.size<=s.heap.objs.size
 gQ:s.heap.FunFrames base outer
 kI:∀b∈ia outer,H b=none
 ay:cS P w H s.heap
 bare:AllBare s.gens
def CE (outer:List Env)(P:Program)(w:World)(H:Hp)(s:Shared)(Q:VK)(u:Value)(s':Shared):Prop:=
 ∃v H',s'.os=s.os/\AllBare s'.gens/\Un (ia outer) [] H H' s.heap s'.heap/\cS P w H' s'.heap/\RelV v u/\Q v H'
def CR (CX:gZ)(outer:List Env)(P:Program)(w:World)(H:Hp)(s:Shared)(Q:VK)(E:XK)(r:Result)(s':Shared):Prop:=
 match r with
 |.ok (.ret u)=>CE outer P w H s Q u s'
 |.ok _=>False
 |.error e=>CX outer H s E e s'
structure bp (P:Program)(w:World)(K:PySem.W.Frag)(mg:Str->Option Value)(base:Heap)(CX:gZ)(k:Nat)(f:Addr)(fd:FuncData)(ps:List Str)(sp:Sp):Prop where
 len:∀vs H Q E,sp vs H Q E->vs.length=ps.length
 run:∀(A:Around) (outer:List Env) (s:Shared) (H:Hp) (args:Args) (us:List Value) (vs:List V) (Q:VK) (E:XK),cK k A->lF P w K mg base A outer s H->BindsTo s fd args (ps.zip us)->ba vs us->sp vs H Q E->
  codeAny (model P w) A (.call (.ref f) args) (CR CX outer P w H s Q E) s
theorem bp.mono{K:W.Frag}{base:Heap}(F:bp P w K c base d j f e g i)(h:j<=k):
  bp P w K c base d k f e g i:=⟨F.len,λA a s H b l m Q E n=>F.run A a s H b l m Q E<|n.mono h⟩
def lF.make{K:W.Frag}{base:Heap}(e:lF P w K b base A a s H)(C:Addr)(c:List Value)(d:List (Str×Value)):
  lF P w K b base (A.under (.builtin "type.__call__" ⟨.ref C::c,d⟩)) a s H:=⟨by first|exact e.frames|(simpa [Around.under,Code.envs,Code.isFrame,pushEnvs] using e.frames),e.mod,e.bs,e.jV,e.gQ,e.kI,e.ay,e.bare⟩
section
variable {X:Cx}{pins:List (Addr×Obj)}{σ:St}{H:Hp}{s s':Shared}
def Inv.xV (I:Inv X pins σ H s):lF X.prog X.w X.K X.mg X.base X.A X.stack s H:=
 ⟨I.ok.frames,I.ok.mod,I.bs,LN I.ok.jV I.sz,I.stack,I.Ac,I.ay,I.bare⟩
def Inv.after(I:Inv X pins σ H s)(h:CE X.stack X.prog X.w H s Q u s'):EP X pins σ Q u s':=by
 obtain ⟨v,e,os,a,f,ay,r,q⟩:=h
 obtain ⟨i,g,d,t,c⟩:=s'
 obtain rfl:c=s.os:=os
 exact ⟨v,e,I.call (h':=i) (g':=g) (d':=d) (t':=t) (ch:=[]) f ay a λb z=>absurd z Z8,r,q⟩
end
def ii (sp:Sp)(dvs:List V)(E:XK)(t:TA):TE:=λσ H Q=>t σ H λvs H1=>sp (vs++dvs) H1 Q E
def kj (C:Addr)(m:Str)(sp:Sp)(dvs:List V)(E:XK)(ta:TE)(t:TA):TE:=λσ H Q=>ta σ H λx H1=>∃a dx fs,x=.ref a/\H1 a=some (.ins C dx fs)/\fs.lookup m=none/\
 t σ H1 λvs H2=>sp (x::(vs++dvs)) H2 Q E
def rX (C:Addr)(sp:Sp)(dvs:List V)(E:XK)(t:TA):TE:=λσ H Q=>t σ H λvs H1=>∀x dx,H1 x=none->H1 dx=none->dx≠x->
 sp (.ref x::(vs++dvs)) (upd (upd H1 dx (.own x)) x (.ins C dx [])) (λv H2=>v=.aq/\Q (.ref x) H2) E
def Binds (K:PySem.W.Frag)(fd:FuncData)(ps:List Str)(ds:List Value):Prop:=
 ∀(s:Shared) (us:List Value),K.In s.heap->(us++ds).length=ps.length->BindsTo s fd ⟨us,[]⟩ (ps.zip (us++ds))
def Binds.all{K:W.Frag}{b:ZY}(h:∀a:List Value,a.length=b.length->bindArgs c ⟨a,[]⟩=pure (b.zip a)):Binds K c b []:=λs a _ d=>by
 rw [LV] at d⊢
 exact .of_eq<|h a d
def mD (CX:gZ)(X:Cx)(E:XK):Prop:=∀(pins:List (Addr×Obj)) (σ:St) (H:Hp) (s:Shared) (e:Value) (s':Shared),Inv X pins σ H s->CX X.stack H s E e s'->X.xe e s'
section
variable {X:Cx}{CX:gZ}{k:Nat}{f C:Addr}{fd:FuncData}{ps:List Str}{sp:Sp}{dvs:List V}{ds:List Value}{E:XK}{x m:Str}{p pos apos:Pos}{e o:Expr}{es:List Expr}{ta:TE}{t:TA}
def vN(F:bp X.prog X.w X.K X.mg X.base CX k f fd ps sp)(g:cK k X.A)(i:Binds X.K fd ps ds)(j:ba dvs ds)(l:mD CX X E)
  (I:Inv X a c H s) (r:ba vs us) (h:sp (vs++dvs) H Q E):wpAny (model X.prog X.w) X.A (call (.ref f) us) (EP X a c Q) X.xe s:=by
 have d:ba (vs++dvs) (us++ds):=r.append j
 have n:(us++ds).length=ps.length:=by rw [<-d.length];exact F.len _ _ _ _ h
 refine wpAny_call<|Ou (F.run X.A X.stack s H ⟨us,[]⟩ (us++ds) (vs++dvs) Q E g I.xV (i s us I.dC n) d h) λr q b=>?_
 cases r with
 |error e=>exact l a c H s e q I b
 |ok v=>
  cases v with
  |ret u=>exact I.after b
  |next=>exact False.elim b
  |brk=>exact False.elim b
  |cont=>exact False.elim b
def Gv (F:bp X.prog X.w X.K X.mg X.base CX k f fd ps sp)(g:cK k X.A)(i:Gl X x)(j:X.mg x=some (.ref f))(l:W.keepIn X.K (.ref f)=true)(n:Binds X.K fd ps ds)(u:ba dvs ds)(v:mD CX X E)
  (y:PA X (e::es) t) (b:(x==("__debug__":Str))=false:=by decide) (z:starEach (e::es) X.env=(false,eval e X.env)::starEach es X.env:=by rfl) (c:(backTo pos (starEach es X.env)).any (·.1)=false:=by rfl):
  PE X (.Call (.Name x p) (e::es) [] pos) (ii sp dvs E t):=by
 intro a s B H Q I h
 refine Ni<|vn I i j ?_ b
 refine Pa (h₀:=X.base) I.ok.mod.oV l (aS (y pos a s B H _ I h) λG J ⟨L,M,d,r,q⟩=>⟨d.dC,?_⟩) z c
 exact vN F g n u v d r q
def EO(z:PE X o ta)(c:dk X.K C)(i:cZ X.K C m f)(F:bp X.prog X.w X.K X.mg X.base CX k f fd ps sp)(B:cK k X.A)(G:Binds X.K fd ps ds)(J:ba dvs ds)(L:mD CX X E)(M:PA X (e::es) t)
  (d:starEach (e::es) X.env=(false,eval e X.env)::starEach es X.env:=by rfl) (g:(backTo pos (starEach es X.env)).any (·.1)=false:=by rfl)
  (N:eval (.Call (.Attribute o m apos) (e::es) [] pos) X.env=(do
   let j<-eval o X.env
   standAt apos.atName
   let (f,first)<-holding [j] (getMethod j m pl)
   callWith pos f first (backTo pos (starEach (e::es) X.env)) (backToKw pos (keywordEach [] X.env))):=by rfl):
  PE X (.Call (.Attribute o m apos) (e::es) [] pos) (kj C m sp dvs E ta t):=by
 intro b s n H Q I h
 refine PV (pl:=pl) (aS (z b s n H _ I h) λu O ⟨x,T,v,U,a,dx,fs,Y,ea,l,q⟩=>?_) N
 subst Y
 obtain rfl:u=Value.ref a:=U
 refine za v ea c i l ?_
 refine Pa (first:=[.ref a]) (h₀:=X.base) I.ok.mod.oV i.kp (aS (M pos b O n T _ v q) λus s2 ⟨vs,H2,y,r,q2⟩=>⟨y.dC,?_⟩) d g
 exact vN (us:=.ref a::us) (vs:=.ref a::vs) F B G J L y (.cons rfl r) q2
def CP(j:PE X o ta)(c:dk X.K C)(g:cZ X.K C m f)(F:bp X.prog X.w X.K X.mg X.base CX k f fd ps sp)(n:cK k X.A)(r:Binds X.K fd ps ds)(v:ba dvs ds)(y:mD CX X E)
  (z:eval (.Call (.Attribute o m apos) [] [] pos) X.env=(do
   let i<-eval o X.env
   standAt apos.atName
   let (f,first)<-holding [i] (getMethod i m pl)
   callWith pos f first (backTo pos (starEach [] X.env)) (backToKw pos (keywordEach [] X.env))):=by rfl):
  PE X (.Call (.Attribute o m apos) [] [] pos) (kj C m sp dvs E ta bB):=by
 intro b s B H Q I h
 refine PV (pl:=pl) (aS (j b s B H _ I h) λu M ⟨x,N,d,G,a,O,T,J,L,l,q⟩=>?_) z
 subst J
 obtain rfl:u=Value.ref a:=G
 refine za d L c g l ?_
 exact W.callWith_K0 (first:=[.ref a]) d.dC g.kp<|vN (us:=[.ref a]) (vs:=[.ref a]) F n r v y d (.cons rfl .nil) q
structure Mk (K:PySem.W.Frag)(C f:Addr):Prop where
 makes:PySem.W.makesIn K C=true
 init:PySem.W.findIn K (.ref C) "__init__"=some (some (.ref f))
 fn:PySem.W.isFn K (.ref f)=true
 kp:PySem.W.keepIn K (.ref C)=true
def Lc{Q:VK}(M:Mk X.K C f)(F:bp X.prog X.w X.K X.mg X.base CX k f fd ps sp)(q:cK (k+1) X.A)(y:Binds X.K fd ps ds)(z:ba dvs ds)
  (B:mD CX X E) (I:Inv X a i H s) (r:ba j c)
  (h:∀x d,H x=none->H d=none->d≠x->sp (.ref x::(j++dvs)) (upd (upd H d (.own x)) x (.ins C d [])) (λv G=>v=.aq/\Q (.ref x) G) E):
  wpAny (model X.prog X.w) X.A (call (.ref C) c) (EP X a i Q) X.xe s:=by
 have l:=h (s.heap.objs.size+1) s.heap.objs.size (I.ay.fresh<|Qi _) (I.ay.fresh<|Lo _)<|LY<|MW _
 have g:=Inv.made (C:=C) I
 have n:ba (V.ref (s.heap.objs.size+1)::(j++dvs)) (Value.ref (s.heap.objs.size+1)::(c++ds)):=.cons rfl<|r.append z
 have J:(Value.ref (s.heap.objs.size+1)::c++ds).length=ps.length:=by
  have e:=n.length
  rw [F.len _ _ _ _ l] at e
  exact e.symm
 refine wpAny_call (EF (f:=f) I.dC M.makes M.init (Oi.mp M.fn) (Ou (F.run _ X.stack _ _ ⟨Value.ref (s.heap.objs.size+1)::c,[]⟩ (Value.ref (s.heap.objs.size+1)::(c++ds)) _ _ E (q.make C c [])
  (g.xV.make C c []) (y _ (Value.ref (s.heap.objs.size+1)::c) g.dC J) n l) λr L b=>?_))
 cases r with
 |error e=>exact B a i _ _ e L g b
 |ok N=>
  cases N with
  |ret u=>
   obtain ⟨v,O,T,U,Y,q3⟩:=g.after b
   subst Y
   exact ⟨U,⟨V.ref<|s.heap.objs.size+1,O,T,rfl,q3⟩⟩
  |next=>exact False.elim b
  |brk=>exact False.elim b
  |cont=>exact False.elim b
def Ei (M:Mk X.K C f)(F:bp X.prog X.w X.K X.mg X.base CX k f fd ps sp)(g:cK (k+1) X.A)(i:Gl X x)(j:X.mg x=some (.ref C))(l:Binds X.K fd ps ds)(n:ba dvs ds)(u:mD CX X E)
  (v:PA X (e::es) t) (b:(x==("__debug__":Str))=false:=by decide) (y:starEach (e::es) X.env=(false,eval e X.env)::starEach es X.env:=by rfl) (c:(backTo pos (starEach es X.env)).any (·.1)=false:=by rfl):
  PE X (.Call (.Name x p) (e::es) [] pos) (rX C sp dvs E t):=by
 intro a s z H Q I h
 refine Ni<|vn I i j ?_ b
 refine Pa (h₀:=X.base) I.ok.mod.oV M.kp (aS (v pos a s z H _ I h) λB G ⟨J,L,d,r,q⟩=>⟨d.dC,?_⟩) y c
 exact Lc M F g l n u d r q
end
def PK (X:Cx)(kws:List Keyword)(t:TA):Prop:=
 ∀(pos:Pos) (pins:List (Addr×Obj)) (s:Shared) (σ:St) (H:Hp) (Q:List V->Hp->Prop),Inv X pins σ H s->t σ H Q->wpAny (model X.prog X.w) X.A (evalAll ((backToKw pos (keywordEach kws X.env)).map (·.2))) (AP X pins σ Q) X.xe s
section
variable {X:Cx}{CX:gZ}{k:Nat}{f C:Addr}{fd:FuncData}{ps ks:List Str}{sp:Sp}{E:XK}{x m:Str}{p pos apos kpos:Pos}{e o:Expr}{es:List Expr}{kws:List Keyword}{te ta:TE}{t tk:TA}{nm:Option Str}
def AI:PK X [] bB:=λ_ _ _ _ H Q I h=>wpAny_evalAll_nil ⟨[],H,I,.nil,h⟩
def Bk (d:PE X e te)(g:PK X kws t):PK X (⟨nm,e,kpos⟩::kws) (bn te t):=by
 intro b a s c H Q I h
 show wpAny _ _ (evalAll ((do let v<-eval e X.env;standAt b;pure v)::(backToKw b<|keywordEach kws X.env).map (·.2))) _ _ s
 refine wpAny_evalAll_cons<|Lh<|aS (d a s c H _ I h) λu i ⟨x,j,l,n,q⟩=>Lh<|Pn<|Lz ?_
 exact aS (g b a i c j _ l q) λG J r=>by obtain ⟨w,y,z,A,B⟩:=r;exact ⟨x::w,y,z,.cons n A,B⟩
variable {g:List Value->List Value->List Value}{gV:List V->List V->List V}
end
structure bV (N P:List Str)(sc:Scope):Prop where
 kind:sc.kind=.function
 co:sc.isCoroutine=false
 gen:sc.isGenerator=false
 nd:N.Nodup
 pre:N.take P.length=P
 par:∀x∈P,sc.names.lookup x=some .local\/sc.names.lookup x=some .cell
 Iy:∀y∈sc.names,y.2≠.free
theorem xy{kindOf:Str->Option NameKind}:∀{binds:List (Str×Value)} {m:ZU},(∀v,(x,v)∉binds)->bindL kindOf binds m x=m x
 |[],_,_=>rfl
 |(n,v)::r,m,h=>by
  unfold bindL
  rw [xy λw a=>h w<|Lg _ a]
  split
  .have:x≠n:=by rintro rfl;exact h v Lj
   simp [this]
  .rfl
theorem x3{kindOf:Str->Option NameKind}:∀{binds:List (Str×Value)} {m:ZU},(∀v,(x,v)∉binds)->bindC kindOf binds m x=m x
 |[],_,_=>rfl
 |(n,v)::r,m,h=>by
  unfold bindC
  rw [x3 λw a=>h w<|Lg _ a]
  split
  .rfl
  .have:x≠n:=by rintro rfl;exact h v Lj
   simp [this]
theorem Be{kindOf:Str->Option NameKind}:∀{P:ZY} {a:List Value} {i:Nat} {m:ZU},P.Nodup->P[i]?=some x->a[i]?=some v->kindOf x=some .local->
  bindL kindOf (P.zip a) m x=some v
 |[],_,_,_,_,h,_,_=>by simp at h
 |_::_,[],_,_,_,_,h,_=>by simp at h
 |p::P,w::a,0,m,d,b,c,e=>by
  simp at b c;subst b;subst c
  show bindL kindOf ((p,w)::P.zip a) m p=_
  unfold bindL
  rw [xy λv f=>(Np.mp d).1 (OQ f).1,Lv e]
  simp
 |p::P,w::a,i+1,m,d,b,c,e=>by
  show bindL kindOf ((p,w)::P.zip a) m x=_
  unfold bindL
  exact Be (i:=i) (Np.mp d).2 (by simpa using b) (by simpa using c) e
theorem xz{kindOf:Str->Option NameKind}:∀{P:ZY} {a:List Value} {i:Nat} {m:ZU},P.Nodup->P[i]?=some x->a[i]?=some v->kindOf x≠some .local->
  bindC kindOf (P.zip a) m x=some v
 |[],_,_,_,_,h,_,_=>by simp at h
 |_::_,[],_,_,_,_,h,_=>by simp at h
 |p::P,w::a,0,m,d,b,c,e=>by
  simp at b c;subst b;subst c
  show bindC kindOf ((p,w)::P.zip a) m p=_
  unfold bindC
  rw [x3 λv f=>(Np.mp d).1 (OQ f).1,Lq e]
  simp
 |p::P,w::a,i+1,m,d,b,c,e=>by
  show bindC kindOf ((p,w)::P.zip a) m x=_
  unfold bindC
  exact xz (i:=i) (Np.mp d).2 (by simpa using b) (by simpa using c) e
def start (N:List Str)(vs:List V):St:=vs.map some++List.replicate (N.length-vs.length) none
def mf (CX:gZ)(P:Program)(w:World)(K:PySem.W.Frag)(mg:Str->Option Value)(base:Heap)(N:List Str)(qual:Str)(scope:Scope)(f:Addr)(cd:Value)(A:Around)(outer:List Env)(s:Shared)(H:Hp)(E:XK):Cx where
 prog:=P
 w:=w
 K:=K
 mg:=mg
 base:=base
 A:=A.deeper (envOfC qual scope s.heap.objs.size f cd)
 N:=N
 s₀:=s
 H₀:=H
 env:=envOfC qual scope s.heap.objs.size f cd
 outer:=outer
 stack:=envOfC qual scope s.heap.objs.size f cd::outer
 ex:=[]
 calm:=true
 fn:=λ_=>true
 pn:=[]
 xe:=λe s'=>wpAny (model P w) (A.deeper (envOfC qual scope s.heap.objs.size f cd)) (leaving (envOfC qual scope s.heap.objs.size f cd) e) (λ_ s''=>CX outer H s E e s'') (λe' s''=>CX outer H s E e' s'') s'
def yu{a:Scope}(h:a.names.lookup x=some .cell):∃c,(cellsFrom n a.names []).lookup x=some c:=by
 have q:=PM a.names n [] (.inl h)
 exact Po.mp q
def C1{K:W.Frag}{base:Heap}{A:Around}{t:List V}
  (S:bV N o d) (hd:A.handled=none) (m:lF P w K O base A g s H) (hl:t.length=o.length) (r:ba t Q)
  (x:InCallC s s.heap.objs.size (bindL (envOfC j d s.heap.objs.size f J).kindOf (o.zip Q) λ_=>none) (cellsFrom (s.heap.objs.size+1) d.names []) (bindC (envOfC j d s.heap.objs.size f J).kindOf (o.zip Q) λ_=>none) U):
  Inv (mf T P w K O base N j d f J A g s H E) [] (start N t) H U:=by
 have ac:o.length<=N.length:=by have:=Mq List.length S.pre;rw [L9] at this;omega
 obtain ⟨L,tk,rfl,Y⟩:=x.done
 have B:∀b:Addr,b∉(mf T P w K O base N j d f J A g s H E).ex:=λb z=>absurd (show b∈([]:ZX) from z) Z8
 refine ⟨⟨m.mod,S.kind,rfl,rfl,Lo _,λy z c L l=>?_,λy C=>?_,λy c _ h=>?_,λ_=>hd,Around.frames_deeper m.frames,.inr ⟨rfl,rfl⟩,λb z=>absurd z<|B b,m.bs,m.jV,λb _ _=>B b,λb z=>absurd z<|B b,m.gQ,m.kI⟩,
  rfl,m.bare,Un.kept Y,⟨_,x.toInCall.ns,λi y v L l h3=>?_⟩,λy c h=>⟨_,x.cell y c h⟩,m.ay.fresh<|Lo _,λy c h=>?_,λp G=>absurd (show p∈([]:ZV) from G) Z8,m.ay.kept Y,?_⟩
 .exact name_of_addr x.apart (Nv L)<|Nv l
 .have C:d.names.lookup y=some .cell\/d.names.lookup y=some .free:=C
  rcases C with C|C
  .exact yu C
  .exact absurd rfl<|S.Iy _<|Nv C
 .exact MK<|x.above y c<|Nv h
 .have M:i<t.length:=by
   unfold start at l
   by_cases M:i<t.length
   .exact M
   .rw [LQ (by simpa using M)] at l
    rw [List.getElem?_replicate] at l
    split at l<;>cases l
  have ha:t[i]?=some v:=by
   unfold start at l
   rw [LO (by simpa using M),LA] at l
   cases e:t[i]? with
   |none=>rw [e] at l;cases l
   |some a=>rw [e] at l;cases l;rfl
  obtain ⟨u,hu,rv⟩:=r.get ha
  have G:o[i]?=some y:=by
   rw [<-S.pre,N7 Z4];exact L
  have I:o.Nodup:=by rw [<-S.pre];exact S.nd.sublist<|List.take_sublist _ _
  refine ⟨u,rv,?_⟩
  rcases S.par y (Lp G) with k|k
  .exact .inl ⟨k,Be I G hu k⟩
  .obtain ⟨c,e⟩:=yu (n:=s.heap.objs.size+1) k
   refine .inr ⟨.inl k,c,e,?_⟩
   have q:=x.cell y c e
   rw [xz I G hu (by show d.names.lookup y≠_;rw [k];decide)] at q
   exact q
 .exact m.ay.fresh<|MK<|x.above y c<|Nv h
 .unfold start
  show _=N.length
  rw [LC,Ll,List.length_replicate]
  omega
def HP{K:W.Frag}{base:Heap}{name:Str}{kV:Value}
    {sp:Sp} (lk:K.lookup f=some ⟨oc,od,.func (W.fnOf name d h i a dV kV C pm an g ct),ac⟩) (af:W.codeIn K g d=true) (S:bV N Y a)
  (G:∀j H Q E,sp j H Q E->j.length=Y.length)
  (p:∀(A:Around) (c:List Env) (s:Shared) (H:Hp) (j:List V) (Q:VK) (E:XK),cK k (A.deeper (envOfC d a s.heap.objs.size f g))->sp j H Q E->
   ∃t,gv (mf T P w K U base N d a f g A c s H E) i t/\t {nx:=λ_ m=>Q .aq m,rt:=Q} (start N j) H):
  bp P w K U base T (k+1) f (W.fnOf name d h i a dV kV C pm an g ct) Y sp:=by
 refine ⟨G,λA c s H am us j Q E hr L hb r M=>?_⟩
 have hl:=G _ _ _ _ M
 have KX:K.In s.heap:=L.mod.oV.keeps λb o e=>(L.bs b o e).1
 have aj:s.heap.NoLimit:=L.mod.nolimit.keeps λb o e=>(L.bs b o e).1
 have z:∀y∈Y.zip us,a.names.lookup y.1=some .local\/(a.names.lookup y.1=some .cell/\((cellsFrom (s.heap.objs.size+1) a.names []).lookup y.1).isSome=true):=λq0 hy=>by
  obtain ⟨n,v⟩:=q0
  rcases S.par n (OQ hy).1 with q|q
  .exact .inl q
  .exact .inr ⟨q,PM _ _ _ (.inl q)⟩
 refine codeAny_call_function hr.depth (KX _ _ lk) rfl S.co S.gen rfl (W.codeRec_of KX af)<|hb _ _ _ _ ?_
 refine wpAny_newFunctionEnv_cells S.kind z λao he s1 x=>?_
 subst he
 refine ⟨aj.keeps x.toInCall.keep,codeAny_func ?_⟩
 obtain ⟨t,ht,hq⟩:=p A c s H j Q E (hr.deeper _) M
 have I:Inv (mf T P w K U base N d a f g A c s H E) [] (start N j) H s1:=C1 S hr.hd L hl r x
 refine MN (ht [] s1 (start N j) H _ I hq) (λfl s' B=>?_) λe s' B=>B
 have O:∀{l:St} {m:Hp} {v:V} {u:Value},Inv (mf T P w K U base N d a f g A c s H E) [] l m s'->RelV v u->Q v m->CE c P w H s Q u s':=
  λ{l m v u} J rv q=>⟨v,m,J.os,J.bare,J.base,J.ay,rv,q⟩
 cases fl with
 |ret u=>
  obtain ⟨v,l,m,J,rv,q⟩:=B
  exact O J rv q
 |next=>
  obtain ⟨l,m,J,q⟩:=B
  exact O (v:=V.aq) (u:=Value.none) J rfl q
 |brk=>
  obtain ⟨_,_,_,q⟩:=B
  exact False.elim q
 |cont=>
  obtain ⟨_,_,_,q⟩:=B
  exact False.elim q
end L2
namespace L2
open PySem PySem.Spec PyProof.Rows
section
variable {X:Cx}{x:Str}{p pos:Pos}{e:Expr}{es:List Expr}{t:TA}{id T:String}{r:List V->Hp->VK->Prop}
def cI (r:List V->Hp->VK->Prop)(t:TA):TE:=λσ H Q=>t σ H λvs H1=>r vs H1 Q
def qS (d:iM X (.builtin id) r)(f:Gl X x)(g:X.mg x=none)(i:bootBuiltins x=some (.builtin id))(j:PA X (e::es) t)(k:x≠"__name__":=by decide)(b:(x==("__debug__":Str))=false:=by decide)
  (he:starEach (e::es) X.env=(false,eval e X.env)::starEach es X.env:=by rfl) (hpl:(backTo pos (starEach es X.env)).any (·.1)=false:=by rfl):PE X (.Call (.Name x p) (e::es) [] pos) (cI r t):=by
 intro a s c H Q I h
 refine Ni<|je I f g i ?_ k b
 exact PyProof.Rows.callWith_builtin1 (aS (j pos a s c H _ I h) λl m n=>by obtain ⟨o,q,u,v,w⟩:=n;exact d a m c q o l Q u v w) he hpl
def pq (f:iM X (.type T) r)(g:Gl X x)(i:X.mg x=none)(j:bootBuiltins x=some (.type T))(k:PA X (e::es) t)(l:x≠"__name__":=by decide)(b:(x==("__debug__":Str))=false:=by decide)
  (he:starEach (e::es) X.env=(false,eval e X.env)::starEach es X.env:=by rfl) (c:(backTo pos (starEach es X.env)).any (·.1)=false:=by rfl):PE X (.Call (.Name x p) (e::es) [] pos) (cI r t):=by
 intro a s d H Q I h
 refine Ni<|je I g i j ?_ l b
 exact MA (aS (k pos a s d H _ I h) λm n o=>by obtain ⟨q,u,v,w,y⟩:=o;exact f a n d u q m Q v w y) he c
end
end L2
namespace HT
open PySem PyProof.Rows
section
open PySem.SeqAt
open PySem.AutoSeq1 (wpAny_loadPart')
open PySem.MeetsSeq PySem.MeetsSeq2 PySem.MeetsSeq3
end
section
variable {prog:Program}{w:World}{A:Around}{E:Value->Shared->Prop}{s:Shared}
def Dc{d a:List Value}{Q:ZT}(v:IsTup s.heap t d.toArray)(x:IsTup s.heap b a.toArray)(l:d≠[])
  (y:a=[]->Q (.ref t) s) (z:a≠[]->Q (.ref s.heap.objs.size) {s with heap:=s.heap.push {cls:=.type "tuple",data:=.seq (d++a).toArray}})
  (k:d.length+a.length<=sizeLine):wpAny (model prog w) A (binaryOp .Add (.ref t) (.ref b)) Q E s:=by
 obtain ⟨⟨cls,m,data,o⟩,i,p,n,q⟩:=id v
 obtain ⟨⟨r,f,data2,g⟩,c,h,u,dr⟩:=id x
 simp only at p q h dr
 subst p q h dr
 have e:d.toArray++a.toArray=(d++a).toArray:=by simp
 by_cases j:a=[]
 .exact concat_meets ⟨_,i,rfl⟩ ⟨_,c,rfl⟩ Pw seq_tuple_add Ov Oo (N8 _ _)
   (tuple_addW1 t b d.toArray a.toArray n u m f o g (by simpa using l) (by simp [j])) ⟨i,c,y j⟩
 .refine concat_meets ⟨_,i,rfl⟩ ⟨_,c,rfl⟩ Pw seq_tuple_add Ov Oo (N8 _ _)
   (tuple_addW2 t b d.toArray a.toArray n u m f o g (by simpa using l) (by simpa using j) (by rw [LF,LF];exact k)) ⟨i,c,?_⟩
  rw [e]
  exact z j
def bH (n d:Nat):Option Int->Nat
 |none=>d
 |some v=>if v<0 then (v+(n:Int)).toNat else min v.toNat n
def zc (n d:Nat):bH n d none=d:=rfl
def p8 (n d k:Nat):bH n d (some (k:Int))=min k n:=by
 show (if (k:Int)<0 then ((k:Int)+(n:Int)).toNat else min (k:Int).toNat n)=min k n
 rw [Lq Z4,Nn]
def Ip (n d:Nat)(b:d<=n)(o:Option Int):bH n d o<=n:=by
 cases o with
 |none=>exact b
 |some v=>
  show (if v<0 then (v+(n:Int)).toNat else min v.toNat n)<=n
  by_cases a:v<0
  .rw [Lv a];omega
  .rw [Lq a];exact Nat.min_le_right _ _
def yy (v:Int)(n d:Nat):(if v<0 then max (v+(n:Int)) 0 else min v (n:Int))=((bH n d (some v):Nat):Int):=by
 show (if v<0 then max (v+(n:Int)) 0 else min v (n:Int))=(((if v<0 then (v+(n:Int)).toNat else min v.toNat n):Nat):Int)
 by_cases a:v<0
 .simp only [Lv a];omega
 .simp only [Lq a];omega
def Ev (lo a:Option Int)(n:Nat):Builtin.Slice.sliceAdjust lo a 1 (n:Int)=(((bH n 0 lo:Nat):Int),((bH n n a:Nat):Int)):=by
 have b:¬((1:Int)<0):=by omega
 unfold Builtin.Slice.sliceAdjust
 simp only [b,Px]
 refine Prod.ext ?_ ?_
 .cases lo with
  |none=>rfl
  |some v=>exact yy v n 0
 .cases a with
  |none=>rfl
  |some v=>exact yy v n n
def Hb (i j:Nat):Builtin.Slice.slicePlaces (i:Int) (j:Int) 1=j-i:=by
 unfold Builtin.Slice.slicePlaces
 have a:(1:Int)>0:=by omega
 simp only [a,Oc,Int.ediv_one]
 split<;>omega
def zm{Q:Option Int->Shared->Prop}(p:IsPart v o)(h:Q o s):wpAny (model prog w) A (Builtin.Slice.slicePartIndex v) Q E s:=by
 cases p with
 |none=>exact slicePart_none h
 |int i t=>exact slicePart_int h
def Gs{lo:Option Int}{Q:Int×Int×Nat->Shared->Prop}(g:s.heap.IsSliceOf f d e .none)(i:IsPart d lo)(j:IsPart e a)
  (h:Q (((bH n 0 lo:Nat):Int),1,bH n n a-bH n 0 lo) s):wpAny (model prog w) A (Builtin.Slice.sliceApplied (.ref f) (pure (n:Int))) Q E s:=by
 obtain ⟨os,b,k,c⟩:=id g
 unfold Builtin.Slice.sliceApplied Builtin.Slice.sliceFields
 refine Lh<|Lh<|Ms b c (x:=d) rfl<|Lh<|Ms b c (x:=e) rfl<|Lh<|Ms b c (x:=.none) rfl<|Lz ?_
 refine Lh<|slicePart_none ?_
 show wpAny _ _ (if ((1:Int)==0)=true then _ else _) _ _ s
 rw [Lq Z1]
 refine Lh<|zm i<|Lh<|zm j<|Lh<|Lz ?_
 show wpAny _ _ (match Builtin.Slice.sliceAdjust lo a 1 (n:Int) with|(lo,a)=>pure (lo,(1:Int),Builtin.Slice.slicePlaces lo a 1)) _ _ s
 rw [Ev lo a n]
 show wpAny _ _ (pure (((bH n 0 lo:Nat):Int),(1:Int),Builtin.Slice.slicePlaces ((bH n 0 lo:Nat):Int) ((bH n n a:Nat):Int) 1)) _ _ s
 rw [Hb]
 exact Lz h
def Es (a:Array Value)(i k:Nat):((List.range k).filterMap λ(m:Nat)=>a[((i:Int)+(m:Int)*1).toNat]?).toArray=((a.toList.drop i).take k).toArray:=by
 have e:(λ(m:Nat)=>a[((i:Int)+(m:Int)*1).toNat]?)=λm=>a[i+m]?:=by
  funext m
  have:((i:Int)+(m:Int)*1).toNat=i+m:=by omega
  rw [this]
 rw [e]
 have:=pick_run a i k
 rw [List.filterMap_map] at this
 have b:((λx=>a[x]?)∘λx=>i+x)=λm=>a[i+m]?:=rfl
 rw [b] at this
 rw [this]
def IH{lo:Option Int}{Q:ZT}(d:IsTup s.heap t a)(n:s.heap.IsSliceOf e k l .none)(o:IsPart k lo)(p:IsPart l c)
  (r:¬(bH a.size 0 lo=0/\bH a.size a.size c=a.size))
  (h:Q (.ref s.heap.objs.size) {s with heap:=s.heap.push {cls:=.type "tuple",data:=.seq ((a.toList.drop (bH a.size 0 lo)).take (bH a.size a.size c-bH a.size 0 lo)).toArray}})
  (u:a.size<=sizeLine):wpAny (model prog w) A (getItem (.ref t) (.ref e)) Q E s:=by
 have b:sizeOk (.seq ((a.toList.drop<|bH a.size 0 lo).take<|bH a.size a.size c-bH a.size 0 lo).toArray):=by
  show ((a.toList.drop<|bH a.size 0 lo).take<|bH a.size a.size c-bH a.size 0 lo).toArray.size<=sizeLine
  rw [LF,L9,NZ,N6]
  omega
 have x:bH a.size a.size c<=a.size:=Ip _ _ (Lo _) c
 obtain ⟨os,f,g,v⟩:=id n
 have i:s.TypeIs (.ref e) "slice":=⟨os,f,g⟩
 unfold getItem
 try with_reducible refine MZ ?_
 first|refine Lh (Lz ?_)|skip
 refine Lh<|wpAny_sequenceKey d.typeIs Z1 ?_
 refine Lh (MB (name:=Str.ofString "__getitem__") d.typeIs Nu
  (Nz Nu d.typeIs entry_tuple_getitem ?_ (args_tuple_getitem _ _)))
 show wpAny _ _ (Builtin.Tuple.tupleItemsOf (.ref t)>>=_) _ _ s
 refine Lh<|tupleItemsOf_ d ?_
 refine Lh<|O2 i ?_
 rw [Lv Z1]
 refine Lh<|Gs n o p ?_
 have j:¬((((bH a.size 0 lo:Nat):Int)==0&&(1:Int)==1&&(bH a.size a.size c-bH a.size 0 lo)==a.size)=true):=by
  intro q
  rw [Mn,Mn] at q
  have y:((bH a.size 0 lo:Nat):Int)=0:=eq_of_beq q.1.1
  have z:bH a.size a.size c-bH a.size 0 lo=a.size:=eq_of_beq q.2
  exact r ⟨by omega,by omega⟩
 show wpAny _ _ (if (((bH a.size 0 lo:Nat):Int)==0&&(1:Int)==1&&(bH a.size a.size c-bH a.size 0 lo)==a.size)=true then _ else _) _ _ s
 rw [Lq j,Es]
 first
  |exact Lh (m:=Builtin.Tuple.tupleExact _)<|MS (Lz ⟨_,rfl,Lz h⟩) b
  |exact Lh (m:=Builtin.Tuple.tupleExact _)<|MS (Lh<|Lz<|Lz ⟨_,rfl,Lz h⟩) b
  |exact Lh<|Lh (m:=Builtin.Tuple.tupleExact _)<|MS (Lz<|Lz ⟨_,rfl,Lz h⟩) b
  |exact Lh<|Lh (m:=Builtin.Tuple.tupleExact _)<|MS (Lz ⟨_,rfl,Lz h⟩) b
end
end HT
namespace L2
open PySem PySem.Spec PyProof.Rows
abbrev TO:=St->Hp->(Option Int->Hp->Prop)->Prop
def PO (X:Cx)(e:Option Expr)(t:TO):Prop:=
 ∀(pins:List (Addr×Obj)) (s:Shared) (σ:St) (H:Hp) (Q:Option Int->Hp->Prop),Inv X pins σ H s->t σ H Q->
  wpAny (model X.prog X.w) X.A (evalPart e X.env) (λu s'=>∃o H',Inv X pins σ H' s'/\IsPart u o/\Q o H') X.xe s
def w8:TO:=λ_ H Q=>Q none H
def pK (t:TE):TO:=λσ H Q=>t σ H λx H1=>∃i,x=.int i/\Q (some i) H1
section
variable {X:Cx}{e:Expr}{te:TE}{lo hi:Option Expr}{tl th:TO}{pos p2:Pos}
def on:PO X none w8:=by
 intro a s b H Q I h
 rw [evalPart_none]
 exact Lz ⟨none,H,I,.none,h⟩
def ki (h:PE X e te):PO X (some e) (pK te):=by
 intro a s b H Q I c
 rw [evalPart_some]
 refine aS (h a s b H _ I c) λu l d=>?_
 obtain ⟨x,f,g,j,k⟩:=d
 obtain ⟨i,rfl,q⟩:=k
 obtain ⟨t,rfl⟩:=j
 exact ⟨some i,f,g,.int i t,q⟩
def vW (X:Cx)(r:V->Option Int->Option Int->Hp->VK->Prop):Prop:=
 ∀(pins:List (Addr×Obj)) (s:Shared) (σ:St) (H:Hp) (x:V) (v vl vu:Value) (lo hi:Option Int) (sl:Addr) (Q:VK),Inv X pins σ H s->RelV x v->s.heap.IsSliceOf sl vl vu .none->IsPart vl lo->IsPart vu hi->r x lo hi H Q->
  ∃T id,typeLookup (.type T) "__getitem__"=pure (some (.builtin id))/\s.TypeIs v T/\wpAny (model X.prog X.w) X.A (getItem v (.ref sl)) (EP X pins σ Q) X.xe s
def rH (r:V->Option Int->Option Int->Hp->VK->Prop)(te:TE)(tl th:TO):TE:=λσ H Q=>te σ H λx H1=>tl σ H1 λl H2=>th σ H2 λu H3=>r x l u H3 Q
def mr(j:vW X r)(k:PE X e te)(m:PO X lo tl)(n:PO X hi th):PE X (.Subscript e (.Slice lo hi none p2) pos) (rH r te tl th):=by
 intro a s d H Q I h
 refine Subscript_<|aS (k a s d H _ I h) λv o p=>?_
 obtain ⟨x,t,y,z,B⟩:=p
 refine wpAny_Slice<|aS (m a o d t _ y B) λf C ⟨l,E,G,J,L⟩=>aS (n a C d E _ G L) λg c M=>?_
 obtain ⟨u,i,N,O,U⟩:=M
 rw [evalPart_none]
 refine Lz ?_
 have Y:Inv X a d i {c with heap:=c.heap.push {cls:=.type "slice",data:=.fields #[f,g,.none]}}:=N.kept (t':=c.toks) λb ob q=>Ln _ q
 obtain ⟨T,id,hT,ht,hg⟩:=j a {c with heap:=c.heap.push {cls:=.type "slice",data:=.fields #[f,g,.none]}} d i x v f g l u c.heap.objs.size Q Y z (Heap.IsSliceOf.new ..) J O U
 show wpAny (model X.prog X.w) X.A (subscriptTail e (.Slice lo hi none p2) v (.ref c.heap.objs.size)) (EP X a d Q) X.xe {c with heap:=c.heap.push {cls:=.type "slice",data:=.fields #[f,g,.none]}}
 exact tail_any (ops:=[.ref c.heap.objs.size,v]) ht hT hg (by with_unfolding_all rfl)
def gG (xs:List V)(lo hi:Option Int):List V:=(xs.drop (HT.bH xs.length 0 lo)).take (HT.bH xs.length xs.length hi-HT.bH xs.length 0 lo)
def yJ (a:List V)(lo hi:Option Int):(gG a lo hi).length<=a.length:=by
 unfold gG
 rw [L9,NZ]
 omega
def Aw (K:PySem.W.Frag):V->Option Int->Option Int->Hp->VK->Prop:=λx lo hi H Q=>∃a xs,x=.ref a/\br K H a xs/\
 ¬(HT.bH xs.length 0 lo=0/\HT.bH xs.length xs.length hi=xs.length)/\∀p,H p=none->Q (.ref p) (upd H p (.tup (gG xs lo hi)))
def qT:vW X (Aw X.K):=by
 intro pins s σ H x v vl vu lo hi sl Q I rx hs pl pu h
 obtain ⟨a,xs,rfl,hx,hw,q⟩:=h
 cases rx
 obtain ⟨its,r,ht,hz⟩:=I.tuple hx
 have hlen:its.toArray.size=xs.length:=by rw [LF];exact r.length.symm
 refine ⟨"tuple",_,Nu.lookup,ht.typeIs,?_⟩
 refine HT.IH ht hs pl pu (by rw [hlen];exact hw) ?_ (by rw [hlen];exact hz)
 rw [hlen]
 refine ⟨.ref s.heap.objs.size,_,I.laid (t':=s.toks) (o:=.tup (gG xs lo hi)) (λb ob q=>Ln _ q) (Lo _) ?_,rfl,q _ (I.ay.fresh (Lo _))⟩
 exact ⟨LN (yJ xs lo hi) hz,_,(r.drop (HT.bH xs.length 0 lo)).take (HT.bH xs.length xs.length hi-HT.bH xs.length 0 lo),IsTup.new _ _⟩
def FD (K:PySem.W.Frag):R2:=λx y H Q=>∃a b xs ys,x=.ref a/\y=.ref b/\br K H a xs/\br K H b ys/\xs≠[]/\xs.length+ys.length<=sizeLine/\
 (ys=[]->Q (.ref a) H)/\(ys≠[]->∀p,H p=none->Q (.ref p) (upd H p (.tup (xs++ys))))
def ba.rZ(r:ba a b):b=[]↔a=[]:=by
 cases r with
 |nil=>simp
 |cons _ _=>simp
def JN:cH X (binaryOp .Add) (FD X.K):=by
 intro pins s σ H x y v u Q I rx ry h
 obtain ⟨a,b,xs,ys,rfl,rfl,ha,hb,hx,hz,q1,q2⟩:=h
 cases rx
 cases ry
 obtain ⟨its,r1,p1,_⟩:=I.tuple ha
 obtain ⟨its2,r2,p2,_⟩:=I.tuple hb
 refine HT.Dc p1 p2 (λz=>hx (r1.rZ.mp z)) (λz=>⟨.ref a,H,I,rfl,q1 (r2.rZ.mp z)⟩) (λz=>?_) (by rw [<-r1.length,<-r2.length];exact hz)
 refine ⟨.ref s.heap.objs.size,_,I.laid (t':=s.toks) (o:=.tup (xs++ys)) (λb ob q=>Ln _ q) (Lo _) ?_,rfl,q2 (λw=>z (r2.rZ.mpr w)) _ (I.ay.fresh (Lo _))⟩
 exact ⟨by rw [LC];exact hz,_,r1.append r2,IsTup.new _ _⟩
end
end L2
namespace L2
open PySem PySem.Spec PyProof.Rows
def lG (n:Nat)(i:Int):Option Nat:=if 0<=i then (if i<n then some i.toNat else none) else if-(n:Int)<=i then some (i+n).toNat else none
def dM {α:Type}(xs:List α)(i:Int):Option α:=(lG xs.length i).bind λj=>xs[j]?
def G9(h:lG n i=some j):seqIndex? i n=some j/\j<n/\-(n:Int)<=i/\i<n:=by
 unfold lG at h
 by_cases b:0<=i
 .rw [Lv b] at h
  by_cases a:i<n
  .rw [Lv a] at h
   have e:i.toNat=j:=LB h
   exact ⟨by rw [seqIndex_of b a,e],by omega,by omega,a⟩
  .rw [Lq a] at h;cases h
 .rw [Lq b] at h
  by_cases a:-(n:Int)<=i
  .rw [Lv a] at h
   have e:(i+n).toNat=j:=LB h
   exact ⟨by rw [seqIndex_neg Z4 a,e],by omega,a,by omega⟩
  .rw [Lq a] at h;cases h
def mq(h:dM a i=some v):∃j,seqIndex? i a.length=some j/\a[j]?=some v/\j<a.length/\-(a.length:Int)<=i/\i<a.length:=by
 unfold dM at h
 cases e:lG a.length i with
 |none=>rw [e] at h;cases h
 |some j=>
  rw [e] at h
  obtain ⟨c,d,f,g⟩:=G9 e
  exact ⟨j,c,h,d,f,g⟩
def tD{j:Nat}(h:a[j]?=some v):dM a (j:Int)=some v:=by
 have c:j<a.length:=(Li.mp h).1
 have e:lG a.length (j:Int)=some j:=by
  unfold lG
  rw [Lv Z4,Lv Z4];simp
 unfold dM;rw [e];exact h
def rW (b:Expr):Prop:=∀o i,subscripted b false o i=operate [o,i] (getItem o i)
def jD (X:Cx)(r:R2):Prop:=
 ∀(value slice:Expr) (pins:List (Addr×Obj)) (s:Shared) (σ:St) (H:Hp) (x y:V) (v u:Value) (Q:VK),Inv X pins σ H s->RelV x v->RelV y u->r x y H Q->
  subscripted slice false v u=operate [v,u] (getItem v u)->wpAny (model X.prog X.w) X.A (subscriptTail value slice v u) (EP X pins σ Q) X.xe s
def sS (X:Cx)(id:String)(r:V->List V->Hp->VK->Prop):Prop:=
 ∀(pins:List (Addr×Obj)) (s:Shared) (σ:St) (H:Hp) (x:V) (xs:List V) (v:Value) (us:List Value) (Q:VK),Inv X pins σ H s->RelV x v->ba xs us->r x xs H Q->
  wpAny (model X.prog X.w) X.A (call (.builtin id) (v::us)) (EP X pins σ Q) X.xe s
section
variable {X:Cx}{a b:Expr}{ta tb:TE}{pos:Pos}
def jD.or(h:jD X r)(l:jD X f):jD X (λx y H Q=>r x y H Q\/f x y H Q):=by
 intro c d e s g H x y v u Q I i j q k
 rcases q with q|q
 .exact h c d e s g H x y v u Q I i j q k
 .exact l c d e s g H x y v u Q I i j q k
def Hx(d:jD X r)(e:PE X a ta)(f:PE X b tb)(g:rW b):PE X (.Subscript a b pos) (bZ r ta tb):=by
 intro c s i H Q I h
 exact Subscript_<|wE e f I h λv u j x y k l m n q=>d a b c j i k x y v u Q l m n q<|g _ _
def yf (K:PySem.W.Frag):R2:=λx y H Q=>∃p xs i v,x=.ref p/\y=.int i/\aQ K H p xs/\dM xs i=some v/\Q v H
def Ab (K:PySem.W.Frag):R2:=λx y H Q=>∃p xs i v,x=.ref p/\y=.int i/\br K H p xs/\dM xs i=some v/\Q v H
def yN:R2:=λx y H Q=>∃z i c,x=.str z/\y=.int i/\z.length<=sizeLine/\dM z.cps.toList i=some c/\Q (.str ⟨#[c]⟩) H
def Ga:jD X (yf X.K):=by
 intro f g c s o H x y v u Q I E G h A
 obtain ⟨p,Y,i,z,rfl,rfl,J,L,q⟩:=h
 cases E
 obtain ⟨t,rfl⟩:=G
 obtain ⟨k,r,l,hz⟩:=I.list J
 obtain ⟨j,e,M,h3,N,O⟩:=mq L
 obtain ⟨w,B,m⟩:=r.get M
 have T:=r.length
 have hn:=oU
 have d:EP X c o Q w s:=⟨z,H,I,m,q⟩
 by_cases C:0<=i
 .have n:i.toNat=j:=by
   rw [seqIndex_of C O] at e
   exact LB e
  exact item_listR l.isList C Z4 (by rw [n];simpa using B) d A
 .have n:(i+(k.toArray.size:Int)).toNat=j:=by
   rw [seqIndex_neg Z4 N] at e
   rw [LF,<-T]
   exact LB e
  exact subscriptTail_builtinR (x:=w) l.isList.typeIs slot_list_getitem.lookup
   (wpAny_getItem_list_neg (Q:=λr U=>r=w/\EP X c o Q r U) l.isList Z4 (by rw [LF]<;>omega) Z4 (by rw [n];simpa using B) ⟨rfl,d⟩) A
def CM:jD X (Ab X.K):=by
 intro d e c s k H x y v u Q I m n h o
 obtain ⟨p,N,i,z,rfl,rfl,A,B,q⟩:=h
 cases m
 obtain ⟨t,rfl⟩:=n
 obtain ⟨C,r,l,O⟩:=I.tuple A
 obtain ⟨j,E,G,T,U,Y⟩:=mq B
 obtain ⟨w,J,f⟩:=r.get G
 have L:=r.length
 have hn:=oU
 have g:EP X c k Q w s:=⟨z,H,I,f,q⟩
 exact subscriptTail_builtinR (x:=w) l.typeIs slot_tuple_getitem.lookup
  (getItem_tuple (j:=j) (Q:=λr M=>r=w/\EP X c k Q r M) l Z4 Z4 (by rw [LF,<-L];exact E) (by simpa using J) ⟨rfl,g⟩) o
def Kg:jD X yN:=by
 intro d e f s C H x y v u Q I k l h m
 obtain ⟨z,i,c,rfl,rfl,E,n,q⟩:=h
 obtain ⟨t,rfl⟩:=k
 obtain ⟨G,rfl⟩:=l
 obtain ⟨j,g,o,J,p,r⟩:=mq n
 have w:z.cps.toList.length=z.length:=by simp [Str.length]
 rw [w] at g p r
 have L:=oU
 exact tail_any (typeIs_str s z t) slot_str_getitem.lookup (getItem_str (c:=c) (by
  have A:decide (i< -(2^63:Int))=false:=LR Z4
  have B:decide (i≥2^63)=false:=LR Z4
  rw [A,B,Pp]) (by rw [g];simpa using o) ⟨.str ⟨#[c]⟩,H,I.tok _,⟨_,rfl⟩,q⟩) m
def gS (K:PySem.W.Frag):R2:=λx y H Q=>yf K x y H Q\/Ab K x y H Q\/yN x y H Q
def F5:jD X (gS X.K):=Ga.or<|CM.or Kg
def HI (lo hi:Option Int)(n:Nat):(sliceBounds lo hi none n).1=((HT.bH n 0 lo:Nat):Int)/\(sliceBounds lo hi none n).2.1=((HT.bH n n hi:Nat):Int)/\(sliceBounds lo hi none n).2.2=1:=by
 refine ⟨?_,?_,rfl⟩
 .cases lo with
  |none=>simp [sliceBounds,HT.bH]
  |some i=>
   simp only [sliceBounds,HT.bH,Py,show (1:Int)>0 by decide,Oc]
   by_cases h:i<0
   .simp only [h,Oc]<;>omega
   .simp only [h,Px]<;>omega
 .cases hi with
  |none=>simp [sliceBounds,HT.bH]
  |some i=>
   simp only [sliceBounds,HT.bH,Py,show (1:Int)>0 by decide,Oc]
   by_cases h:i<0
   .simp only [h,Oc]<;>omega
   .simp only [h,Px]<;>omega
def EU (its:List Value)(lo hi:Option Int):slicePick its.toArray lo hi none=((its.drop (HT.bH its.length 0 lo)).take (HT.bH its.length its.length hi-HT.bH its.length 0 lo)).toArray:=by
 obtain ⟨h1,h2,h3⟩:=HI lo hi its.toArray.size
 unfold slicePick
 rw [h1,h2,h3]
 simp only [sliceRange_one,pick_run,LF]<;>rfl
def vL (K:PySem.W.Frag):V->Option Int->Option Int->Hp->VK->Prop:=λx lo hi H Q=>∃a xs,x=.ref a/\aQ K H a xs/\∀p,H p=none->Q (.ref p) (upd H p (.lst (gG xs lo hi)))
def uD:vW X (vL X.K):=by
 intro pins s σ H x v vl vu lo hi sl Q I rx hs pl pu h
 obtain ⟨a,xs,rfl,hx,q⟩:=h
 cases rx
 obtain ⟨its,r,ht,hz⟩:=I.list hx
 have hlen:=r.length
 refine ⟨"list",_,slot_list_getitem.lookup,ht.isList.typeIs,?_⟩
 refine wpAny_getItem_list_slice ht.isList hs pl pu .none Z8 ?_ (by rw [LF]<;>omega)
 rw [EU,<-hlen]
 refine ⟨.ref s.heap.objs.size,_,I.laid (t':=s.toks) (o:=.lst (gG xs lo hi)) (λb ob q=>Ln _ q) (Lo _) ?_,rfl,q _ (I.ay.fresh (Lo _))⟩
 exact ⟨LN (yJ xs lo hi) hz,_,0,(r.drop (HT.bH xs.length 0 lo)).take (HT.bH xs.length xs.length hi-HT.bH xs.length 0 lo),LJ _ rfl⟩
def Dm:iM X (.builtin "len") (λj H Q=>∃p d,j=[.ref p]/\(aQ X.K H p d\/br X.K H p d)/\Q (.int d.length) H):=by
 intro k s n H j o Q I r h
 obtain ⟨p,d,rfl,e,q⟩:=h
 obtain ⟨u,rfl,l⟩:=Pu r
 cases l
 have t:=oU
 rcases e with e|e
 .obtain ⟨f,g,i,m⟩:=I.list e
  have c:=g.length
  exact Calls.call_len_list i.isList (by simp only [LF]<;>omega) ⟨.int d.length,H,I.tok _,⟨s.toks+1,by rw [LF,c]⟩,q⟩
 .obtain ⟨f,g,i,m⟩:=I.tuple e
  have c:=g.length
  exact len_tuple i (by simp only [LF]<;>omega) ⟨.int d.length,H,I.tok _,⟨s.toks+1,by rw [LF,c]⟩,q⟩
def Kt:iM X (.type "list") (λC H Q=>∃p f,C=[.ref p]/\(aQ X.K H p f\/br X.K H p f)/\∀l,H l=none->Q (.ref l) (upd H l (.lst f))):=by
 intro j s G H C L Q I r h
 obtain ⟨p,f,rfl,k,q⟩:=h
 obtain ⟨u,rfl,J⟩:=Pu r
 cases J
 have m:∀(c:List Value),ba f c->f.length<=sizeLine->∀(d:Heap) (g:Nat),(∀b E,s.heap.get? b=some E->d.get? b=some E)->
   d.get? s.heap.objs.size=some {cls:=.type "list",dict:=none,data:=.seq c.toArray g,slots:= #[]}->EP X j G Q (.ref s.heap.objs.size) {s with heap:=d}:=λc i t d g v e=>
  ⟨.ref s.heap.objs.size,_,I.laid (t':=s.toks) v (Lo _) (show bS X.prog X.w _ d _ (.lst f) from ⟨t,c,g,i,e⟩),rfl,q _<|I.ay.fresh<|Lo _⟩
 rcases k with k|k
 .obtain ⟨c,i,y,t⟩:=I.list k
  have x:=i.length
  obtain ⟨o,z,A,n,B⟩:=y.isList
  exact call_list_seq p (.inl rfl) z A B (λd g v e=>m c i t d g v e) (by simp only [LF]<;>omega)
 .obtain ⟨c,i,y,t⟩:=I.tuple k
  have x:=i.length
  obtain ⟨o,z,A,n,B⟩:=y
  exact call_list_seq p (.inr rfl) z A B (λd g v e=>m c i t d g v e) (by simp only [LF]<;>omega)
def C8:iM X (.type "tuple") (λm H Q=>∃p f,m=[.ref p]/\((aQ X.K H p f/\∀l,H l=none->Q (.ref l) (upd H l (.tup f)))\/(br X.K H p f/\Q (.ref p) H))):=by
 intro c s n H m B Q I r h
 obtain ⟨p,f,rfl,h⟩:=h
 obtain ⟨u,rfl,y⟩:=Pu r
 cases y
 rcases h with ⟨i,q⟩|⟨i,q⟩
 .obtain ⟨d,j,k,t⟩:=I.list i
  have v:=j.length
  refine call_tuple_list k.isList (λg z=>?_) (by simp only [LF]<;>omega)
  have x:Inv X c n H {s with heap:=g}:=I.kept (t':=s.toks) z
  have A:Inv X c n (upd H g.objs.size (.tup f)) {s with heap:=g.push {cls:=.type "tuple",data:=.seq d.toArray}}:=
   x.laid (t':=s.toks) (λb o e=>Ln _ e) (Lo _) (show bS X.prog X.w _ _ _ (.tup f) from ⟨t,d,j,IsTup.new _ _⟩)
  exact ⟨.ref g.objs.size,_,A,rfl,q _<|x.ay.fresh<|Lo _⟩
 .obtain ⟨d,j,k,t⟩:=I.tuple i
  exact call_tuple_same k ⟨.ref p,H,I,rfl,q⟩
def gM (K:PySem.W.Frag)(T:String)(x:V)(H:Hp):Prop:=match x with
 |.str _=>T="str"
 |.int _=>T="int"
 |.ref p=>(T="list"/\∃xs,aQ K H p xs)\/(T="tuple"/\∃o,K.lookup p=some o/\o.cls=.type "tuple"/\o.dict=none)\/
   (T="dict"/\((∃kvs,H p=some (.dK kvs))\/∃kvs,H p=some (.dT kvs)))\/(T="set"/\∃S n,H p=some (.set S n))
 |_=>False
def AZ(I:Inv X g u H s)(r:RelV x v)(h:gM X.K T x H):
  s.TypeIs v T/\∀a,v=.ref a->∃m,s.heap.get? a=some m/\m.dict=none:=by
 cases x with
 |str z=>
  obtain ⟨t,rfl⟩:=r
  cases (show T="str" from h)
  exact ⟨typeIs_str s z t,λ_ e=>nomatch e⟩
 |int i=>
  obtain ⟨t,rfl⟩:=r
  cases (show T="int" from h)
  exact ⟨typeIs_int s i t,λ_ e=>nomatch e⟩
 |ref p=>
  cases r
  rcases h with ⟨rfl,B,w⟩|⟨rfl,o,d,y,j⟩|⟨rfl,d⟩|⟨rfl,S,n,d⟩
  .obtain ⟨A,_,q,_⟩:=I.list w
   refine ⟨q.isList.typeIs,λa e=>?_⟩
   cases e
   obtain ⟨o,n,e,c,j,_⟩:=q
   exact ⟨o,e,j⟩
  .refine ⟨⟨o,I.dC p o d,y⟩,λa e=>?_⟩
   cases e
   exact ⟨o,I.dC _ o d,j⟩
  .have z:∃o,s.heap.get? p=some o/\o.ExactDict:=by
    rcases d with ⟨k,d⟩|⟨k,d⟩
    .obtain ⟨_,_,_,_,o,_,_,e,f,_⟩:=I.ay p _ d
     exact ⟨o,e,f⟩
    .obtain ⟨_,_,_,_,o,_,_,e,f,_⟩:=I.ay p _ d
     exact ⟨o,e,f⟩
   obtain ⟨o,e,f⟩:=z
   refine ⟨⟨o,e,f.1⟩,λa l=>?_⟩
   cases l
   exact ⟨o,e,f.2.1⟩
  .obtain ⟨o,_,_,_,e,f,_⟩:=I.ay p _ d
   refine ⟨⟨o,e,f.1⟩,λa l=>?_⟩
   cases l
   exact ⟨o,e,f.2.1⟩
 |_=>exact False.elim h
def wx (K:PySem.W.Frag)(T:String)(r:V->List V->Hp->VK->Prop)(to:TE):TE:=λσ H Q=>to σ H λx H1=>gM K T x H1/\r x [] H1 Q
def ma (K:PySem.W.Frag)(T:String)(r:V->List V->Hp->VK->Prop)(to:TE)(t:TA):TE:=λσ H Q=>to σ H λx H1=>gM K T x H1/\t σ H1 λxs H2=>r x xs H2 Q
variable {o e:Expr}{es:List Expr}{to:TE}{t:TA}{name:Str}{apos cpos:Pos}{T id:String}{r:V->List V->Hp->VK->Prop}
def z7 (m:PlainAttrs T)(g:Slot T name id)(i:typeOf (.builtin id)=pure (.type "method_descriptor"))(n:sS X id r)(p:PE X o to)
  (d:attributeBase o name X.env (eval o X.env)=eval o X.env:=by rfl) (f:(apos.endLine==cpos.line)=true:=by rfl):PE X (.Call (.Attribute o name apos) [] [] cpos) (wx X.K T r to):=by
 intro c s j H Q I h
 refine wpAny_Call_method0_late d f<|aS (p c s j H _ I h) λv q u=>?_
 obtain ⟨x,w,k,l,y,z⟩:=u
 obtain ⟨A,B⟩:=AZ k l y
 exact ⟨T,id,m,g,i,A,B,Nd rfl<|PySem.evalArgs_none<|n c q j w x [] v [] Q k l .nil z⟩
def pI (q:PlainAttrs T)(i:Slot T name id)(k:typeOf (.builtin id)=pure (.type "method_descriptor"))(u:sS X id r)(w:PE X o to)(y:PA X (e::es) t)
  (f:attributeBase o name X.env (eval o X.env)=eval o X.env:=by rfl)
  (j:((backTo cpos (starEach (e::es) X.env)).all (λx=> !x.1)&&(backToKw cpos (keywordEach [] X.env)).all (λx=>x.1.isSome)
   &&decide ((e::es).length+([]:List Keyword).length+(if ([]:List Keyword).isEmpty then 0 else 1)<30))=true:=by rfl)
  (g:(apos.endLine==cpos.line)=true:=by rfl) (z:starEach (e::es) X.env=(false,eval e X.env)::starEach es X.env:=by rfl) (d:(backTo cpos (starEach es X.env)).any (·.1)=false:=by rfl):
  PE X (.Call (.Attribute o name apos) (e::es) [] cpos) (ma X.K T r to t):=by
 intro c s l H Q I h
 refine wpAny_Call_method_late f j g rfl<|aS (w c s l H _ I h) λv A B=>?_
 obtain ⟨x,C,m,n,E,G⟩:=B
 obtain ⟨J,L⟩:=AZ m n E
 refine ⟨T,id,q,i,k,J,L,?_⟩
 have p:=y cpos c A l C _ m G
 rw [z] at p⊢
 refine Nd (by show (false||(backTo cpos<|starEach es X.env).any (·.1))=false;rw [d]<;>rfl)<|ON ?_
 exact aS p λM N O=>by obtain ⟨U,Y,I2,r2,q2⟩:=O;exact u c N l Y x U v M Q I2 n r2 q2
end
end L2
namespace L2
open PySem PySem.Spec PyProof.Rows
def w6 (X:Cx)(id:String)(r:V->List V->Hp->VK->Prop):Prop:=
 ∀(pins:List (Addr×Obj)) (s:Shared) (σ:St) (H:Hp) (x:V) (xs:List V) (v:Value) (us:List Value) (Q:VK),Inv X pins σ H s->RelV x v->ba xs us->r x xs H Q->
  wpAny (model X.prog X.w) X.A (call (.builtin id) (v::us)) (EP X pins σ Q) X.xe s
def ba.one:∀{x:V} {a:List Value},ba [x] a->∃u,a=[u]/\RelV x u
 |_,_,.cons r .nil=>⟨_,rfl,r⟩
def ba.two:∀{x y:V} {a:List Value},ba [x,y] a->∃u v,a=[u,v]/\RelV x u/\RelV y v
 |_,_,_,.cons r (.cons q .nil)=>⟨_,_,rfl,r,q⟩
def ba.zero:∀{a:List Value},ba [] a->a=[]
 |_,.nil=>rfl
theorem ba.dropLast(h:ba a b):ba a.dropLast b.dropLast:=by
 induction h with
 |nil=>exact .nil
 |cons r t c=>
  cases t with
  |nil=>exact .nil
  |cons q d=>exact .cons r c
def Fo(l:List c):l.eraseIdx (l.length-1)=l.dropLast:=by
 induction l with
 |nil=>rfl
 |cons a r d=>
  cases r with
  |nil=>rfl
  |cons b r=>
   have e:(a::b::r).length-1=((b::r).length-1)+1:=by
    have f:(a::b::r).length=r.length+2:=rfl
    have g:(b::r).length=r.length+1:=rfl
    omega
   rw [e,List.eraseIdx_cons_succ,d]
   all_goals rfl
section
variable {X:Cx}{pins:List (Addr×Obj)}{σ:St}{H:Hp}{s:Shared}{l b:Addr}{xs ys zs:List V}
def Inv.wF{a its':List Value}{f:Array Value->Array Value}(I:Inv X pins σ H s)(d:H l=some (.lst xs))
  (e:s.heap.get? l=some {cls:=.type "list",data:=.seq a.toArray n}) (g:f a.toArray=its'.toArray) (h:ba ys its') (i:ys.length<=sizeLine):
  Inv X pins σ (upd H l (.lst ys)) {s with heap:=s.heap.update l (Obj.mapSeq f),toks:=c}:=by
 have q:=PySem.IsL.update e f
 rw [g] at q
 refine I.write (x:=l) (e:=l) (by rw [d];exact trivial) (.inl rfl) (λm u j k=>(MT s.heap (Obj.mapSeq f)<|Ml j).trans k) ⟨_,q⟩ ?_
 exact ⟨i,its',_,h,q⟩
def Inv.FE(I:Inv X pins σ H s)(c:ba ys a)(d:ys.length<=sizeLine):
  Inv X pins σ (upd H s.heap.objs.size (.lst ys)) {s with heap:=s.heap.push {cls:=.type "list",data:=.seq a.toArray},toks:=t'}:=
 I.laid (λ_ _ q=>Ln _ q) (Lo _) ⟨d,a,0,c,LJ _ rfl⟩
theorem Inv.fresh (I:Inv X pins σ H s):H s.heap.objs.size=none:=I.ay.fresh<|Lo _
def Inv.oB (I:Inv X pins σ H s)(c:H l=some (.lst xs)):xs.length<=sizeLine/\∃(a:List Value) (n:Nat),ba xs a/\xs.length=a.length/\s.heap.get? l=some {cls:=.type "list",data:=.seq a.toArray n}:=by
 obtain ⟨z,a,n,r,e⟩:=I.ay l _ c
 exact ⟨z,a,n,r,r.length,e⟩
def u0(h:n<=sizeLine):Builtin.List.listTooLong n=false:=by
 unfold Builtin.List.listTooLong
 exact LR Z4
end
section
variable {X:Cx}
def n0:V->List V->Hp->VK->Prop:=λx vs H Q=>∃l xs y,x=.ref l/\vs=[y]/\H l=some (.lst xs)/\xs.length<sizeLine/\Q .aq (upd H l (.lst (xs++[y])))
def zy:w6 X "list.append" n0:=by
 intro b s i H x j v k Q I d f h
 obtain ⟨l,m,y,rfl,rfl,c,o,q⟩:=h
 cases d
 obtain ⟨u,rfl,g⟩:=f.one
 obtain ⟨z,a,n,r,p,e⟩:=I.oB c
 refine Qc F.slot_list_append ⟨_,e,rfl⟩ F.entry_list_append (F.args_list_append_2 _ _) (PySem.list_append l a.toArray n u (by rw [LF];omega)) ⟨e,?_⟩
 refine ⟨.aq,_,I.wF (its':=a++[u]) c e Z8 (r.append (.cons g .nil)) ?_,rfl,q⟩
 rw [LC,My]
 omega
def Cc:V->List V->Hp->VK->Prop:=λx vs H Q=>∃l b xs zs,x=.ref l/\vs=[.ref b]/\H l=some (.lst xs)/\H b=some (.lst zs)/\xs.length+zs.length<=sizeLine/\Q .aq (upd H l (.lst (xs++zs)))
def sJ:w6 X "list.extend" Cc:=by
 intro g s A H x B v C Q I j k h
 obtain ⟨l,b,E,G,rfl,rfl,i,m,J,q⟩:=h
 cases j
 obtain ⟨u,rfl,o⟩:=k.one
 cases o
 obtain ⟨z,c,n,r,L,e⟩:=I.oB i
 obtain ⟨M,a,p,t,w,y⟩:=I.oB m
 have f:c.toArray.size+a.toArray.size<=sizeLine:=by rw [LF,LF];omega
 have d:¬(!c.toArray.isEmpty&&Builtin.List.listTooLong (c.toArray.size+a.toArray.size))=true:=by
  rw [u0 f,PZ]
  exact Ls
 refine Qc Na ⟨_,e,rfl⟩ F.entry_list_extend (F.args_list_extend_2 _ _)
  (AutoSeq1.list_extend_list_list_0 l c.toArray n b a.toArray p d (by rw [LF];omega) Z4) ⟨e,y,?_⟩
 refine ⟨.aq,_,I.wF (its':=c++a) i e Z8 (r.append t) ?_,rfl,q⟩
 rw [LC]
 omega
def CH:V->List V->Hp->VK->Prop:=λx vs H Q=>∃l xs y,x=.ref l/\vs=[]/\H l=some (.lst xs)/\xs[xs.length-1]?=some y/\Q y (upd H l (.lst xs.dropLast))
def Gc:w6 X "list.pop" CH:=by
 intro d s p H x t v w Q I g i h
 obtain ⟨l,A,y,rfl,rfl,f,j,q⟩:=h
 cases g
 have b:=i.zero
 subst b
 obtain ⟨z,a,n,r,k,e⟩:=I.oB f
 obtain ⟨u,m,o⟩:=r.get j
 have c:a.toArray[a.toArray.size-1]?=some u:=by
  show a.toArray[a.length-1]?=some u
  rw [<-PX,<-k]
  exact m
 refine Qc F.slot_list_pop ⟨_,e,rfl⟩ F.entry_list_pop (F.args_list_pop_1 _) (MeetsSeq.list_pop_last l a.toArray n u c (by rw [LF];omega)) ⟨e,?_⟩
 refine ⟨y,_,I.wF (its':=a.dropLast) f e ?_ r.dropLast ?_,o,q⟩
 .show a.toArray.eraseIdxIfInBounds (a.toArray.size-1)=a.dropLast.toArray
  rw [LF,List.eraseIdxIfInBounds_toArray,Fo]
 .rw [List.length_dropLast]
  omega
def BC:R2:=λx y H Q=>∃l b xs zs,x=.ref l/\y=.ref b/\H l=some (.lst xs)/\H b=some (.lst zs)/\xs.length+zs.length<=sizeLine/\∀p,H p=none->Q (.ref p) (upd H p (.lst (xs++zs)))
def qc:cH X (binaryOp .Add) BC:=by
 intro d s t H x y v u Q I f g h
 obtain ⟨l,b,w,A,rfl,rfl,i,j,B,q⟩:=h
 cases f
 cases g
 obtain ⟨z,c,n,r,C,e⟩:=I.oB i
 obtain ⟨E,a,G,k,m,o⟩:=I.oB j
 refine PySem.P.add_list e o ?_ (by rw [LF,LF];omega)
 have p:c.toArray++a.toArray=(c++a).toArray:=by simp
 rw [p]
 exact ⟨.ref _,_,I.FE (t':=s.toks) (r.append k) (by rw [LC];omega),rfl,q _ I.fresh⟩
end
section
variable {prog:Program}{w:World}{A:Around}{E:Value->Shared->Prop}{s:Shared}
def Ft {a c n:Nat}(b:a<=c)(f:c<=n):sliceBounds (some (a:Int)) (some (c:Int)) none n=((a:Int),(c:Int),1):=by
 simp only [sliceBounds,Py]
 have d:¬((a:Int)<0):=by omega
 have e:¬((c:Int)<0):=by omega
 simp only [d,e,Px,show (1:Int)>0 by decide,Oc]
 congr 1
 .omega
 .congr 1;omega
set_option maxRecDepth 100000 in
def Lf{n I:Nat}{a c:Nat}{Q:Unit->Shared->Prop}
  (e:s.heap.get? l=some {cls:=.type "list",data:=.seq d n}) (H:s.heap.get? b=some {cls:=.type "list",data:=.seq g I}) (y:l≠b)
  (J:s.heap.IsSliceOf q u v .none) (L:IsPart u (some (a:Int))) (M:IsPart v (some (c:Int))) (z:a<=c) (N:c<=d.size)
  (k:d.size+g.size<=sizeLine) (h:Q () {s with heap:=s.heap.update l (Obj.mapSeq λi=>i.extract 0 a++g++i.extract c i.size)}):
  wpAny (model prog w) A (setItem (.ref l) (.ref q) (.ref b)) Q E s:=by
 have B:s.heap.IsList l d:=PySem.IsL.isList e
 have O:s.heap.IsList b g:=PySem.IsL.isList H
 obtain ⟨os,j,C,o⟩:=id J
 have r:s.TypeIs (.ref q) "slice":=⟨os,j,C⟩
 have p:¬((rawPart none==rawInt 0)=true):=Ls
 have f:Builtin.List.listSameRef (.ref l) (.ref b)=false:=by
  unfold Builtin.List.listSameRef
  exact Mz.mpr y
 have t:(max (a:Int) (c:Int)).toNat=c:=by omega
 have G:((λi:Array Value=>i.extract 0 a++g++i.extract c i.size) d).size<=sizeLine+1:=by
  simp only [Array.size_append,Array.size_extract]
  omega
 unfold setItem
 try with_reducible refine MZ ?_
 first|refine Lh (Lz ?_)|skip
 refine Lh<|wpAny_sequenceKey B.typeIs Z1 ?_
 refine Lh (MB (name:=Str.ofString "__setitem__") B.typeIs slot_list_setitem
  (Nz slot_list_setitem B.typeIs entry_list_setitem ?_ (args_list_setitem _ _ _)))
 show wpAny _ _ (Builtin.List.listSubscript? (.ref q)>>=_) _ _ s
 refine Lh ?_
 unfold Builtin.List.listSubscript?
 refine Lh<|wpAny_specialOf r slice_no_index ?_
 simp only [Option.isNone_none,Oc]
 refine Lz ?_
 show wpAny _ _ (typeOf (.ref q)>>=_) _ _ s
 refine Lh<|O2 r ?_
 first
  |rw [Lq Z1]
  |refine Pb Z1 ?_
 rw [listSliceParts_eq]
 refine Lh<|Lh<|Ms j o (x:=.none) rfl<|Lh<|P0 .none ?_
 rw [Lq p]
 refine Lh<|Ms j o (x:=u) rfl<|Lh<|P0 L ?_
 refine Lh<|Ms j o (x:=v) rfl<|Lh<|P0 M<|Lz ?_
 first
  |simp only [f,Pc,Px]
  |refine Pb f ?_
  |(dsimp only
    rw [Lq (by rw [f];exact Ls)])
 refine Lh (m:=Builtin.List.listAllItems (.ref b) "must assign iterable to extended slice") ?_
 unfold Builtin.List.listAllItems
 refine Lh<|O2 O.typeIs ?_
 first
  |refine W.KFB.if_so Z1 ?_
  |rw [Lv Z1]
  |simp only [OH,Bool.true_or,Oc]
 unfold Builtin.List.listItems
 refine Lh<|Mw H rfl<|Lz ?_
 refine Lh<|Lh<|Mw e rfl<|Lz ?_
 refine Lh<|P1 ((sliceIndices_raw (some (a:Int)) (some (c:Int)) none d.size Z8).trans<|Mq (pure:Int×Int×Int->Sem (Int×Int×Int))<|Ft z N) ?_
 show wpAny _ _ (if ((1:Int)==1)=true then _ else _) _ _ s
 rw [Lv Z1]
 refine Lh<|Oj ?_
 first
  |simp only [u0 k,Pc,Px]
  |refine Pb (u0 k) ?_
 first|refine Lh (Lz ?_)|skip
 show wpAny _ _ (updateSeq l (λi=>i.extract 0 ((a:Int)).toNat++g++i.extract (max (a:Int) (c:Int)).toNat i.size)>>=_) _ _ s
 rw [t,Nn]
 refine Lh<|OR (hz:=LN (Mr _ _) k) (_hz':=G) e rfl ?_
 refine Lh<|NS ?_
 first
  |exact Lh<|Lz<|Lz ⟨.none,rfl,Lz h⟩
  |exact Lz ⟨.none,rfl,Lz h⟩
end
section
variable {X:Cx}
end
end L2
namespace L2
open PySem PySem.Spec PyProof.Rows
section
variable {κ:Type} [DecidableEq κ]
def bm (kvs:List (κ×V))(k:κ):Option V:=(kvs.find? λkv=>decide (kv.1=k)).map (·.2)
def ca (kvs:List (κ×V))(k:κ)(v:V):List (κ×V):=
 if (kvs.any λkv=>decide (kv.1=k))=true then kvs.map (λkv=>if kv.1=k then (kv.1,v) else kv) else kvs++[(k,v)]
def fY{p:κ×V}(e:p.1=k):bm (p::r) k=some p.2:=by simp [bm,Mx,e]
def fW{p:κ×V}(e:¬p.1=k):bm (p::r) k=bm r k:=by simp [bm,Mx,e]
theorem jI (k:κ):∀a:List (κ×V),(a.any λb=>decide (b.1=k))=(bm a k).isSome
 |[]=>rfl
 |p::r=>by
  rw [OJ]
  by_cases e:p.1=k
  .simp only [fY e,LH e,Bool.true_or,Option.isSome_some]
  .rw [fW e,LR e,P9];exact jI k r
theorem yY (k j:κ)(y:V):∀a:List (κ×V),bm (a.map λb=>if b.1=k then (b.1,y) else b) j=(bm a j).map λx=>if j=k then y else x
 |[]=>rfl
 |p::r=>by
  have c:=yY k j y r
  rw [Me]
  by_cases h:p.1=k
  .rw [Lv h]
   by_cases e:p.1=j
   .rw [fY (p:=(p.1,y)) e,fY e,Od,Lv<|e.symm.trans h]
   .rw [fW (p:=(p.1,y)) e,fW e,c]
  .rw [Lq h]
   by_cases e:p.1=j
   .rw [fY (p:=p) e,fY e,Od,Lq λz=>h<|e.trans z]
   .rw [fW (p:=p) e,fW e,c]
theorem xP (k j:κ)(y:V):∀a:List (κ×V),bm a k=none->bm (a++[(k,y)]) j=if j=k then some y else bm a j
 |[],_=>by
  by_cases e:k=j
  .rw [Lv e.symm];exact fY (p:=(k,y)) e
  .rw [Lq λz=>e z.symm];exact fW (p:=(k,y)) e
 |p::r,b=>by
  rw [OO]
  have c:¬p.1=k:=λz=>by rw [fY z] at b;cases b
  rw [fW c] at b
  have d:=xP k j y r b
  by_cases e:p.1=j
  .rw [fY e,fY e,Lq λz=>c<|e.trans z]
  .rw [fW e,fW e,d]
def uc (b:List (κ×V))(k j:κ)(y:V):bm (ca b k y) j=if j=k then some y else bm b j:=by
 unfold ca
 by_cases a:(b.any λc=>decide<|c.1=k)=true
 .rw [Lv a,yY]
  rw [jI] at a
  by_cases e:j=k
  .obtain ⟨x,d⟩:=Po.mp a
   rw [Lv e,e,d,Od,Lv rfl]
  .rw [Lq e]
   cases bm b j with
   |none=>rfl
   |some x=>rw [Od,Lq e]
 .rw [Lq a]
  refine xP k j y b ?_
  rw [jI] at a
  cases q:bm b k with
  |none=>rfl
  |some x=>rw [q] at a;exact (a rfl).elim
def nj (a:List (κ×V))(k:κ)(v:V):(ca a k v).length<=a.length+1:=by
 unfold ca
 split
 .rw [Ll];omega
 .rw [LC,Ma,Nq];omega
def wY {a:List (κ×V)}{k:κ}(v:V)(h:bm a k=none):ca a k v=a++[(k,v)]:=by
 unfold ca
 rw [jI,h]
 exact Lq Z1
def dU.pc(r:dU o u):o.isSome=u.isSome:=by
 cases o with
 |none=>cases u with
  |none=>rfl
  |some _=>exact (show False from r).elim
 |some _=>cases u with
  |none=>exact (show False from r).elim
  |some _=>rfl
theorem dU.getD(r:dU o u)(b:RelV d a):RelV (o.getD d) (u.getD a):=by
 cases o with
 |none=>cases u with
  |none=>exact b
  |some _=>exact (show False from r).elim
 |some _=>cases u with
  |none=>exact (show False from r).elim
  |some _=>exact r
def KV.val(r:KV a f)(k:κ):dU (bm a k) (valueAt f k):=by
 unfold KV at r
 induction r with
 |nil=>exact True.intro
 |@cons p q l c h t i=>
  obtain ⟨g,j⟩:=h
  by_cases e:p.1=k
  .have d:q.1=k:=g.symm.trans e
   have b:valueAt (q::c) k=some q.2:=by simp [valueAt,Mx,d]
   rw [fY e,b];exact j
  .have d:¬q.1=k:=λz=>e (g.trans z)
   have b:valueAt (q::c) k=valueAt c k:=by simp [valueAt,Mx,d]
   rw [fW e,b];exact i
theorem KV.any(r:KV a c)(k:κ):(a.any λb=>decide (b.1=k))=c.any λb=>decide (b.1=k):=by
 unfold KV at r
 induction r with
 |nil=>rfl
 |cons h t d=>rw [OJ,OJ,d,h.1]
def KV.mC(r:KV b d)(k:κ)(f:RelV y u):
  KV (b.map λa=>if a.1=k then (a.1,y) else a) (d.map λa=>if a.1=k then (a.1,u) else a):=by
 unfold KV at r⊢
 induction r with
 |nil=>exact .nil
 |@cons p q j l h t g=>
  rw [Me,Me]
  refine .cons ?_ g
  obtain ⟨c,i⟩:=h
  by_cases e:p.1=k
  .rw [Lv e,Lv<|c.symm.trans e];exact ⟨c,f⟩
  .rw [Lq e,Lq λz=>e<|c.trans z];exact ⟨c,i⟩
def KV.put(r:KV a b)(k:κ)(c:RelV y u):KV (ca a k y) (stored b k u):=by
 unfold ca stored
 rw [r.any k]
 by_cases e:(b.any λd=>decide<|d.1=k)=true
 .rw [Lv e,Lv e];exact r.mC k c
 .rw [Lq e,Lq e];exact Paired.snoc r ⟨rfl,c⟩
theorem KV.length(r:KV a b):a.length=b.length:=Ng r
end
def jZ(r:RelV (kV k) u):(dq P w).is k u=true:=by
 cases k with
 |inl i=>obtain ⟨t,e⟩:=(show∃t,u=Value.int i t from r);subst e;exact Fh P w i t
 |inr x=>obtain ⟨t,e⟩:=(show∃t,u=Value.str x t from r);subst e;exact KG P w x t
theorem zh:∀{a:List aJ} {b:List Value},ba (a.map kV) b->ItemsAre (dq P w) a b
 |[],_,r=>by rw [Ow] at r;cases r;exact .nil
 |k::a,_,r=>by
  rw [Me] at r
  cases r with
  |cons h t=>exact .cons (jZ h)<|zh t
abbrev KT (H:Hp):List (List aJ×V)->List (List aJ×Addr×Value)->Prop:=Paired λp q=>p.1=q.1/\H q.2.1=some (.tup (p.1.map kV))/\RelV p.2 q.2.2
def KT.val(r:KT H a f)(k:List aJ):dU (bm a k) ((atKey f k).map (·.2)):=by
 induction r with
 |nil=>exact True.intro
 |@cons p q l c h t i=>
  obtain ⟨g,_,j⟩:=h
  by_cases e:p.1=k
  .have d:q.1=k:=g.symm.trans e
   have b:atKey (q::c) k=some q.2:=by simp [atKey,Mx,d]
   rw [fY e,b];exact j
  .have d:¬q.1=k:=λz=>e (g.trans z)
   have b:atKey (q::c) k=atKey c k:=by simp [atKey,Mx,d]
   rw [fW e,b];exact i
def KT.mC(r:KT H a d)(k:List aJ)(g:RelV y u):
  KT H (a.map λc=>if c.1=k then (c.1,y) else c) (d.map (putAt k u)):=by
 induction r with
 |nil=>exact .nil
 |@cons p q l m h t i=>
  rw [Me,Me]
  refine .cons ?_ i
  obtain ⟨b,f,j⟩:=h
  unfold putAt
  by_cases e:p.1=k
  .rw [Lv e,Lv<|b.symm.trans e];exact ⟨b,f,g⟩
  .rw [Lq e,Lq λz=>e<|b.trans z];exact ⟨b,f,j⟩
def KT.put(r:KT H a c)(k:List aJ)(f:H b=some (.tup (k.map kV)))(d:RelV y u):
  KT H (ca a k y) (storedH c k b u):=by
 have e:(a.any λg=>decide<|g.1=k)=(atKey c k).isSome:=by
  rw [jI,(r.val k).pc,Ox]
 unfold ca storedH
 rw [e]
 by_cases q:(atKey c k).isSome=true
 .rw [Lv q,Lv q];exact r.mC k d
 .rw [Lq q,Lq q];exact Paired.snoc r ⟨rfl,f,d⟩
def KT.keeps{c:Hp}(r:KT H a d)(f:∀b e,H b=some (.tup e)->c b=some (.tup e)):KT c a d:=
 Paired.uX r λ_ _ z=>⟨z.1,f _ _ z.2.1,z.2.2⟩
section
variable {P:Program}{w:World}{H:Hp}{h:Heap}{a:Addr}
def AU(b:cS P w H h)(e:Rd H a u):bS P w H h a u:=e.ok b
def gY(d:cS P w H h)(e:Rd H a (.dK b)):b.length<=sizeLine/\(a==sysModules)=false/\∃c,KV b c/\h.DictOf (dq P w) a c:=
 show bS P w H h a (.dK b) from AU d e
def yZ(d:cS P w H h)(e:H a=some (.dK b)):b.length<=sizeLine/\(a==sysModules)=false/\∃c,KV b c/\h.DictOf (dq P w) a c:=gY d (.inl e)
def kf {b:List aJ}(d:cS P w H h)(e:H a=some (.tup (b.map kV))):(tupleKind (dq P w)).is h b a:=by
 obtain ⟨_,c,r,o,f,g,n,i⟩:=(show bS P w H h a (.tup<|b.map kV) from d a _ e)
 exact ⟨o,c.toArray,n,f,g,i,by simpa using zh r⟩
def js(f:cS P w H h)(e:Rd H a (.dT b)):b.length<=sizeLine/\(a==sysModules)=false/\
  ∃d,KT H b d/\h.DictOfH (tupleKind (dq P w)) a d:=by
 obtain ⟨z,y,d,r,o,i,j,k,n,s,u,v⟩:=(show bS P w H h a (.dT b) from AU f e)
 refine ⟨z,y,d,r,o,i,j,k,n,s,u,λx c=>?_,v⟩
 have all:∀{l:List (List aJ×V)} {m:List (List aJ×Addr×Value)},KT H l m->∀x∈m,(tupleKind<|dq P w).is h x.1 x.2.1:=by
  intro l m q
  induction q with
  |nil=>intro x c;exact nomatch c
  |@cons p q B C g t A=>
   intro x c
   rcases Lw.mp c with e|c
   .subst e
    exact kf f (by rw [<-g.1];exact g.2.1)
   .exact A x c
 exact all r x c
def yQ(d:cS P w H h)(e:H a=some (.dT b)):b.length<=sizeLine/\(a==sysModules)=false/\
  ∃c,KT H b c/\h.DictOfH (tupleKind (dq P w)) a c:=js d (.inl e)
end
def cT (H:Hp)(a:Addr)(y:V)(r:Option V):Prop:=
 (∃kvs k,Rd H a (.dK kvs)/\y=kV k/\r=bm kvs k)\/∃kvs k b,Rd H a (.dT kvs)/\y=.ref b/\H b=some (.tup (k.map kV))/\r=bm kvs k
def gu (H:Hp)(a:Addr)(y v:V)(H':Hp):Prop:=
 (∃kvs k,H a=some (.dK kvs)/\y=kV k/\kvs.length<sizeLine/\H'=upd H a (.dK (ca kvs k v)))\/
 ∃kvs k b,H a=some (.dT kvs)/\y=.ref b/\H b=some (.tup (k.map kV))/\kvs.length<sizeLine/\H'=upd H a (.dT (ca kvs k v))
theorem cT.k {H:Hp}{a:Addr}{b:List (aJ×V)}{k:aJ}(e:H a=some (.dK b)):cT H a (kV k) (bm b k):=.inl ⟨b,k,.inl e,rfl,rfl⟩
def cT.t{H:Hp}{k:List aJ}(e:H a=some (.dT c))(d:H b=some (.tup (k.map kV))):cT H a (.ref b) (bm c k):=.inr ⟨c,k,b,.inl e,rfl,d,rfl⟩
theorem gu.k {H:Hp}{a:Addr}{b:List (aJ×V)}{k:aJ}{v:V}(e:H a=some (.dK b))(c:b.length<sizeLine):gu H a (kV k) v (upd H a (.dK (ca b k v))):=.inl ⟨b,k,e,rfl,c,rfl⟩
def gu.t{H:Hp}{k:List aJ}(e:H a=some (.dT c))(d:H b=some (.tup (k.map kV)))(f:c.length<sizeLine):
  gu H a (.ref b) v (upd H a (.dT (ca c k v))):=.inr ⟨c,k,b,e,rfl,d,f,rfl⟩
section
variable {X:Cx}{pins:List (Addr×Obj)}{σ:St}{H:Hp}{s:Shared}{a:Addr}{y v:V}{u r:Value}{o:Option V}{A:Around}{E:Value->Shared->Prop}
def Inv.qr (I:Inv X pins σ H s):sysModules<s.heap.objs.size:=by
 have h:mainGlobals<s.heap.objs.size:=(I.mod.glob.keeps I.bk).lt
 exact Nat.lt_trans Z1 h
def JC {Q:ZT}(x:A.units+1<cLine)(I:Inv X pins σ H s)(g:cT H a y (some v))(q:RelV y u)(h:∀d t,Inv X pins σ H t->RelV v d->Q d t):
  wpAny (model X.prog X.w) A (getItem (.ref a) u) Q E s:=by
 rcases g with ⟨f,k,e,i,l⟩|⟨f,k,b,e,i,B,l⟩
 .subst i
  obtain ⟨z,C,G,bw,j⟩:=gY I.ay e
  obtain ⟨d,m,c⟩:=dU.some_of (v:=v) (o:=valueAt G k) (by rw [l];exact bw.val k)
  exact wpAny_getItem_of (jZ q) j.mapOf m<|h d _ (I.tok _) c
 .subst i
  cases (show u=Value.ref b from q)
  obtain ⟨z,C,J,bw,j⟩:=js I.ay e
  obtain ⟨d,m,c⟩:=dU.some_of (v:=v) (o:=(atKey J k).map (·.2)) (by rw [l];exact bw.val k)
  obtain ⟨p,L,n⟩:=Mj.mp m
  refine wpAny_getItem_heap (MX x) (kf I.ay B) j L ?_
  rw [n]
  exact h d _ (I.tok _) c
def KZ {Q:ZT}(n:A.units+1<cLine)(I:Inv X pins σ H s)(g:cT H a y o)(j:RelV y u)(h:∀m,Inv X pins σ H m->Q (.bool o.isSome) m):
  wpAny (model X.prog X.w) A (compareOp .In u (.ref a)) Q E s:=by
 rcases g with ⟨c,k,e,d,l⟩|⟨c,k,b,e,d,p,l⟩
 .subst d
  obtain ⟨z,f,t,bw,i⟩:=gY I.ay e
  refine wpAny_in_of (jZ j) f i.mapOf ?_
  rw [<-(bw.val k).pc,<-l]
  exact h _<|I.tok _
 .subst d
  cases (show u=Value.ref b from j)
  obtain ⟨z,f,x,bw,i⟩:=js I.ay e
  refine wpAny_in_heap (MX n) (kf I.ay p) f i ?_
  have q:=(bw.val k).pc
  rw [Ox] at q
  rw [<-q,<-l]
  exact h _<|I.tok _
def Ek {Q:ZT}(n:A.units+1<cLine)(I:Inv X pins σ H s)(g:cT H a y o)(j:RelV y u)(h:∀m,Inv X pins σ H m->Q (.bool (!o.isSome)) m):
  wpAny (model X.prog X.w) A (compareOp .NotIn u (.ref a)) Q E s:=by
 rcases g with ⟨c,k,e,d,l⟩|⟨c,k,b,e,d,p,l⟩
 .subst d
  obtain ⟨z,f,t,bw,i⟩:=gY I.ay e
  refine wpAny_notIn_of (jZ j) f i.mapOf ?_
  rw [<-(bw.val k).pc,<-l]
  exact h _<|I.tok _
 .subst d
  cases (show u=Value.ref b from j)
  obtain ⟨z,f,x,bw,i⟩:=js I.ay e
  refine wpAny_notIn_heap (MX n) (kf I.ay p) f i ?_
  have q:=(bw.val k).pc
  rw [Ox] at q
  rw [<-q,<-l]
  exact h _<|I.tok _
def tG(I:Inv X pins σ H s)(h:pb (H a))(i:Heap.SameBut a s.heap c)(j:∃q,c.get? a=some q)(f:bS X.prog X.w (upd H a d) c a d):
  Inv X pins σ (upd H a d) {s with heap:=c,toks:=g}:=
 I.write (x:=a) (e:=a) h (.inl rfl) (λb q k z=>(i.2 b k).trans z) j f
def tX{d:Heap}{b:List (aJ×V)}(z:b.length<=sizeLine)(f:(a==sysModules)=false)(bw:KV b c)(g:d.DictOf (dq P w) a c):
  bS P w e d a (.dK b):=⟨z,f,c,bw,g⟩
def C0{Q:Unit->Shared->Prop}(T:A.units+1<cLine)(I:Inv X pins σ H s)(g:gu H a y v C)(G:RelV y u)(J:RelV v r)(h:∀L,Inv X pins σ C L->Q () L):
  wpAny (model X.prog X.w) A (setItem (.ref a) u r) Q E s:=by
 rcases g with ⟨d,k,e,j,l,m⟩|⟨d,k,b,e,j,M,l,m⟩
 .subst j m
  obtain ⟨z,n,U,bw,p⟩:=yZ I.ay e
  have t:U.length<=sizeLine:=by rw [<-bw.length];exact z
  have x:(ca d k v).length<=sizeLine:=by have:=nj d k v;omega
  refine wpAny_setItem_pairs (hsz:=t) (jZ G) p λN f B=>h _ ?_
  have Y:∃q,N.get? a=some q:=let ⟨q,_,_,i,_⟩:=f;⟨q,i⟩
  exact tG I (by rw [e];exact True.intro) B Y<|tX x n (bw.put k J) f
 .subst j m
  cases (show u=Value.ref b from G)
  obtain ⟨z,n,xs,bw,p⟩:=yQ I.ay e
  have t:xs.length<=sizeLine:=by rw [<-Ng bw];exact z
  have x:(ca d k v).length<=sizeLine:=by have:=nj d k v;omega
  refine wpAny_setItem_heap (hsz:=t) (MX T) (kf I.ay M) p λN f B=>h _ ?_
  obtain ⟨q,es,ep,i,h2,h3,h4,_,h5⟩:=f
  refine tG I (by rw [e];exact True.intro) B ⟨q,i⟩ ⟨x,n,_,(bw.put k M J).keeps λc ys O=>?_,q,es,ep,i,h2,h3,h4,h5⟩
  rw [aA<|y9 O e λz=>nomatch z]
  exact O
end
section
variable {X:Cx}{pins:List (Addr×Obj)}{σ:St}{H:Hp}{s:Shared}{a:Addr}{kvs:List (aJ×V)}{k:aJ}{u:Value}{A:Around}{E:Value->Shared->Prop}
def Ge {Q:ZT}(I:Inv X pins σ H s)(e:Rd H a (.dK kvs))(h:∀t b,Inv X pins σ H b->Q (.int kvs.length t) b):wpAny (model X.prog X.w) A (call (.builtin "len") [.ref a]) Q E s:=by
 obtain ⟨z,c,f,bw,d⟩:=gY I.ay e
 refine call_len_dict c d (by rw [<-bw.length];rw [Pl] at z;omega) ?_
 rw [<-bw.length]
 exact h _ _<|I.tok _
end
def z9 (i:Expr):Prop:=∀ov iv,subscripted i false ov iv=operate [ov,iv] (getItem ov iv)
def IV{id:String}
  (q:typeLookup (.type T) "__getitem__"=pure (some (.builtin id))) (t:z9 b)
  (h:wpAny (model a w) A (eval c j) (λo f=>wpAny (model a w) A (eval b j) (λi d=>d.TypeIs o T/\wpAny (model a w) A (getItem o i) Q E d) E f) E s):
  wpAny (model a w) A (eval (.Subscript c b n) j) Q E s:=by
 refine Subscript_<|MN h (λo f l=>MN l (λi d e=>?_) λ_ _ x=>x) λ_ _ x=>x
 obtain ⟨p,e⟩:=e
 unfold subscriptTail
 refine Lh ?_
 rw [getitemInPython_of_ne p.not_modules]
 refine Lh<|wpAny_specialOf p q ?_
 have k:wpAny (model a w) A (subscripted b false o i) (λr g=>wpAny (model a w) A (letTemporaryGo c o r>>=λ_=>pure r) Q E g) E d:=by
  rw [t o i]
  exact wpAny_operating<|MN e (λr g m=>Lh<|wpAny_letTemporaryGo<|Lz m) λ_ _ x=>x
 first
  |exact Lz<|Lh k
  |exact Lh<|Lz<|Lh k
  |exact Lh k
def J0(I:Inv X c h H s)(g:cT H a y o):s.TypeIs (.ref a) "dict":=by
 rcases g with ⟨d,k,e,_,_⟩|⟨d,k,b,e,_,_,_⟩
 .obtain ⟨_,_,i,_,f⟩:=gY I.ay e
  exact f.typeIs
 .obtain ⟨_,_,j,_,f⟩:=js I.ay e
  exact f.typeIs
def AL (td ty:TE):TE:=λσ H Q=>td σ H λx H1=>ty σ H1 λy H2=>∃a v,x=.ref a/\cT H2 a y (some v)/\Q v H2
def oJ (ty td:TE):TE:=λσ H Q=>ty σ H λy H1=>td σ H1 λx H2=>∃a o,x=.ref a/\cT H2 a y o/\Q (.bl o.isSome) H2
def nz (ty td:TE):TE:=λσ H Q=>ty σ H λy H1=>td σ H1 λx H2=>∃a o,x=.ref a/\cT H2 a y o/\Q (.bl (!o.isSome)) H2
def tq (td ty tv:TE):TS:=λD σ H=>tv σ H λv H1=>td σ H1 λx H2=>ty σ H2 λy H3=>∃a H4,x=.ref a/\gu H3 a y v H4/\D.nx σ H4
section
variable {X:Cx}{o i e value:Expr}{pos pos' tpos:Pos}{td ty tv:TE}
def CC (j:X.A.units+1<cLine)(k:PE X o td)(l:PE X i ty)(m:z9 i):PE X (.Subscript o i pos) (AL td ty):=by
 intro b s d H Q I h
 refine IV PySem.F.slot_dict_getitem.lookup m<|aS (k b s d H _ I h) λu n ⟨x,p,q,r,t⟩=>aS (l b n d p _ q t) λJ L w=>?_
 obtain ⟨y,z,f,B,a,v,C,g,E⟩:=w
 subst C
 obtain rfl:u=Value.ref a:=r
 exact ⟨J0 f g,JC j f g B λM N G c=>⟨v,z,G,c,E⟩⟩
def tY (d:X.A.units+1<cLine)(f:PE X i ty)(j:PE X o td):PC X .In i o (oJ ty td):=by
 intro b s c H Q I h
 refine aS (f b s c H _ I h) λE k ⟨y,l,m,n,p⟩=>aS (j b k c l _ m p) λu G q=>?_
 obtain ⟨x,r,t,v,a,w,z,g,B⟩:=q
 subst z
 obtain rfl:u=Value.ref a:=v
 exact KZ d t g n λJ C=>⟨.bl w.isSome,r,C,rfl,B⟩
def ny (d:X.A.units+1<cLine)(f:PE X i ty)(j:PE X o td):PC X .NotIn i o (nz ty td):=by
 intro b s c H Q I h
 refine aS (f b s c H _ I h) λE k ⟨y,l,m,n,p⟩=>aS (j b k c l _ m p) λu G q=>?_
 obtain ⟨x,r,t,v,a,w,z,g,B⟩:=q
 subst z
 obtain rfl:u=Value.ref a:=v
 exact Ek d t g n λJ C=>⟨.bl<|!w.isSome,r,C,rfl,B⟩
def ly (d:X.A.units+1<cLine)(f:PE X o td)(j:PE X i ty)(k:PE X value tv)(l:swapsWith value (some (.Subscript o i pos')) pos.line X.env=pure false):
  PS X (.Assign [.Subscript o i pos'] value pos) (tq td ty tv):=by
 intro b s c H D I h
 refine wpAny_Assign_Subscript (aS (k b s c H _ I h) λr m ⟨v,n,p,q,t⟩=>aS (f b m c n _ p t) λu w ⟨x,z,B,C,E⟩=>aS (j b w c z _ B E) λQ T ⟨y,U,G,J,a,L,M,g,N⟩=>?_) l
 subst M
 obtain rfl:u=Value.ref a:=C
 exact C0 d G g J q λY O=>⟨c,L,O,N⟩
end
def Kv(h:Heap)(a:sysModules<h.objs.size):bS P w H (h.push {cls:=.type "dict",data:=.dict #[]}) h.objs.size (.dK []):=
 ⟨LP _,Mz.mpr<|Ml<|LY a,[],.nil,Heap.DictOf.new h⟩
def HV(h:Heap)(a:sysModules<h.objs.size):bS P w H (h.push {cls:=.type "dict",data:=.dict #[]}) h.objs.size (.dT []):=
 ⟨LP _,Mz.mpr<|Ml<|LY a,[],.nil,_, #[],0,LJ _ rfl,⟨rfl,rfl,rfl⟩,rfl,rfl,NA⟩
def BU:TE:=λ_ H Q=>∀p,H p=none->Q (.ref p) (upd H p (.dK []))
def Bi:TE:=λ_ H Q=>∀p,H p=none->Q (.ref p) (upd H p (.dT []))
section
variable {X:Cx}{pos:Pos}
def ro:PE X (.Dict [] [] pos) BU:=λb s c H Q I h=>
 wpAny_Dict_empty ⟨.ref s.heap.objs.size,_,I.laid (a:=s.heap.objs.size) (o:=.dK []) (t':=s.toks) (λ_ _ q=>Ln _ q) (Lo _)<|Kv s.heap I.qr,rfl,h _<|I.ay.fresh<|Lo _⟩
def vk:PE X (.Dict [] [] pos) Bi:=λb s c H Q I h=>
 wpAny_Dict_empty ⟨.ref s.heap.objs.size,_,I.laid (a:=s.heap.objs.size) (o:=.dT []) (t':=s.toks) (λ_ _ q=>Ln _ q) (Lo _)<|HV s.heap I.qr,rfl,h _<|I.ay.fresh<|Lo _⟩
end
def cb (kvs more:List (aJ×V)):List (aJ×V):=more.foldl (λacc kv=>ca acc kv.1 kv.2) kvs
def KV.merge:∀{a:List (aJ×V)} {b:List (aJ×Value)} {kvs:List (aJ×V)} {vs:List (aJ×Value)},KV a b->KV kvs vs->KV (cb kvs a) (merged vs b):=by
 intro a b kvs vs r
 unfold KV at r
 induction r generalizing kvs vs with
 |nil=>intro q;exact q
 |@cons p q f g h t c=>
  intro d
  have e:KV (ca kvs p.1 p.2) (stored vs q.1 q.2):=by
   have:=d.put p.1 h.2
   rw [<-h.1];exact this
  exact c e
theorem vy:∀(b a:List (aJ×V)),(cb a b).length<=a.length+b.length
 |[],a=>by show a.length<=a.length+0;omega
 |p::r,a=>by
  have c:=vy r<|ca a p.1 p.2
  have d:=nj a p.1 p.2
  show (cb (ca a p.1 p.2) r).length<=_
  rw [Ma];omega
structure M2 (X:Cx)(o:Expr)(m:Str)(apos:Pos)(e f:Expr)(cpos:Pos):Prop where
 base:attributeBase o m X.env (eval o X.env)=eval o X.env
 dA:((backTo cpos (starEach [e,f] X.env)).all (fun x=> !x.1)&&(backToKw cpos (keywordEach [] X.env)).all (fun x=>x.1.isSome)
  &&decide (([e,f]:List Expr).length+([]:List Keyword).length+(if ([]:List Keyword).isEmpty then 0 else 1)<30))=true
 line:(apos.endLine==cpos.line)=true
 trees:backTo cpos (starEach [e,f] X.env)=[(false,eval e X.env),(false,eval f X.env)]
def rN (H:Hp)(a:Addr):Prop:=(∃kvs,Rd H a (.dK kvs))\/∃kvs,Rd H a (.dT kvs)
def vp(I:Inv X f l H s)(d:rN H a):
  s.TypeIs (.ref a) "dict"/\(∀b,Value.ref a=.ref b->∃c,s.heap.get? b=some c/\c.dict=none)/\(a==sysModules)=false:=by
 rcases d with ⟨h,e⟩|⟨h,e⟩
 .obtain ⟨_,i,m,_,g⟩:=gY I.ay e
  refine ⟨g.typeIs,λb q=>?_,i⟩
  cases q
  obtain ⟨c,_,_,j,k,_⟩:=g
  exact ⟨c,j,k.2.1⟩
 .obtain ⟨_,i,n,_,g⟩:=js I.ay e
  refine ⟨g.typeIs,λb q=>?_,i⟩
  cases q
  obtain ⟨c,_,_,j,k,_⟩:=g
  exact ⟨c,j,k.2.1⟩
section
variable {X:Cx}{pins:List (Addr×Obj)}{σ:St}{H:Hp}{s:Shared}{a:Addr}{y d:V}{u r:Value}{o:Option V}{A:Around}{E:Value->Shared->Prop}
def Is {Q:ZT}(t:A.units+1<cLine)(I:Inv X pins σ H s)(g:cT H a y o)(m:RelV y u)(n:RelV d r)(h:∀p q,Inv X pins σ H q->RelV (o.getD d) p->Q p q):
  wpAny (model X.prog X.w) A (call (.builtin "dict.get") [.ref a,u,r]) Q E s:=by
 rcases g with ⟨f,k,e,i,l⟩|⟨f,k,b,e,i,v,l⟩
 .subst i
  obtain ⟨z,j,B,bw,c⟩:=gY I.ay e
  refine NH OC c.typeIs PN (Pz _ _ _) (meets_dict_get_default (dq X.prog X.w) a (jZ m) j r) ⟨_,c.mapOf,h _ _ (I.tok _) ?_⟩
  rw [l]
  exact (bw.val k).getD n
 .subst i
  cases (show u=Value.ref b from m)
  obtain ⟨z,j,x,bw,c⟩:=js I.ay e
  refine NH OC c.typeIs PN (Pz _ _ _) (meetsH_dict_get_default (tupleKind<|dq X.prog X.w) a b j r) ⟨MX t,k,x,kf I.ay v,c,h _ _ (I.tok _) ?_⟩
  rw [l]
  exact (bw.val k).getD n
end
def px (td ty tx:TE):TE:=λσ H Q=>td σ H λx H1=>∃a,x=.ref a/\rN H1 a/\ty σ H1 λy H2=>tx σ H2 λz H3=>∃o,cT H3 a y o/\Q (o.getD z) H3
section
variable {X:Cx}{o e f:Expr}{apos cpos:Pos}{td ty tx:TE}
def sT (k:X.A.units+1<cLine)(l:PE X o td)(n:PE X e ty)(p:PE X f tx)(m:M2 X o "get" apos e f cpos):PE X (.Call (.Attribute o "get" apos) [e,f] [] cpos) (px td ty tx):=by
 intro b s c H Q I h
 refine wpAny_Call_method m.base m.dA m.line Op OC PySem.F.type_dict_get<|aS (l b s c H _ I h) λu q r=>?_
 obtain ⟨x,t,j,v,a,w,d,B⟩:=r
 subst w
 obtain rfl:u=Value.ref a:=v
 obtain ⟨C,E,_⟩:=vp j d
 refine ⟨C,E,?_⟩
 rw [m.trees]
 refine Nd rfl (ON (NG (aS (n b q c t _ j B) λiv G ⟨y,J,L,M,N⟩=>
  NG (aS (p b G c J _ L N) λfv s3 ⟨z,O,T,U,ov,g,Y⟩=>Pm ?_))))
 exact Is k T g M U λw' s4 I4 i=>⟨_,O,I4,i,Y⟩
end
section
variable {X:Cx}{pins:List (Addr×Obj)}{σ:St}{H:Hp}{s:Shared}{a:Addr}{kvs:List (aJ×V)}{A:Around}{E:Value->Shared->Prop}
end
section
variable {X:Cx}{pins:List (Addr×Obj)}{σ:St}{H:Hp}{s:Shared}{a:Addr}{y:V}{u:Value}{A:Around}{E:Value->Shared->Prop}
end
end L2
namespace yk
open PySem PySem.W PySem.Calls PyProof.Rows
def Io:∀(c:List Int) (d:List Value),WellAll P h d (c.map WData.int)->IntsAre d c:=by
 intro c
 induction c with
 |nil=>
  intro d w
  rw [Ow] at w
  cases w
  exact .nil
 |cons n c e=>
  intro d w
  rw [Me] at w
  cases w with
  |cons a b=>
   cases a
   exact .cons _ _<|e _ b
def FN{l:OpenLaw}(s:l.most=some n)
  (e:l.row.toRowW.claim.pre args=true) (k:WellAll P h c args):
  ∃a o b,c=[Value.ref a]/\args=[WData.list (b.map WData.int)]/\h.get? a=some {cls:=.type "list",data:=.seq o.toArray}/\IntsAre o b/\b.length<=n:=by
 have m:WShape.hasAll [] args [.list .int]=true:=(pre_splitW e).1
 have p:l.pre.holds [] {args:=args}=true:=(pre_splitW e).2
 obtain ⟨d,r,rfl,t,u⟩:=hasAllW_cons m
 obtain rfl:=hasAllW_nil u
 obtain ⟨A,rfl,v⟩:=hasW_list t
 obtain ⟨b,rfl⟩:=items_int v
 have f:b.length<=n:=by
  unfold OpenLaw.pre at p
  have i:(WTm.not (.lt (.lit (.int (n:Int))) (.len (.arg 0)))).holds [] {args:=[.list<|b.map .int]}=true:=by
   have i:=(holds_andW p).1
   rw [s] at i
   exact i
  have j:=condW_of i<|w_not<|w_lt w_lit<|w_len_list<|w_arg rfl
  rw [Ll] at j
  refine L8 λq=>?_
  have w:(n:Int)<((b.length:Nat):Int):=by omega
  first
   |(rw [LH w] at j;exact absurd j Z1)
   |(simp at j;omega)
 cases k with
 |cons x y=>
  cases y
  cases x with
  |list z g=>exact ⟨_,_,b,rfl,rfl,z,Io b _ g,f⟩
def FU (l:OpenLaw)(args:List WData):l.row.toRowW.claim.post args (.bool true) args=true:=
 postW_of (r:=l.row.toRowW) (X:=(true==true))
  (show WShape.has [] (.bool true) .bool=true by first|rfl|decide|simp [WShape.has,WShape.arms,WShape.armsAll])
  (show (WTm.eq .res (.lit (.bool true))).value [] {args:=args,res:=some (.bool true),after:=args}=some (.bool<|true==true) from w_eq_bool (w_res rfl) w_lit) rfl
def DJ{l:OpenLaw}{H:World->Heap->Prop}{d:DefRec}
  (N:l.most=some n) (x:d.params.defaults=[])
  (call:∀(w:World) (e b:Shared) (s y:ZU) (j:Addr) (o:Obj) (z t g:Value) (a:Addr) (i:List Value) (u:List Int),
   Ground q c [] E w e s y b.heap->H w b.heap->
   b.heap.get? j=some o->o.data=.func (docDef d.name d.params d.body d.scope z t g)->b.heap.CodeRec t d.name->s d.name=some (.ref j)->
   b.heap.get? a=some {cls:=.type "list",data:=.seq i.toArray}->IntsAre i u->u.length<=n->b.gens= #[]->
   codeAny (model l.prog w) callerA (.call (.ref j) ⟨[.ref a],[]⟩) (λr v=>r=.ok (.ret (.bool true))/\OldK b.heap v.heap/\v.os=b.os/\AllBare v.gens) b):
  WalkO q c E H l.row.toRowW d [] (λf i=>PySem.call f i):=by
 intro w e b s y G Y j o z t g O kV Q T A I B U J L as k M ac C af
 obtain rfl:O=.none:=Dflts.none I x
 obtain rfl:kV=.none:=Dflts.noKw I
 obtain ⟨a,i,u,rfl,rfl,m,h,p⟩:=FN N k C
 refine enter_call<|Ou (call w e b s y j o z t g a i u G Y Q (fd_plain T) A B m h p U) λr v hq=>?_
 obtain ⟨rfl,h2,h3,h4⟩:=hq
 exact ⟨.inl ⟨.bool true,.bool true,[],rfl,λ_=>rfl,.bool true,FU l _,λ_=>⟨List.Pairwise.nil,λ_ hm=>(nomatch hm)⟩⟩,h2,h3,h4⟩
section
variable {prog:Program}{w:World}{A:Around}{E:Value->Shared->Prop}{s:Shared}{K:Frag}
end
end yk
namespace L2
open PySem PySem.Spec PyProof.Rows
theorem zG:∀{a:List Value} {b:List Int},IntsAre a b->ba (b.map V.int) a
 |_,_,.nil=>.nil
 |_,_,.cons n t h=>.cons ⟨t,rfl⟩<|zG h
def wf (H:Hp):Prop:=∀b,H b=none\/∃o xs,H b=some (.cL o (.lst xs))
def En{K:W.Frag}{c:Shared}{p:List Value}
  (KX:K.In c.heap) (B:c.heap.Ns mainGlobals y) (g:c.heap.Ns builtinsNs Q) (U:∀x:Str,x≠"__name__"->Q x=bootBuiltins x) (C:c.heap.NoLimit) (hg:c.gens= #[])
  (O:c.heap.get? a=some {cls:=.type "list",data:=.seq p.toArray}) (hi:IntsAre p A) (hl:A.length<=sizeLine) (hr:cK k callerA)
  (F:∀base:Heap,K.In base->base.Ns mainGlobals y->bp P w K y base CX k T fd [x] sp) (t:∀(s:Shared) (u:Value),BindsTo s fd ⟨[u],[]⟩ [(x,u)])
  (Y:∀H:Hp,wf H->aQ K H a (A.map V.int)->sp [.ref a] H (λv _=>v=.bl true) λ_ _ _=>False)
  (ac:∀H e i,CX [] H c (λ_ _ _=>False) e i->False):
  codeAny (model P w) callerA (.call (.ref T) ⟨[.ref a],[]⟩) (λr i=>r=.ok (.ret (.bool true))/\OldK c.heap i.heap/\i.os=c.os/\AllBare i.gens) c:=by
 have rv:=zG hi
 have E:=hi.length
 have l:∀H:Hp,wf H->aQ K H a (A.map V.int)->cS P w H c.heap->(∀b,H b≠none->b=a)->(H a≠none->K.lookup a=none)->
   codeAny (model P w) callerA (.call (.ref T) ⟨[.ref a],[]⟩) (λr i=>r=.ok (.ret (.bool true))/\OldK c.heap i.heap/\i.os=c.os/\AllBare i.gens) c:=by
  intro H hO hS ay hA hK
  have f:∀{b:Addr} {o:Obj},c.heap.get? b=some o->H b=none->(jY c.heap H).get? b=some o:=λe n=>FA e n
  have af:∀{b:Addr} {o:Obj} {G:Array DictEntry} {I:Nat},c.heap.get? b=some o->o.data=.dict G I->H b=none:=λ{b o G I} e d=>by
   cases q:H b with
   |none=>rfl
   |some u=>
    have e':b=a:=hA b (by rw [q];simp)
    subst e'
    rw [O] at e;cases e
    have d':Data.seq p.toArray _=Data.dict G I:=d
    cases d'
  have j:∀{b:Addr} {m:ZU},c.heap.Ns b m->(jY c.heap H).Ns b m:=λ{b m} q0=>by obtain ⟨o,G,I,e,d,r⟩:=q0;exact ⟨o,G,I,f e<|af e d,d,r⟩
  have J:K.In (jY c.heap H):=λb o e=>f (KX b o e) (by
   cases q:H b with
   |none=>rfl
   |some u=>
    have e':b=a:=hA b (by rw [q];simp)
    subst e'
    rw [hK (by rw [q];simp)] at e;cases e)
  have hM:Mod K y (jY c.heap H):=⟨J,j B,⟨Q,j g,U⟩,let ⟨mc,h1,h2⟩:=C;⟨mc,j h1,h2⟩⟩
  have e0:lF P w K y (jY c.heap H) callerA [] c H:=⟨rfl,hM,λb o e=>DR e,PL<|HN _ _,trivial,λb g=>absurd (show b∈([]:ZX) from g) Z8,ay,.of_eq hg⟩
  refine Ou ((F _ J<|j B).run callerA [] c H ⟨[.ref a],[]⟩ [.ref a] [.ref a] _ _ hr e0 (t c (.ref a)) (.cons rfl .nil)<|Y H hO hS) λr i h=>?_
  cases r with
  |error e=>exact (ac H e i h).elim
  |ok fl=>
   cases fl with
   |next=>exact False.elim h
   |brk=>exact False.elim h
   |cont=>exact False.elim h
   |ret u=>
    obtain ⟨v,H',os,L,un,M,r',q⟩:=h
    have q':v=.bl true:=q
    subst q'
    obtain rfl:u=Value.bool true:=r'
    refine ⟨rfl,OldK.of_keep λb o e=>?_,os,L⟩
    cases q:H b with
    |none=>exact un.keep b o e q (by intro z;exact absurd (show b∈([]:ZX) from z) Z8) Z8
    |some u=>
     rcases hO b with z|⟨ob,xs,z⟩
     .rw [q] at z;cases z
     .have z2:=un.ie b ob _ z
      obtain ⟨e1,_⟩:=ay b _ z
      obtain ⟨e2,_⟩:=M b _ z2
      rw [e] at e1;cases e1
      exact e2
 cases hk:K.lookup a with
 |some o=>
  have e:=KX a o hk
  rw [O] at e
  cases e
  refine l (λ_=>none) (λ_=>.inl rfl) (.inr ⟨_,p.toArray,_,hk,rfl,rfl,rfl,by rw [LF,E];exact hl,by simpa using rv⟩) (λb u z=>by have N:(none:Option HO)=some u:=z;cases N) (λb z=>absurd rfl z) λz=>absurd rfl z
 |none=>
  refine l (λb=>if b=a then some (.cL {cls:=.type "list",data:=.seq p.toArray} (.lst<|A.map V.int)) else none) (λb=>?_) (.inl (.inr ⟨{cls:=.type "list",data:=.seq p.toArray},Lv rfl⟩)) (λb u z=>?_) (λb z=>?_) λ_=>hk
  .by_cases g:b=a
   .exact .inr ⟨_,_,Lv g⟩
   .exact .inl<|Lq g
  .by_cases g:b=a
   .have N:=(Lv g).symm.trans z
    cases N
    subst g
    exact ⟨O,by rw [Ll];exact hl,p,_,rv,O⟩
   .have N:=(Lq g).symm.trans z
    cases N
  .by_cases g:b=a
   .exact g
   .exact absurd (Lq g) z
end L2
namespace L2
open PySem PySem.Spec PyProof.Rows
def Fi{l:W.OpenLaw}{L:World->Heap->Prop}{d:DefRec}{K:Params->W.Frag}{CX:World->gZ}{sp:World->Sp}
  (U:l.most=some n) (z:n<=sizeLine) (A:d.params.defaults=[]) (hr:cK k callerA)
  (hY:∀(w:World) (h:Heap),L w h->(K w.params).In h)
  (F:∀(w:World) (m:ZU) (t:Addr) (h:Heap),(K w.params).In h->h.Ns mainGlobals m->m d.name=some (.ref t)->
   ∃B:FuncData,(∀(s:Shared) (u:Value),BindsTo s B ⟨[u],[]⟩ [(x,u)])/\
    ∀base:Heap,(K w.params).In base->base.Ns mainGlobals m->bp l.prog w (K w.params) m base (CX w) k t B [x] (sp w))
  (C:∀(w:World) (H:Hp) (a:Addr) (y:List Int),y.length<=n->wf H->aQ (K w.params) H a (y.map V.int)->sp w [.ref a] H (λv _=>v=.bl true) λ_ _ _=>False)
  (E:∀(w:World) (H:Hp) (s:Shared) (e:Value) (I:Shared),CX w [] H s (λ_ _ _=>False) e I->False):
  W.WalkO q i Q L l.row.toRowW d [] (λf M=>PySem.call f M):=by
 refine yk.DJ U A λw N p m mb t o pm cd ac a M y G Y ho hd af J r j c hg=>?_
 have O:=hY w _ Y
 obtain ⟨B,hb,hF⟩:=F w m t _ O G.T.g J
 exact En O G.T.g G.T.b G.T.builtins G.T.nolimit hg r j (LN c z) hr hF hb (λH hO hS=>C w H a y c hO hS) λH e I=>E w H p e I
end L2
namespace L2
open PySem PySem.Spec PyProof.Rows
def dE (s:Stmt):Arguments:=match s with
 |.FunctionDef _ a _ _ _ _ _ _ _ _=>a
 |_=>{posonlyargs:=[],args:=[],vararg:=none,kwonlyargs:=[],kw_defaults:=[],kwarg:=none,defaults:=[]}
def du (s:Stmt):List Stmt:=match s with
 |.FunctionDef _ _ b _ _ _ _ _ _ _=>b
 |_=>[]
def be (s:Stmt):Scope:=match s with
 |.FunctionDef _ _ _ _ _ _ sc _ _ _=>sc
 |_=>{kind:=.function,names:=[],isGenerator:=false,isCoroutine:=false}
abbrev bD:gZ:=λ_ _ _ _ _ _=>False
abbrev E0:XK:=λ_ _ _=>False
def qN:mD bD X E0:=λ_ _ _ _ _ _ _ h=>h.elim
structure aI (K:PySem.W.Frag)(x qual:Str)(st:Stmt)(f:Addr)(fd:FuncData):Prop where
 ex:∃(oc:Value) (od:Option Addr) (kV doc pm:Value) (an:Option Addr) (cdv ct:Value) (osl:Array (Option Value)),
  fd=PySem.W.fnOf x qual (dE st) (du st) (be st) .none kV doc pm an cdv ct/\K.lookup f=some ⟨oc,od,.func fd,osl⟩/\PySem.W.codeIn K cdv qual=true
 kp:PySem.W.keepIn K (.ref f)=true
section
variable {P:Program}{w:World}{K:PySem.W.Frag}{mg:Str->Option Value}{base:Heap}
def aI.ok{st:Stmt}{g:Sp}(F:aI K x b st f m)(S:bV N e (be st))(i:∀vs H Q E,g vs H Q E->vs.length=e.length)
  (d:∀(c:Value) (A:Around) (a:List Env) (s:Shared) (H:Hp) (vs:List V) (Q:VK) (E:XK),cK k (A.deeper (envOfC b (be st) s.heap.objs.size f c))->g vs H Q E->
   ∃t,gv (mf bD P w K mg base N b (be st) f c A a s H E).qe (du st) t/\t {nx:=λ_ n=>Q .aq n,rt:=Q} (start N vs) H):bp P w K mg base bD (k+1) f m e g:=by
 obtain ⟨v,y,kV,o,z,B,c,C,p,rfl,r,j⟩:=F.ex
 refine HP r j S i λA a s H vs Q E u l=>?_
 obtain ⟨t,h,q⟩:=d c A a s H vs Q E u l
 exact ⟨t,h.qe,q⟩
def aI.binds{st:Stmt}{d:ZY}(F:aI K x a st f k)
  (h:∀(kV b e:Value) (g:Option Addr) (c i:Value) (j:List Value),j.length=d.length->bindArgs (W.fnOf x a (dE st) (du st) (be st) .none kV b e g c i) ⟨j,[]⟩=pure (d.zip j)):Binds K k d []:=by
 obtain ⟨n,o,kV,b,e,g,c,i,l,rfl,p,m⟩:=F.ex
 exact .all<|h kV b e g c i
def wS{st:Stmt}{kV:Value}(l:K.lookup f=some ⟨j,m,.func (W.fnOf x a (dE st) (du st) (be st) .none kV d h g b i),e⟩)
  (c:W.codeIn K b a=true) (k:W.keepIn K (.ref f)=true):aI K x a st f (W.fnOf x a (dE st) (du st) (be st) .none kV d h g b i):=⟨⟨j,m,kV,d,h,g,b,i,e,rfl,l,c⟩,k⟩
end
def fJ(a:cK k A):A.units+1<cLine:=NI (Nat.add_le_add_left (by decide:1<=64) _) a.units
def cp(h:n<=1000):n<sizeLine:=NI h Z1
section
variable {X:Cx}
def pv(i:Nat)(c:X.N[i]?=some x:=by rfl)(d:pJ X.env.scope x:=by first|exact Or.inl rfl|exact Or.inr (Or.inl rfl)|exact Or.inr (Or.inr rfl))(e:(x==("__debug__":Str))=false:=by decide)
  (b:(x==("__classdict__":Str))=false:=by decide):PE X (.Name x a) (aY i):=Bo c d e b
end
def ab (H H':Hp):Prop:=∀b o,H b=some o->H' b=some o
def ab.refl (H:Hp):ab H H:=λ_ _ h=>h
def ab.trans(a:ab H d)(b:ab d e):ab H e:=λc o h=>b c o<|a c o h
section
variable {κ:Type} [DecidableEq κ]
end
end L2
namespace PySem
section
variable {env:Env}
def FI (names:List (Str×NameKind)):∀(cs:List (Str×Addr)),(∀n,(n,NameKind.free)∈names->∃c,env.cells.lookup n=some c)->
  ∃cl,(forIn names cs (λ(x:Str×NameKind) (r:List (Str×Addr))=>if (x.2==NameKind.free)=true then (do let c<-cellOf env x.1;pure (ForInStep.yield ((x.1,c)::r))) else pure (ForInStep.yield r)):Sem (List (Str×Addr)))=pure cl/\
   (∀n c,cl.lookup n=some c->env.cells.lookup n=some c\/cs.lookup n=some c)/\(∀n,((n,NameKind.free)∈names\/∃c,cs.lookup n=some c)->∃c,cl.lookup n=some c):=by
 induction names with
 |nil=>intro cs _;exact ⟨cs,rfl,λn c h=>.inr h,λn h=>h.elim (λz=>nomatch z) id⟩
 |cons x r ih=>
  intro cs h
  obtain ⟨n,k⟩:=x
  have hr:∀n,(n,NameKind.free)∈r->∃c,env.cells.lookup n=some c:=λm hm=>h m (Lg _ hm)
  by_cases hk:k=.free
  .subst hk
   obtain ⟨c,hc⟩:=h n Lj
   obtain ⟨cl,e,h1,h2⟩:=ih ((n,c)::cs) hr
   refine ⟨cl,?_,λm d hd=>?_,λm hm=>?_⟩
   .rw [OS]
    simp only [OH,Oc]
    have q:cellOf env n=pure c:=by unfold cellOf;rw [hc]
    rw [q]
    exact e
   .rcases h1 m d hd with z|z
    .exact .inl z
    .rw [ME] at z
     by_cases hmn:m=n
     .subst hmn
      simp only [OH] at z
      exact .inl (hc.trans z)
     .have:(m==n)=false:=by simpa using hmn
      rw [this] at z
      exact .inr z
   .refine h2 m ?_
    rcases hm with z|⟨d,z⟩
    .rcases Lw.mp z with z|z
     .obtain ⟨rfl,_⟩:=Qj z
      exact .inr ⟨c,by simp [ME]⟩
     .exact .inl z
    .right
     rw [ME]
     cases (m==n)
     .exact ⟨d,z⟩
     .exact ⟨c,rfl⟩
  .have hb:(k==NameKind.free)=false:=by simpa using hk
   obtain ⟨cl,e,h1,h2⟩:=ih cs hr
   refine ⟨cl,?_,h1,λm hm=>h2 m ?_⟩
   .rw [OS]
    simp only [hb,Pc,Px]
    exact e
   .rcases hm with z|z
    .rcases Lw.mp z with z|z
     .exact absurd (Qj z).2.symm hk
     .exact .inl z
    .exact .inr z
def BV {scope:Scope}(h:∀n,(n,NameKind.free)∈scope.names->∃c,env.cells.lookup n=some c):
  ∃a,closureFor scope env=pure a/\(∀n c,a.lookup n=some c->env.cells.lookup n=some c)/\(∀n,(n,NameKind.free)∈scope.names->∃c,a.lookup n=some c):=by
 obtain ⟨a,e,b,d⟩:=FI scope.names [] h
 refine ⟨a,?_,λn c f=>(b n c f).elim id λz=>(by simp at z),λn g=>d n (.inl g)⟩
 simp only [closureFor]
 have q:=Mq (λt=>t>>=λr=>(pure r:Sem (List<|Str×Addr))) e
 exact q
end
section
variable {prog:Program}{w:World}{A:Around}{R:Result->Shared->Prop}{s:Shared}
def IW {elt target iter:Expr}{ifs:List Expr}{scope:Scope}{pos:Pos}{it acc:Value}{env:Env}(I:Nat->Shared->Prop)
  (turn:∀n s,I n s->wpAny (model prog w) A (pyNext it) (λr s₁=>match r with
   |none=>R (.ok .next) s₁
   |some v=>wpAny (model prog w) A (letOwnedTupleGo target it v) (λ_ s₁'=>wpAny (model prog w) A (assign target env v) (λ_ s₂=>
     wpAny (model prog w) A (forIn ifs true λc r=>if r=true then do let ok<-isTrue c env (eval c env);pure (ForInStep.yield ok) else pure (ForInStep.yield r)) (λok s₃=>
      if ok=true then wpAny (model prog w) A (eval elt env) (λx s₄=>
       wpAny (model prog w) A (call (.builtin "list.append") [acc,x]) (λ_ s₅=>∃m,m<n/\I m s₅) (λ_ _=>False) s₄) (λ_ _=>False) s₃
      else∃m,m<n/\I m s₃) (λ_ _=>False) s₂) (λ_ _=>False) s₁') (λ_ _=>False) s₁) (λ_ _=>False) s)
  (n:Nat) (h:I n s):
  codeAny (model prog w) A (.compLoop (.ListComp elt [⟨target,iter,ifs,0⟩] scope pos) 0 it acc env) R s:=by
 refine codeAny_loop rfl I (λn s hI=>?_) n h
 show wpAny _ A ((compTurn (.ListComp elt [⟨target,iter,ifs,0⟩] scope pos) 0 it acc env).onRaise (λx=>do noteFrame x env;theTreesLotGoes x)) _ _ s
 refine wpAny_noted ?_
 rw [compTurn_list]
 refine Lh (Pn (Lh (MN (turn n s hI) (λr s₁ h₁=>?_) λ_ _ h'=>h'.elim)))
 cases r with
 |none=>exact Lz h₁
 |some v=>
  refine Lh (MN h₁ (λ_ s₁' h₁'=>?_) λ_ _ h'=>h'.elim)
  refine Lh (MN h₁' (λ_ s₂ h₂=>Lh (MN h₂ (λok s₃ h₃=>?_) λ_ _ h'=>h'.elim)) λ_ _ h'=>h'.elim)
  cases ok with
  |false=>exact Lz ⟨rfl,h₃⟩
  |true=>
   exact Lh (Lh (MN h₃ (λx s₄ h₄=>Lh (MN h₄ (λ_ s₅ h₅=>Lz (Lz ⟨rfl,h₅⟩)) λ_ _ h'=>h'.elim)) λ_ _ h'=>h'.elim))
end
end PySem
namespace L2
open PySem PySem.Spec PyProof.Rows
theorem mem_of_lookup:∀{l:List (Str×NameKind)} {x:Str} {k:NameKind},l.lookup x=some k->(x,k)∈l
 |[],_,_,h=>by simp at h
 |(n,j)::r,x,k,h=>by
  rw [ME] at h
  by_cases e:x=n
  .subst e
   simp only [OH] at h
   cases h
   exact Lj
  .have:(x==n)=false:=by simpa using e
   rw [this] at h
   exact Lg _<|mem_of_lookup h
theorem zb {a:Env}:∀{b:List (Str×NameKind)} {x:Str},b.lookup x=some .free->
  (b.map λ(n,k)=>if (k==NameKind.free&&a.scope.kind==.function&&a.kindOf n==some .cell) then (n,NameKind.cell) else (n,k)).lookup x=some .cell\/
  (b.map λ(n,k)=>if (k==NameKind.free&&a.scope.kind==.function&&a.kindOf n==some .cell) then (n,NameKind.cell) else (n,k)).lookup x=some .free
 |[],_,h=>by simp at h
 |(n,k)::r,x,h=>by
  have e:=@zb a r x
  show List.lookup x ((if (k==NameKind.free&&a.scope.kind==.function&&a.kindOf n==some .cell)=true then (n,NameKind.cell) else (n,k))::_)=_\/List.lookup x ((if (k==NameKind.free&&a.scope.kind==.function&&a.kindOf n==some .cell)=true then (n,NameKind.cell) else (n,k))::_)=_
  cases c:x==n with
  |true=>
   simp only [ME,c] at h
   cases h
   by_cases d:(NameKind.free==NameKind.free&&a.scope.kind==.function&&a.kindOf n==some .cell)=true
   .rw [Lv d];simp only [ME,c];exact .inl trivial
   .rw [Lq d];simp only [ME,c];exact .inr trivial
  |false=>
   simp only [ME,c] at h
   by_cases d:(k==NameKind.free&&a.scope.kind==.function&&a.kindOf n==some .cell)=true
   .rw [Lv d];simp only [ME,c];exact e h
   .rw [Lq d];simp only [ME,c];exact e h
def Cz{a:Scope}(c:∀y∈a.names,y.2≠.cell)(i:k=.cell\/k=.free)(h:(relabel a b).names.lookup x=some k):(x,NameKind.free)∈a.names:=by
 obtain ⟨⟨n,j⟩,f,e⟩:=LG.mp<|mem_of_lookup h
 by_cases d:(j==NameKind.free&&b.scope.kind==.function&&b.kindOf n==some .cell)=true
 .have g:(n,NameKind.cell)=(x,k):=by simpa only [d,Oc] using e
  have l:j=.free:=by
   simp only [Mn] at d
   exact Oi.mp d.1.1
  subst l
  cases g
  exact f
 .have g:(n,j)=(x,k):=by
   have:=e
   simp only [d] at this
   exact this
  cases g
  rcases i with rfl|rfl
  .exact absurd rfl<|c _ f
  .exact f
section
variable {X:Cx}
def bv (X:Cx)(N':List Str)(scope:Scope)(cl:List (Str×Addr))(C:Addr)(fp:List Addr)(s:Shared)(H:Hp):Cx:=
 {X with N:=N',s₀:=s,H₀:=H,env:=compEnvC scope cl C X.env,outer:=X.stack,stack:=X.stack,ex:=fp,fn:=λ_=>false,pn:=[],xe:=λ_ _=>False}
def lM (X:Cx)(ifs:List Expr)(t:TT):Prop:=
 ∀(pins:List (Addr×Obj)) (s:Shared) (σ:St) (H:Hp) (Q:Bool->Hp->Prop),Inv X pins σ H s->t σ H Q->
  wpAny (model X.prog X.w) X.A (forIn ifs true λc r=>if r=true then do let ok<-isTrue c X.env (eval c X.env);pure (ForInStep.yield ok) else pure (ForInStep.yield r)) (TP X pins σ Q) X.xe s
def j7:TT:=λ_ H Q=>Q true H
def iG:lM X [] j7:=λ_ _ _ H _ I h=>wpAny_tests_nil ⟨H,I,h⟩
def iI(h:PT X c t):lM X [c] t:=λa s b H Q I d=>wpAny_tests_one<|h a s b H Q I d
def ze (J:It)(D:Addr)(τ₀:St)(g:TG)(tt:TT)(te:TE)(Q:VK)(H:Hp):Prop:=
 ∃W:Nat->Nat->St->Hp->Prop,(∃m,W 0 m τ₀ (upd H D (.lst [])))/\∀i m τ H,W i m τ H->
  (J.stop i H/\Q (.ref D) H)\/
  (J.go i H/\∃N:St->Hp->Prop,(∀τ' H',N τ' H'->∃m',m'<m/\W (i+1) m' τ' H')/\
   ∀x H',J.nl i H x H'->g x τ H' λτ2 H2=>tt τ2 H2 λb H3=>if b=true then te τ2 H3 λv H4=>∃ys,H4 D=some (.lst ys)/\ys.length<sizeLine/\N τ2 (upd H4 D (.lst (ys++[v]))) else N τ2 H3)
def gH (wi:TI)(caps:St->St)(g:TG)(tt:TT)(te:TE):TE:=λσ H Q=>wi σ H λJ H1=>∀D,H1 D=none->ze J D (caps σ) g tt te Q H1
variable {tg iter elt:Expr}{ifs:List Expr}{scope:Scope}{pos:Pos}{N':List Str}{caps:St->St}{wi:TI}{g:TG}{tt:TT}{te:TE}
def Cw {pins:ZV}{σ:St}{H2:Hp}{s2:Shared}{J:It}{fp:ZX}{it:Addr}{tn:Nat->Heap->Prop}{cl:List (Str×Addr)}{Q:VK}{RR:Value->Addr->Result->Shared->Prop}
  (hc:X.calm=true) (hkind:scope.kind=.function) (hcell:∀y∈scope.names,y.2≠.cell)
  (hcap:∀σ:St,σ.length=X.N.length->(caps σ).length=N'.length/\∀(i:Nat) (x:Str) (v:V),N'[i]?=some x->(caps σ)[i]?=some (some v)->scope.names.lookup x=some .free/\∃j:Nat,X.N[j]?=some x/\σ[j]?=some (some v))
  (hfree:∀n,(n,NameKind.free)∈scope.names->X.env.kindOf n=some .cell\/X.env.kindOf n=some .free)
  (hcl1:∀n c,cl.lookup n=some c->X.env.cells.lookup n=some c) (hcl2:∀n,(n,NameKind.free)∈scope.names->∃c,cl.lookup n=some c)
  (hg:∀C s H,PG (bv X N' scope cl C fp s H) tg g) (hts:∀C s H,lM (bv X N' scope cl C fp s H) ifs tt) (hel:∀C s H,PE (bv X N' scope cl C fp s H) elt te)
  (I2:Inv X pins σ H2 s2) (T:iF X.prog X.w X.K tg J fp it tn) (st2:tn 0 s2.heap) (f2:∀b∈fp,ir X pins H2 b)
  (k2:∀D,H2 D=none->ze J D (caps σ) g tt te Q H2)
  (hRR:∀D C s' H' m,Inv X pins σ H' s'->s'.heap.Ns C m->s2.heap.objs.size<=C->H' C=none->Q (.ref D) H'->RR (.ref D) C (.ok .next) s'):
  wpAny (model X.prog X.w) X.A (newList []) (λacc s₃=>wpAny (model X.prog X.w) X.A (newFunctionEnv scope X.env.globals cl [] X.env.qual none .none (some X.env)) (λcenv s₄=>
   codeAny (model X.prog X.w) X.A (.compStart (.ListComp elt [⟨tg,iter,ifs,0⟩] scope pos) 0 (.ref it) acc {cenv with scope:=relabel scope X.env}) (RR acc cenv.locals) s₄) X.xe s₃) X.xe s2:=by
 refine MS (wpAny_newFunctionEnv hcell (by intro y hy;simp at hy) (λh₁ hns₁ hsb₁=>?_) hkind)
 dsimp only at hns₁ hsb₁⊢
 generalize hH2:s2.heap.push {cls:=.type "list",dict:=none,data:=.seq ([]:List Value).toArray}=HH at hns₁ hsb₁⊢
 have hC:HH.objs.size=s2.heap.objs.size+1:=by rw [<-hH2,MJ]
 have hDC:s2.heap.objs.size≠HH.objs.size:=by rw [hC];exact LY (MW _)
 have hCle:s2.heap.objs.size<=HH.objs.size:=by rw [hC];exact Qi _
 have below:∀b,b<s2.heap.objs.size->b≠HH.objs.size/\b≠s2.heap.objs.size:=λb hb=>⟨by rw [hC];exact LY (No hb),LY hb⟩
 have old:∀b o,s2.heap.get? b=some o->h₁.get? b=some o:=λb o e=>hsb₁.extBut b o (below b (LL e)).1 (Ln _ (hH2▸Ln _ e))
 have hacc:h₁.get? s2.heap.objs.size=some {cls:=.type "list",data:=.seq ([]:List Value).toArray 0}:=hsb₁.extBut _ _ hDC (Ln _ (hH2▸LJ _ rfl))
 have hDn:H2 s2.heap.objs.size=none:=I2.ay.fresh (Lo _)
 have hCn:H2 HH.objs.size=none:=I2.ay.fresh hCle
 have fpC:ir X pins H2 HH.objs.size:=I2.gL hCle hCn
 have fplt:∀b∈fp,b<s2.heap.objs.size:=λb hb=>by
  obtain ⟨o,e,_⟩:=T.obj 0 _ st2 b hb
  exact LL e
 have nstk:∀b∈fp,b∉ia X.stack:=λb hb z=>by
  obtain ⟨_,f1,f2',_⟩:=f2 b hb
  rcases Lw.mp (I2.wR b z) with e|e
  .exact f1 e
  .exact f2' e
 obtain ⟨W,⟨m0,w0⟩,turn⟩:=k2 s2.heap.objs.size hDn
 have capok:=hcap σ I2.len
 have ok:(bv X N' scope cl HH.objs.size fp s2 H2).Ok:=
  {mod:=I2.ok.mod
   kind:=hkind
   glob:=I2.ok.glob
   blt:=I2.ok.blt
   above:=hCle
   inj:=λx y c a b=>I2.ok.inj x y c (hcl1 x c a) (hcl1 y c b)
   has:=λx h=>hcl2 x (by
    rcases h with h|h
    .exact Cz hcell (.inl rfl) h
    .exact Cz hcell (.inr rfl) h)
   nI:=λx c h=>(nomatch h)
   hd:=I2.ok.hd
   frames:=I2.ok.frames
   pi:=.inl rfl
   wC:=λb hb=>⟨(below b (fplt b hb)).1,λx c e=>(f2 b hb).2.2.2.2.1 x c (hcl1 x c e)⟩
   bs:=I2.bs
   jV:=LN I2.ok.jV I2.sz
   nU:=λb o e hb=>by
    rcases (f2 b hb).2.2.2.1 with z|z
    .exact I2.ok.nU b o e z
    .exact absurd (L4 (LL (I2.ok.bs b o e).1) z) (MI _)
   pX:=nstk
   gQ:=I2.stack
   kI:=I2.Ac}
 have I4:Inv (bv X N' scope cl HH.objs.size fp s2 H2) [] (caps σ) (upd H2 s2.heap.objs.size (.lst [])) {s2 with heap:=h₁,toks:=s2.toks+([]:List (Str×Value)).length}:=by
  refine ⟨ok,rfl,I2.bare,Un.laid old (Lo _) hDn,⟨_,hns₁,λi x v e1 e2 e3=>?_⟩,λx c e=>?_,?_,λx c e=>?_,(λp hp=>(nomatch hp)),?_,capok.1⟩
  .obtain ⟨lf,j,e4,e5⟩:=capok.2 i x v e1 e2
   have kx:=hfree x (mem_of_lookup lf)
   have vis:pJ X.env.scope x:=by rcases kx with k|k;exact .inr (.inl k);exact .inr (.inr k)
   obtain ⟨m,hn,hl⟩:=I2.loc
   obtain ⟨u,r,l⟩:=hl j x v e4 e5 vis
   refine ⟨u,r,.inr ⟨zb lf,?_⟩⟩
   obtain ⟨c,hcx⟩:=hcl2 x (mem_of_lookup lf)
   have hcx':=hcl1 x c hcx
   refine ⟨c,hcx,?_⟩
   rcases l with ⟨k,_⟩|⟨_,c',ec,⟨o,ho,hd⟩⟩
   .rcases kx with k'|k'<;>(rw [k] at k';cases k')
   .rw [hcx'] at ec;cases ec
    exact ⟨o,old _ o ho,hd⟩
  .obtain ⟨v,o,ho,hd⟩:=I2.cell x c (hcl1 x c e)
   exact ⟨v,o,old _ o ho,hd⟩
  .show upd H2 s2.heap.objs.size (.lst []) HH.objs.size=none
   rw [aA (Ml hDC)];exact hCn
  .obtain ⟨v,o,ho,hd⟩:=I2.cell x c (hcl1 x c e)
   rw [aA (LY (LL ho))]
   exact I2.gO x c (hcl1 x c e)
  .exact I2.ay.laid old (Lo _) ⟨LP _,[],0,.nil,hacc⟩
 have st4:tn 0 h₁:=T.keep _ _ _ st2 λb _ o e=>old b o e
 have stat:∀{H':Hp},(∀b∈fp,H' b=none)->∀b∈fp,ir (bv X N' scope cl HH.objs.size fp s2 H2) [] H' b:=λhn b hb=>
  ⟨hn b hb,(below b (fplt b hb)).1,nstk b hb,.inl hb,λx c e=>(f2 b hb).2.2.2.2.1 x c (hcl1 x c e),(λp hp=>(nomatch hp))⟩
 have loop:∀s₃:Shared,s₃={s2 with heap:=h₁,toks:=s2.toks+([]:List (Str×Value)).length}->
   codeAny (model X.prog X.w) X.A (.compLoop (.ListComp elt [⟨tg,iter,ifs,0⟩] scope pos) 0 (.ref it) (.ref s2.heap.objs.size) (compEnvC scope cl HH.objs.size X.env)) (RR (.ref s2.heap.objs.size) HH.objs.size) s₃:=by
  rintro s₃ rfl
  refine IW (λn s'=>∃i τ H',Inv (bv X N' scope cl HH.objs.size fp s2 H2) [] τ H' s'/\tn i s'.heap/\(∀b∈fp,H' b=none)/\W i n τ H') ?_ m0
   ⟨0,caps σ,_,I4,st4,λb hb=>by rw [aA (below b (fplt b hb)).2];exact (f2 b hb).1,w0⟩
  rintro n s5 ⟨i,τ,H5,I5,st5,fr5,w5⟩
  rcases turn i n τ H5 w5 with ⟨stop,q⟩|⟨go,N,hN,step⟩
  .refine aS (T.done (bv X N' scope cl HH.objs.size fp s2 H2) rfl rfl rfl hc i [] s5 τ H5 (λ_ _=>False) I5 (stat fr5) st5 stop) λr s6 q0=>?_
   obtain ⟨hr,I6⟩:=q0
   subst hr
   obtain ⟨m,hn,_⟩:=I6.loc
   refine hRR _ _ s6 H5 m (I2.Go (ch:=fp) I6.os I6.base I6.ay I6.bare λb hb=>⟨(f2 b hb).2.2.2.1,(f2 b hb).2.1,(f2 b hb).2.2.2.2.1,(f2 b hb).2.2.2.2.2⟩) hn hCle I6.free q
  .refine aS (T.item (bv X N' scope cl HH.objs.size fp s2 H2) rfl rfl rfl hc i [] s5 τ H5 (λ_ _=>False) I5 (stat fr5) st5 go) λr s6 q1=>?_
   obtain ⟨u,hr,h6⟩:=q1
   subst hr
   refine aS h6 λ_ s7 q2=>?_
   obtain ⟨x,H7,I7,r7,y7,st7,fr7⟩:=q2
   have I7':=I7.pinned (stat fr7) (T.obj _ _ st7)
   have again:∀{τ':St} {H':Hp} {s':Shared},Inv (bv X N' scope cl HH.objs.size fp s2 H2) ([]++oC fp s7.heap) τ' H' s'->N τ' H'->
     ∃m,m<n/\∃i τ H',Inv (bv X N' scope cl HH.objs.size fp s2 H2) [] τ H' s'/\tn i s'.heap/\(∀b∈fp,H' b=none)/\W i m τ H':=λ{τ' H' s'} I' n'=>by
    obtain ⟨m',hm,w'⟩:=hN τ' H' n'
    refine ⟨m',hm,i+1,τ',H',I'.sF,T.keep _ _ _ st7 λb hb o e=>(I'.pin (b,o) (Lr _ (Lr _ (t0 hb e)))).1,λb hb=>?_,w'⟩
    obtain ⟨o,e,d⟩:=T.obj _ _ st7 b hb
    exact (I'.pin (b,o) (Lr _ (Lr _ (t0 hb e)))).2.1
   refine aS (hg HH.objs.size s2 H2 _ s7 τ H7 x u _ I7' r7 (step x H7 y7)) λ_ s8 q3=>?_
   obtain ⟨τ8,H8,I8,q8⟩:=q3
   refine aS (hts HH.objs.size s2 H2 _ s8 τ8 H8 _ I8 q8) λokk s9 q4=>?_
   obtain ⟨H9,I9,q9⟩:=q4
   cases okk with
   |false=>
    rw [Lq Ls] at q9⊢
    exact again I9 q9
   |true=>
    rw [Lv rfl] at q9⊢
    refine aS (hel HH.objs.size s2 H2 _ s9 τ8 H9 _ I9 q9) λy s10 q5=>?_
    obtain ⟨v,H10,I10,r10,ys,hD,hz,n10⟩:=q5
    refine aS (zy (X:=bv X N' scope cl HH.objs.size fp s2 H2) _ s10 τ8 H10 (.ref s2.heap.objs.size) [v] (.ref s2.heap.objs.size) [y] (λ_ H'=>N τ8 H') I10 rfl (.cons r10 .nil) ⟨_,ys,v,rfl,rfl,hD,hz,n10⟩) λ_ s11 q6=>?_
    obtain ⟨_,H11,I11,_,n11⟩:=q6
    exact again I11 n11
 exact codeAny_compStart_list (loop _ rfl) (T.self X.A 0 _ _ _ st4 (loop _ rfl))
def Kf (hc:X.calm=true)(a:scope.kind=.function)(p:∀y∈scope.names,y.2≠.cell)(d:∀y∈scope.names,y.2=.local->scope.names.lookup y.1=some .local)
  (c:∀n,(n,NameKind.free)∈scope.names->X.env.kindOf n=some .cell\/X.env.kindOf n=some .free)
  (u:∀r:St,r.length=X.N.length->(caps r).length=N'.length/\∀(i:Nat) (x:Str) (v:V),N'[i]?=some x->(caps r)[i]?=some (some v)->scope.names.lookup x=some .free/\∃j:Nat,X.N[j]?=some x/\r[j]?=some (some v))
  (hi:PI X tg iter wi) (hg:∀f C k s H,PG (bv X N' scope f C k s H) tg g) (E:∀f C k s H,lM (bv X N' scope f C k s H) ifs tt) (G:∀f C k s H,PE (bv X N' scope f C k s H) elt te)
  (hs:∀x,foldedSetIterable iter X.env x=pure x:=by intro _;rfl):PE X (.ListComp elt [⟨tg,iter,ifs,0⟩] scope pos) (gH wi caps g tt te):=by
 intro l s r H Q I h
 rw [eval_ListComp]
 obtain ⟨f,t,z,B⟩:=BV (env:=X.env) (scope:=scope) λn L=>I.ok.has n<|c n L
 refine wpAny_comprehension_free (use:=none) rfl hs t a d<|aS (hi l s r H _ I h) λv s1 h1=>aS h1 λac s2 h2=>?_
 obtain ⟨it,k,tn,J,H2,rfl,Y,T,M,f2,k2⟩:=h2
 refine Cw (RR:=λO C=>compPost (model X.prog X.w) X.A X.xe none (EP X l r Q) O C) hc a p u c z B (λC s H=>hg f C k s H) (λC s H=>E f C k s H) (λC s H=>G f C k s H) Y T M f2 k2 ?_
 intro D C s' H' m I' L U hC q
 obtain ⟨f0,f1,af,f3,f4,f5⟩:=Y.gL U hC
 exact ⟨m,L,λh' sb=>⟨.ref D,H',I'.turned (t':=s'.toks) (λb o hb e=>(sb.2 b hb).trans e) f0 f1 f3 f4 f5,rfl,q⟩⟩
def Ie{r:Pos}{i:Nat}(O:swapsWith (.ListComp elt [⟨tg,iter,ifs,0⟩] scope pos) (some (.Name y z)) r.line X.env=pure true)
  (hN:X.N.Nodup) (U:X.N[i]?=some y) (hy:Loc X.env.scope y)
  (hc:X.calm=true) (c:scope.kind=.function) (t:∀y∈scope.names,y.2≠.cell) (k:∀y∈scope.names,y.2=.local->scope.names.lookup y.1=some .local)
  (d:∀n,(n,NameKind.free)∈scope.names->X.env.kindOf n=some .cell\/X.env.kindOf n=some .free)
  (G:∀B:St,B.length=X.N.length->(caps B).length=N'.length/\∀(i:Nat) (x:Str) (v:V),N'[i]?=some x->(caps B)[i]?=some (some v)->scope.names.lookup x=some .free/\∃j:Nat,X.N[j]?=some x/\B[j]?=some (some v))
  (hi:PI X tg iter wi) (hg:∀l C p s H,PG (bv X N' scope l C p s H) tg g) (Y:∀l C p s H,lM (bv X N' scope l C p s H) ifs tt) (ac:∀l C p s H,PE (bv X N' scope l C p s H) elt te)
  (hs:∀x,foldedSetIterable iter X.env x=pure x:=by intro _;rfl) (hf:X.fn y=true\/X.env.scope.names.lookup y=some .local:=by first|exact .inl rfl|exact .inr rfl|assumption):
  PS X (.Assign [.Name y z] (.ListComp elt [⟨tg,iter,ifs,0⟩] scope pos) r) (dZ (gH wi caps g tt te) (cf i)):=by
 intro f s B H D I h
 rw [exec_Assign_Name_used _ _ _ _ O]
 refine Lh<|Pn<|Lh ?_
 obtain ⟨l,u,L,M⟩:=BV (env:=X.env) (scope:=scope) λn hn=>I.ok.has n<|d n hn
 show wpAny _ X.A (do let _<-comprehension (.ListComp elt [⟨tg,iter,ifs,0⟩] scope pos) scope X.env _ (newList []) false (eval iter X.env) (some<|assign (.Name y z) X.env)) _ _ s
 refine Lh (MN (wpAny_comprehension_free (use:=some<|assign (.Name y z) X.env) (Q:=λ_ s'=>SP X f D .next s') rfl hs u c k
  (aS (hi f s B H _ I h) λv s1 h1=>aS h1 λa1 s2 h2=>?_)) (λ_ s' hq=>Lz<|Lz hq) λ_ _ e=>e)
 obtain ⟨it,p,tn,J,H2,rfl,I2,T,af,f2,k2⟩:=h2
 refine Cw (RR:=λaj C=>compPost (model X.prog X.w) X.A X.xe (some<|assign (.Name y z) X.env) (λ_ s'=>SP X f D .next s') aj C) hc c t G d L M (λC s H=>hg l C p s H) (λC s H=>Y l C p s H) (λC s H=>ac l C p s H) I2 T af f2 k2 ?_
 intro E C s' H' m I' hn am hC q
 obtain ⟨f0,f1,a2,f3,f4,f5⟩:=I2.gL am hC
 show wpAny _ X.A (assign (.Name y z) X.env (.ref E)) _ _ _
 refine wpAny_assign_Name<|Cp I' hN U hy (v:=.ref E) rfl (λan ao ⟨a,sb,ha⟩=>?_) hf
 have as:C≠a:=by
  rcases ha with rfl|ha
  .exact f1
  .exact Ml<|f4 y a ha
 exact ⟨m,hn.sameBut sb as,λh' a0=>⟨_,H',ao.turned (t':=an.toks) (λb o hb e=>(a0.2 b hb).trans e) f0 f1 f3 f4 f5,q⟩⟩
end
end L2
namespace FL
open PySem L2
inductive D where
 |aq|bl (b:Bool)|int (i:Int)|str (x:Str)|tup (l:List D)|lst (l:List D)
abbrev ZW:=List (List D)
abbrev ZZ:=List D
mutual
def D.beq:D->D->Bool
 |.aq,.aq=>true
 |.bl a,.bl b=>a==b
 |.int a,.int b=>a==b
 |.str a,.str b=>decide (a=b)
 |.tup a,.tup b=>D.mS a b
 |.lst a,.lst b=>D.mS a b
 |_,_=>false
def D.mS:List D->List D->Bool
 |[],[]=>true
 |a::r,b::t=>D.beq a b&&D.mS r t
 |_,_=>false
end
mutual
theorem D.beq_iff:∀a b:D,D.beq a b=true↔a=b
 |.aq,b=>by cases b<;>simp [D.beq]
 |.bl a,b=>by cases b<;>simp [D.beq]
 |.int a,b=>by cases b<;>simp [D.beq]
 |.str a,b=>by cases b<;>simp [D.beq]
 |.tup a,b=>by cases b<;>simp [D.beq,D.vD a]
 |.lst a,b=>by cases b<;>simp [D.beq,D.vD a]
theorem D.vD:∀a b:List D,D.mS a b=true↔a=b
 |[],b=>by cases b<;>simp [D.mS]
 |a::r,b=>by cases b<;>simp [D.mS,D.beq_iff a,D.vD r]
end
instance:DecidableEq D:=fun a b=>decidable_of_iff _ (D.beq_iff a b)
mutual
inductive al (H:Hp):V->D->Prop
 |aq:al H .aq .aq
 |bl (b:Bool):al H (.bl b) (.bl b)
 |int (i:Int):al H (.int i) (.int i)
 |str (x:Str):al H (.str x) (.str x)
 |tup {a:Addr} {vs:List V} {l:List D}:H a=some (.tup vs)->az H vs l->al H (.ref a) (.tup l)
 |lst {a:Addr} {vs:List V} {l:List D}:H a=some (.lst vs)->az H vs l->al H (.ref a) (.lst l)
inductive az (H:Hp):List V->List D->Prop
 |nil:az H [] []
 |cons {v:V} {d:D} {vs:List V} {ds:List D}:al H v d->az H vs ds->az H (v::vs) (d::ds)
end
mutual
theorem al.mono {H H':Hp}(e:ab H H'):∀{v:V} {d:D},al H v d->al H' v d
 |_,_,.aq=>.aq
 |_,_,.bl b=>.bl b
 |_,_,.int b=>.int b
 |_,_,.str b=>.str b
 |_,_,.tup h r=>.tup (e _ _ h) (az.mono e r)
 |_,_,.lst h r=>.lst (e _ _ h) (az.mono e r)
theorem az.mono {H H':Hp}(e:ab H H'):∀{v:List V} {d:List D},az H v d->az H' v d
 |_,_,.nil=>.nil
 |_,_,.cons h r=>.cons (al.mono e h) (az.mono e r)
end
theorem az.length:∀{a:List V} {b:ZZ},az H a b->a.length=b.length
 |_,_,.nil=>rfl
 |_,_,.cons _ r=>Mq (· +1) r.length
theorem az.get:∀{a:List V} {b:ZZ} {i:Nat} {d:D},az H a b->b[i]?=some d->∃v,a[i]?=some v/\al H v d
 |_,_,_,_,.nil,e=>by simp at e
 |_,_,0,_,.cons h _,e=>by simp at e;subst e;exact ⟨_,rfl,h⟩
 |_,_,i+1,d,.cons _ r,e=>by
  obtain ⟨v,c,f⟩:=az.get (i:=i) (d:=d) r (by simpa using e)
  exact ⟨v,by simpa using c,f⟩
theorem az.iO:∀{a:List V} {b:ZZ} {i:Nat} {v:V},az H a b->a[i]?=some v->∃d,b[i]?=some d/\al H v d
 |_,_,_,_,.nil,e=>by simp at e
 |_,_,0,_,.cons h _,e=>by simp at e;subst e;exact ⟨_,rfl,h⟩
 |_,_,i+1,d,.cons _ r,e=>by
  obtain ⟨v,c,f⟩:=az.iO (i:=i) (v:=d) r (by simpa using e)
  exact ⟨v,by simpa using c,f⟩
theorem az.append:∀{a b:List V} {c d:ZZ},az H a c->az H b d->az H (a++b) (c++d)
 |_,_,_,_,.nil,s=>s
 |_,_,_,_,.cons h r,s=>.cons h<|r.append s
def az.snoc(r:az H a b)(h:al H v d):az H (a++[v]) (b++[d]):=r.append (.cons h .nil)
theorem az.take:∀{a:List V} {b:ZZ} (n:Nat),az H a b->az H (a.take n) (b.take n)
 |_,_,0,_=>.nil
 |_,_,_+1,.nil=>.nil
 |_,_,n+1,.cons h r=>.cons h<|r.take n
theorem az.drop:∀{a:List V} {b:ZZ} (n:Nat),az H a b->az H (a.drop n) (b.drop n)
 |_,_,0,r=>r
 |_,_,_+1,.nil=>.nil
 |_,_,n+1,.cons _ r=>r.drop n
theorem az.ints:∀a:List Int,az H (a.map V.int) (a.map D.int)
 |[]=>.nil
 |n::r=>.cons (.int n)<|az.ints r
def al.dL(h:al H v (.int i)):v=.int i:=by cases h;rfl
def al.ul(h:al H v (.str x)):v=.str x:=by cases h;rfl
def al.jl(h:al H v (.bl b)):v=.bl b:=by cases h;rfl
def al.eP(h:al H v (.tup l)):∃a b,v=.ref a/\H a=some (.tup b)/\az H b l:=by cases h with|tup h r=>exact ⟨_,_,rfl,h,r⟩
def al.dI(h:al H v (.lst l)):∃a b,v=.ref a/\H a=some (.lst b)/\az H b l:=by cases h with|lst h r=>exact ⟨_,_,rfl,h,r⟩
mutual
theorem al.inj {H:Hp}:∀{v:V} {d e:D},al H v d->al H v e->d=e
 |_,_,_,.aq,h=>by cases h;rfl
 |_,_,_,.bl _,h=>by cases h;rfl
 |_,_,_,.int _,h=>by cases h;rfl
 |_,_,_,.str _,h=>by cases h;rfl
 |_,_,_,.tup h r,q=>by
  cases q with
  |tup h' r'=>rw [h] at h';cases h';rw [az.inj r r']
  |lst h' r'=>rw [h] at h';cases h'
 |_,_,_,.lst h r,q=>by
  cases q with
  |lst h' r'=>rw [h] at h';cases h';rw [az.inj r r']
  |tup h' r'=>rw [h] at h';cases h'
theorem az.inj {H:Hp}:∀{v:List V} {d e:List D},az H v d->az H v e->d=e
 |_,_,_,.nil,h=>by cases h;rfl
 |_,_,_,.cons h r,q=>by cases q with|cons h' r'=>rw [al.inj h h',az.inj r r']
end
def but (H:Hp)(M:List Addr):Hp:=λb=>if b∈M then none else H b
def HW (H:Hp):but H []=H:=by funext b;simp [but]
def bf{M:ZX}(h:b∉M):but H M b=H b:=by simp [but,h]
def aw(h:but H M b=some o):b∉M/\H b=some o:=by
 unfold but at h
 split at h
 .cases h
 .exact ⟨‹_›,h⟩
def tN (H:Hp)(M:ZX):ab (but H M) H:=λb o h=>(aw h).2
theorem _root_.L2.ab.but(e:ab H a)(M:ZX):ab (but H M) (but a M):=λb o h=>by
 obtain ⟨c,d⟩:=aw h
 rw [bf c];exact e b o d
def dw {H:Hp}{M:ZX}{a:Addr}{o:HO}(h:a∈M):but (upd H a o) M=but H M:=by
 funext b
 unfold FL.but
 by_cases hb:b∈M
 .rw [Lv hb,Lv hb]
 .rw [Lq hb,Lq hb,aA (λe:b=a=>hb (by rw [e];exact h))]
def zg {H:Hp}{M:ZX}{a:Addr}{o:HO}(h:a∉M):but (upd H a o) M=upd (but H M) a o:=by
 funext b
 by_cases hb:b∈M
 .rw [aA (λe:b=a=>h (by rw [<-e];exact hb))]
  simp [FL.but,hb]
 .rw [bf hb]
  by_cases e:b=a
  .subst e;rw [aN,aN]
  .rw [aA e,aA e,bf hb]
def dR{M M':ZX}(h:∀a∈M,a∈M'):ab (but H M') (but H M):=λb o e=>by
 obtain ⟨c,d⟩:=aw e
 rw [bf λz=>c<|h b z];exact d
def c8{H:Hp}(h:H p=none)(o:HO):ab H (upd H p o):=λb u q=>by rw [aA<|cU q h];exact q
def ap (M:List Addr)(H:Hp):Prop:=∀a∈M,H a≠none
def ap.nil:ap [] H:=λ_ h=>nomatch h
def ap.same(l:ap M H)(e:ab H b):ap M b:=λa c z=>by
 cases q:H a with
 |none=>exact l a c q
 |some o=>rw [e a o q] at z;cases z
def ap.cons {M:ZX}{H:Hp}{a:Addr}{o:HO}(l:ap M H)(h:H a=some o):ap (a::M) H:=λb c=>by
 rcases Lw.mp c with e|e
 .rw [e,h];exact λz=>nomatch z
 .exact l b e
def ap.fresh(l:ap M H)(h:H p=none):p∉M:=λz=>l p z h
theorem ap.upd {M:ZX}{H:Hp}{a:Addr}{o:HO}(l:ap M H):ap M (L2.upd H a o):=λb hb z=>by
 by_cases e:b=a
 .subst e;rw [aN] at z;cases z
 .rw [aA e] at z;exact l b hb z
def mU(l:ap M H)(h:H p=none)(r:az (but H M) a b):al (but (upd H p (.tup a)) M) (.ref p) (.tup b):=by
 rw [zg<|l.fresh h]
 exact .tup aN<|r.mono<|c8 (by rw [bf<|l.fresh h];exact h) _
def mV(l:ap M H)(h:H p=none)(r:az (but H M) a b):al (but (upd H p (.lst a)) M) (.ref p) (.lst b):=by
 rw [zg<|l.fresh h]
 exact .lst aN<|r.mono<|c8 (by rw [bf<|l.fresh h];exact h) _
def lS{H:Hp}{M:ZX}(e:a∉M)(h:H a=some (.lst c))(r:az (but H (a::M)) c d):al (but H M) (.ref a) (.lst d):=
 .lst (by rw [bf e];exact h) (r.mono<|dR λb f=>Lg _ f)
def tH{H:Hp}(h:H a=none)(r:al (but H M) v d):al (but (upd H a o) (a::M)) v d:=by
 rw [dw<|Lj]
 refine r.mono λb u e=>?_
 obtain ⟨f,c⟩:=aw e
 rw [bf]
 .exact c
 .intro z
  rcases Lw.mp z with rfl|z
  .rw [h] at c;cases c
  .exact f z
theorem tf{H:Hp}(h:H a=none):∀{b:List V} {c:ZZ},az (but H M) b c->az (but (upd H a o) (a::M)) b c
 |_,_,.nil=>.nil
 |_,_,.cons q r=>.cons (tH h q)<|tf h r
def ae (te:TE)(G:Hp)(σ:St)(d:D):Prop:=
 ∀M H,ab G (but H M)->ap M H->∀Q:VK,(∀v H',ab H H'->al (but H' M) v d->Q v H')->te σ H Q
def dO (ta:TA)(G:Hp)(σ:St)(ds:List D):Prop:=
 ∀M H,ab G (but H M)->ap M H->∀Q:List V->Hp->Prop,(∀vs H',ab H H'->az (but H' M) vs ds->Q vs H')->ta σ H Q
def bJ (tt:TT)(G:Hp)(σ:St)(b:Bool):Prop:=
 ∀M H,ab G (but H M)->ap M H->∀Q:Bool->Hp->Prop,(∀H',ab H H'->Q b H')->tt σ H Q
def ae.at{Q:VK}(h:ae te (but H M) b d)(l:ap M H)(k:∀v a,ab H a->al (but a M) v d->Q v a):te b H Q:=h M H (ab.refl _) l Q k
def ae.eq(h:ae a G b d)(e:d=c):ae a G b c:=e▸h
def bJ.eq(h:bJ a G b d)(e:d=c):bJ a G b c:=e▸h
section
variable {G:Hp}{σ:St}{ta tb tc:TE}{tt tu:TT}{t:TA}{d d1 d2:D}{ds:List D}{K:PySem.W.Frag}
def cA{i:Nat}(e:σ[i]?=some (some v))(r:al G v d):ae (aY i) G σ d:=λM H s l Q k=>⟨v,e,k v H (ab.refl _)<|r.mono s⟩
def u6(r:∀H,al H v d):ae (tC v) G σ d:=λM H s l Q k=>k _ H (ab.refl _)<|r _
def av:ae (tC (.int i)) G σ (.int i):=u6 λ_=>.int i
def aM:ae (tC (.str x)) G σ (.str x):=u6 λ_=>.str x
def jw:ae (tC (.bl b)) G σ (.bl b):=u6 λ_=>.bl b
def jR {r:R2}(e:∀M H x y,ap M H->al (but H M) x d1->al (but H M) y d2->∀Q:VK,(∀v b,ab H b->al (but b M) v d->Q v b)->r x y H Q)(f:ae ta G σ d1)(g:ae tb G σ d2):ae (bZ r ta tb) G σ d:=
 λM H s l Q k=>f M H s l _ λx h a i=>g M h (s.trans<|a.but M) (l.same a) _ λy j c m=>
  e M j x y (l.same<|a.trans c) (i.mono<|c.but M) m Q λv n o p=>k v n (a.trans<|c.trans o) p
def pP{g:Int->Int->V}(a:∀b,al b (g i j) d)(c:ae ta G σ (.int i))(e:ae tb G σ (.int j)):ae (bZ (fS g) ta tb) G σ d:=
 jR (λM H x y l f h Q k=>⟨i,j,f.dL,h.dL,k _ H (ab.refl _)<|a _⟩) c e
def qp{C:Int->Int->Prop}{g:Int->Int->V}(a:C i j)(b:∀c,al c (g i j) d)(e:ae ta G σ (.int i))(f:ae tb G σ (.int j)):ae (bZ (rI C g) ta tb) G σ d:=
 jR (λM H x y l h m Q k=>⟨i,j,h.dL,m.dL,a,k _ H (ab.refl _)<|b _⟩) e f
def kl(a:ae ta G σ (.int i))(b:ae tb G σ (.int j)):ae (bZ (fS λi j=>.int (i+j)) ta tb) G σ (.int (i+j)):=pP (λ_=>.int _) a b
def w9(a:ae ta G σ (.int i))(b:ae tb G σ (.int j)):ae (bZ (fS λi j=>.int (i-j)) ta tb) G σ (.int (i-j)):=pP (λ_=>.int _) a b
def AQ(a:mo i j)(b:ae ta G σ (.int i))(c:ae tb G σ (.int j)):ae (bZ (rI mo λi j=>.int (i*j)) ta tb) G σ (.int (i*j)):=qp a (λ_=>.int _) b c
def eD(a:0<j)(b:ae ta G σ (.int i))(c:ae tb G σ (.int j)):ae (bZ (rI (λ_ j=>0<j) λi j=>.int (i%j)) ta tb) G σ (.int (i%j)):=qp (C:=λ_ j=>0<j) a (λ_=>.int _) b c
def gm(a:uw i j)(b:ae ta G σ (.int i))(c:ae tb G σ (.int j)):ae (bZ (rI uw λi j=>.int (i/j)) ta tb) G σ (.int (i/j)):=qp a (λ_=>.int _) b c
def DZ(a:uR i j)(b:ae ta G σ (.int i))(c:ae tb G σ (.int j)):ae (bZ (rI uR λi j=>.int (i^j.toNat)) ta tb) G σ (.int (i^j.toNat)):=qp a (λ_=>.int _) b c
def mP(a:ae ta G σ (.int i))(b:ae tb G σ (.int j)):ae (bZ (fS λi j=>.bl (decide (i<j))) ta tb) G σ (.bl (decide (i<j))):=pP (λ_=>.bl _) a b
def tJ(a:ae ta G σ (.int i))(b:ae tb G σ (.int j)):ae (bZ (fS λi j=>.bl (decide (j<i))) ta tb) G σ (.bl (decide (j<i))):=pP (λ_=>.bl _) a b
def AD(a:ae ta G σ (.int i))(b:ae tb G σ (.int j)):ae (bZ (fS λi j=>.bl (decide (j<=i))) ta tb) G σ (.bl (decide (j<=i))):=pP (λ_=>.bl _) a b
def oQ(a:ae ta G σ (.int i)):ae (yL (rU λi=>.int (-i)) ta) G σ (.int (-i)):=
 λM H s l Q k=>a M H s l _ λx b c e=>⟨i,e.dL,k _ b c (.int _)⟩
def D.sc:D->Bool
 |.int _=>true|.str _=>true|_=>false
def yz{d:D}(f:al H x d)(a:al c y e)(g:d.sc=true)(b:e.sc=true):vX x y=true/\decide (x=y)=decide (d=e):=by
 cases f with
 |int i=>
  cases a with
  |int j=>exact ⟨rfl,by simp⟩
  |str j=>exact ⟨rfl,by simp⟩
  |_=>exact absurd b (by simp [D.sc])
 |str i=>
  cases a with
  |int j=>exact ⟨rfl,by simp⟩
  |str j=>exact ⟨rfl,by simp⟩
  |_=>exact absurd b (by simp [D.sc])
 |_=>exact absurd g (by simp [D.sc])
def ag:dO bB G σ []:=λM H s l Q k=>k [] H (ab.refl _) .nil
def aa (c:ae ta G σ d)(e:dO t G σ ds):dO (bn ta t) G σ (d::ds):=
 λM H s l Q k=>c M H s l _ λx f a g=>e M f (s.trans<|a.but M) (l.same a) _ λj h b i=>k _ h (a.trans b) (.cons (g.mono<|b.but M) i)
def aR (h:dO t G σ ds)(hz:ds.length<=sizeLine:=by exact MK (cp Z8)):ae (sZ t) G σ (.tup ds):=
 λM H s l Q k=>h M H s l _ λe f a b=>⟨by rw [b.length];exact hz,λp c=>k _ _ (a.trans<|c8 c _)<|mU (l.same a) c b⟩
def fg (h:dO t G σ ds)(hz:ds.length<=sizeLine:=by exact MK (cp Z8)):ae (jG t) G σ (.lst ds):=
 λM H s l Q k=>h M H s l _ λe f a b=>⟨by rw [b.length];exact hz,λp c=>k _ _ (a.trans<|c8 c _)<|mV (l.same a) c b⟩
def x6{ds:ZZ}{d:D}(r:az H a ds)(h:dM ds i=some d):∃v,dM a i=some v/\al H v d:=by
 unfold dM at h⊢
 rw [r.length]
 cases e:lG ds.length i with
 |none=>rw [e] at h;cases h
 |some j=>rw [e] at h;exact r.get h
def oG {r:List V->Hp->VK->Prop}(e:∀M H b,ap M H->az (but H M) b ds->∀Q:VK,(∀v a,ab H a->al (but a M) v d->Q v a)->r b H Q)(h:dO t G σ ds):ae (cI r t) G σ d:=
 λM H s l Q k=>h M H s l _ λf g c i=>e M g f (l.same c) i Q λv j m n=>k v j (c.trans m) n
def iR{d:D}(h:az H a [d]):∃x,a=[x]/\al H x d:=by
 cases h with|cons q r=>cases r;exact ⟨_,rfl,q⟩
def pp{d:D}(h:az H a [d,e]):∃x y,a=[x,y]/\al H x d/\al H y e:=by
 cases h with|cons q r=>cases r with|cons b r=>cases r;exact ⟨_,_,rfl,q,b⟩
def dX(h:dO t G σ [.lst l]):ae (cI (λc H Q=>∃p b,c=[.ref p]/\(aQ K H p b\/br K H p b)/\Q (.int b.length) H) t) G σ (.int l.length):=
 oG (λM H c j e Q k=>by
  obtain ⟨x,rfl,q⟩:=iR e
  obtain ⟨a,f,rfl,g,i⟩:=q.dI
  refine ⟨a,f,rfl,.inl<|aQ.of (aw g).2,?_⟩
  rw [i.length]
  exact k _ H (ab.refl _) (.int _)) h
def nX(h:dO t G σ [.tup l]):ae (cI (λc H Q=>∃p b,c=[.ref p]/\(aQ K H p b\/br K H p b)/\Q (.int b.length) H) t) G σ (.int l.length):=
 oG (λM H c j e Q k=>by
  obtain ⟨x,rfl,q⟩:=iR e
  obtain ⟨a,f,rfl,g,i⟩:=q.eP
  refine ⟨a,f,rfl,.inr<|br.of (aw g).2,?_⟩
  rw [i.length]
  exact k _ H (ab.refl _) (.int _)) h
def D3(h:dO t G σ [.lst l]):
  ae (cI (λc H Q=>∃p b,c=[.ref p]/\(aQ K H p b\/br K H p b)/\∀l,H l=none->Q (.ref l) (upd H l (.lst b))) t) G σ (.lst l):=
 oG (λM H c f g Q k=>by
  obtain ⟨x,rfl,q⟩:=iR g
  obtain ⟨a,i,rfl,j,m⟩:=q.dI
  exact ⟨a,i,rfl,.inl<|aQ.of (aw j).2,λp e=>k _ _ (c8 e _)<|mV f e m⟩) h
def qk(h:dO t G σ [.lst l]):
  ae (cI (λc H Q=>∃p b,c=[.ref p]/\((aQ K H p b/\∀l,H l=none->Q (.ref l) (upd H l (.tup b)))\/(br K H p b/\Q (.ref p) H))) t) G σ (.tup l):=
 oG (λM H c f g Q k=>by
  obtain ⟨x,rfl,q⟩:=iR g
  obtain ⟨a,i,rfl,j,m⟩:=q.dI
  exact ⟨a,i,rfl,.inl ⟨aQ.of (aw j).2,λp e=>k _ _ (c8 e _)<|mU f e m⟩⟩) h
def c7(h:ae ta G σ (.bl b)):bJ (sQ ta) G σ b:=λM H s l Q k=>h M H s l _ λv a c e=>⟨b,e.jl,k a c⟩
def dP(h:ae ta G σ (.bl b)):bJ (tB ta) G σ b:=λM H s l Q k=>h M H s l _ λv a c e=>⟨b,e.jl,k a c⟩
def f6(h:bJ tt G σ b):bJ (A8 tt) G σ (!b):=λM H s l Q k=>h M H s l _ λa c=>k a c
def jn:bJ j7 G σ true:=λM H s l Q k=>k H<|ab.refl _
def mi(h:bJ tt G σ b)(f:b=true->bJ tu G σ c):bJ (wO tt tu) G σ (b&&c):=λM H s l Q k=>h M H s l _ λe a=>by
 cases b with
 |true=>rw [Lv rfl];exact f rfl M e (s.trans<|a.but M) (l.same a) _ λg i=>k g<|a.trans i
 |false=>rw [Lq Ls];exact k e a
def li(h:bJ tt G σ b)(f:b=false->bJ tu G σ c):bJ (BK tt tu) G σ (b||c):=λM H s l Q k=>h M H s l _ λe a=>by
 cases b with
 |true=>rw [Lv rfl];exact k e a
 |false=>rw [Lq Ls];exact f rfl M e (s.trans<|a.but M) (l.same a) _ λg i=>k g<|a.trans i
def fq(h:ae ta G σ (.bl b))(f:b=true->ae tb G σ (.bl c)):ae (sw ta tb) G σ (.bl (b&&c)):=λM H s l Q k=>h M H s l _ λv e a g=>⟨b,g.jl,by
 cases b with
 |true=>rw [Lv rfl];exact f rfl M e (s.trans<|a.but M) (l.same a) _ λv i j m=>k v i (a.trans j) m
 |false=>rw [Lq Ls];exact k _ e a (.bl _)⟩
def IC(h:ae ta G σ (.bl b))(f:b=false->ae tb G σ (.bl c)):ae (Bv ta tb) G σ (.bl (b||c)):=λM H s l Q k=>h M H s l _ λv e a g=>⟨b,g.jl,by
 cases b with
 |true=>rw [Lv rfl];exact k _ e a (.bl _)
 |false=>rw [Lq Ls];exact f rfl M e (s.trans<|a.but M) (l.same a) _ λv i j m=>k v i (a.trans j) m⟩
def Ch(h:ae ta G σ (.bl b)):ae (AN ta) G σ (.bl (!b)):=λM H s l Q k=>h M H s l _ λv a c e=>⟨b,e.jl,k _ a c (.bl _)⟩
end
section
variable {M:List Addr}{H:Hp}{σ:St}{ta:TE}{tt:TT}{d:D}{E:Ends}
def yE{c e:TS}(l:ap M H)(h:bJ tt (but H M) σ b)(f:b=true->∀a,ab H a->c E σ a)(g:b=false->∀a,ab H a->e E σ a):mK tt c e E σ H:=h M H (ab.refl _) l _ λa s=>by
 cases b with
 |true=>rw [Lv rfl];exact f rfl a s
 |false=>rw [Lq Ls];exact g rfl a s
end
end FL
namespace PySem
open Sem (wp)
def Dv:typeLookup (.type "list") "keys"=pure none:=by rw [typeLookup_type,builtinLookup_eq_fast];kernel_rfl
set_option maxHeartbeats 2000000 in
def JW{A:Around}{s:Shared}{name:Str}{Q:Option Value->Shared->Prop}
  (t:s.heap.get? a=some o) (u:o.cls=.type "list") (f:o.data=.seq r k) (v:o.dict=none) (i:typeLookup (.type "list") name=pure none) (j:(["__module__","__name__","__qualname__","__doc__","__annotations__"]:ZY).contains name=false) (z:A.handled=none)
  (h:∀p x,(∀b o,s.heap.get? b=some o->p.get? b=some o)->Q none {s with heap:=p,toks:=x}) (q:name.length+100<=sizeLine:=by size_fits):
  wpAny (model l w) A (getAttr? (.ref a) name) Q E s:=by
 obtain ⟨c,B,C,G⟩:=o
 simp only at u f v
 subst u f v
 obtain ⟨H,g,d,x,os⟩:=s
 have y:∀m,(⟨H,g,d,m,os⟩:Shared).TypeIs (.ref a) "list":=λ_=>⟨_,t,rfl⟩
 have I:=sub_AttributeError
 have J:=N9.lookup
 have L:=N9.bind (.ref a)
 have M:=am_list_getattr_none
 unfold getAttr? getAttrBy? getAttrBy
 repeat (any_goals (first|assumption|exact y _|((with_reducible show wpAny _ _ (call (Value.builtin "list.__getattribute__") _ _) _ _ _);refine Qc N9 (y _) am_entry_list_getattribute (F.args_list_getattribute_2 _ _) (meets_getattribute_miss_list a r k G name _ i j q) ⟨t,z,λp m e n=>?_⟩)|wp_step))
 obtain ⟨N,O,T⟩:=n.there
 show wpAny _ _ (getattributeRaised _ _ _ _ _ _ _) _ _ _
 unfold getattributeRaised
 repeat (any_goals (first|assumption|wp_step))
 exact h _ _ n.of.keeps
namespace F
def A5:entryFor table "dict.update.loop"=some Builtin.«dict.update.loop»:=entryFor_of_tree (by kernel_rfl)
def qB:plainId "dict.update.loop"=true:=by decide+kernel
end F
section
variable {prog:Program}{w:World}{K:Type} [DecidableEq K] {knd:KeyKind prog w K}{A:Around}{R:Result->Shared->Prop}{s:Shared}
def wt (knd:KeyKind prog w K)(h:Heap)(u:Value)(p:K×Value):Prop:=∃b kv,u=.ref b/\h.IsTuple b #[kv,p.2]/\knd.is p.1 kv=true
def GY{A:Around}{s:Shared}{Q:List Value->Shared->Prop}(d:s.heap.IsTuple b a)(e:Q a.toList s):wpAny (model prog w) A (Builtin.Dict.pairItems (.ref b)) Q E s:=by
 obtain ⟨o,c,f,n,g⟩:=d
 unfold Builtin.Dict.pairItems
 refine Lh<|O2 (show s.TypeIs (.ref b) "tuple" from ⟨o,c,f⟩) ?_
 rw [Lv Z1]
 refine Lh ?_
 unfold seqItems?
 refine Lh<|wpAny_load c ?_
 rw [g]
 exact Lz<|Lz e
theorem Ah{items:Array Value}(hA:A.handled=none):∀(b9:List (K×Value)) (i:Nat) (s:Shared) (z:List (K×Value)),items.size=i+b9.length->
  (∀j p,b9[j]?=some p->∃u,items[i+j]?=some u/\wt knd s.heap u p)->s.heap.IsListIter k l i->s.heap.IsList l items->s.heap.DictOf knd d z->z.length+b9.length<=sizeLine->
  (∀C tk,C.DictOf knd d (merged z b9)->(∀b o,b≠d->b≠k->s.heap.get? b=some o->C.get? b=some o)->R (.ok (.ret B)) {s with heap:=C,toks:=tk})->
  codeAny (model prog w) A (.builtin "dict.update.loop" ⟨[.ref d,.ref k,rawInt i,B],[]⟩) R s
 |[],i,s,z,E,hp,h,J,G,hz,hR=>by
  refine Oe F.A5 ?_
  rw [NT F.qB _]
  show wpAny _ A.in1 (pyNext (.ref k)>>=_) _ _ s
  have v:d≠k:=by
   rintro rfl
   obtain ⟨o,f,U,g⟩:=h
   obtain ⟨L,H,I,c,m,a,_⟩:=G
   rw [f] at c;cases c;rw [g] at a;cases a
  refine Lh<|wpAny_pyNext_list_end hA h J (by simp at E⊢;omega) λC ext=>?_
  show wpAny _ A.in1 (Builtin.Dict.addKeywords d []>>=λ_=>ret B) _ _ _
  refine Lh<|Lz<|Lz<|hR C s.toks ?_ λb o _ hb e=>ext b o hb e
  obtain ⟨o,H,I,f,r⟩:=G
  exact ⟨o,H,I,ext _ _ v f,r⟩
 |p::b9,i,s,z,E,hp,h,J,G,hz,hR=>by
  refine Oe F.A5 ?_
  rw [NT F.qB _]
  show wpAny _ A.in1 (pyNext (.ref k)>>=_) _ _ s
  obtain ⟨u,hu,b,kv,rfl,M,hk⟩:=hp 0 p rfl
  have v:d≠k:=by
   rintro rfl
   obtain ⟨o,f,U,g⟩:=h
   obtain ⟨L,H,I,c,m,a,_⟩:=G
   rw [f] at c;cases c;rw [g] at a;cases a
  have ac:l≠k:=by
   rintro rfl
   obtain ⟨o,f,U,g⟩:=h
   obtain ⟨L,c,m,n,a⟩:=J
   rw [f] at c;cases c;rw [g] at a;cases a
  have af:l≠d:=by
   rintro rfl
   obtain ⟨o,H,I,f,U,g,_⟩:=G
   obtain ⟨L,c,m,n,a⟩:=J
   rw [f] at c;cases c;rw [g] at a;cases a
  have N:∀{b:Addr} {xs:Array Value},s.heap.IsTuple b xs->b≠d/\b≠k:=λ{b xs} ht=>by
   obtain ⟨o,f,U,n,g⟩:=ht
   refine ⟨?_,?_⟩
   .rintro rfl
    obtain ⟨L,H,I,c,m,a,_⟩:=G
    rw [f] at c;cases c;rw [g] at a;cases a
   .rintro rfl
    obtain ⟨L,c,m,a⟩:=h
    rw [f] at c;cases c;rw [g] at a;cases a
  refine Lh<|wpAny_pyNext_list_item h J (x:=.ref b) (by simpa using hu) λY O t=>?_
  have aj:Y.IsTuple b #[kv,p.2]:=by
   obtain ⟨o,f,r⟩:=M
   exact ⟨o,(t.2 b (N ⟨o,f,r⟩).2).trans f,r⟩
  have uZ:Y.DictOf knd d z:=by
   obtain ⟨o,H,I,f,r⟩:=G
   exact ⟨o,H,I,(t.2 d v).trans f,r⟩
  refine Lh<|MZ<|Lh<|NU<|GY (s:={s with heap:=Y}) aj ?_
  show wpAny _ A.in1 (holding [kv,p.2]<|dictSet d kv p.2) _ _ _
  refine MZ<|wpAny_dictSet_pairs (s:={s with heap:=Y}) (hsz:=by simp at hz;omega) hk uZ λh2 dr y=>?_
  have Q:h2.IsListIter k l (i+1):=by
   obtain ⟨o,f,r⟩:=O
   exact ⟨o,(y.2 k<|Ml v).trans f,r⟩
  have am:h2.IsList l items:=by
   obtain ⟨o,f,r⟩:=J
   exact ⟨o,(y.2 l af).trans<|(t.2 l ac).trans f,r⟩
  have an:(rawInt i:Value)=rawInt i:=rfl
  refine Lz ⟨Oa F.qB _,?_⟩
  have e1:((i:Int)+1)=((i+1:Nat):Int):=by omega
  rw [e1]
  refine Ah hA b9 (i+1) _ (stored z p.1 p.2) (by simp at E;omega) (λj q hq=>?_) Q am dr ?_ λC tk ao kp=>?_
  .obtain ⟨u',as,b',a0,rfl,T,a1⟩:=hp (j+1) q (by simpa using hq)
   refine ⟨.ref b',by rw [<-as];congr 1;omega,b',a0,rfl,?_,a1⟩
   obtain ⟨n1,n2⟩:=N T
   obtain ⟨o,f,r⟩:=T
   exact ⟨o,(y.2 b' n1).trans<|(t.2 b' n2).trans f,r⟩
  .have:=stored_length_le z p.1 p.2
   simp at hz;omega
  .exact hR C tk ao λb o n1 n2 e=>kp b o n1 n2<|(y.2 b n1).trans<|(t.2 b n2).trans e
end
end PySem
namespace PySem
section
variable {prog:Program}{w:World}{K:Type} [DecidableEq K] {knd:KeyKind prog w K}{A:Around}{E:Value->Shared->Prop}{s:Shared}
def Ij{b9:List (K×Value)}{Q:ZT}(L:A.handled=none)
  (v:s.heap.get? l=some o) (x:o.cls=.type "list") (B:o.dict=none) (d:o.data=.seq a n) (N:a.size=b9.length)
  (O:∀(j:Nat) p,b9[j]?=some p->∃u,a[j]?=some u/\wt knd s.heap u p) (T:b9.length<=sizeLine)
  (h:∀i C,i.DictOf knd s.heap.objs.size (merged [] b9)->(∀b o,s.heap.get? b=some o->i.get? b=some o)->Q (.ref s.heap.objs.size) {s with heap:=i,toks:=C}):
  wpAny (model prog w) A (call (.type "dict") [.ref l]) Q E s:=by
 refine callType_codes (Q₁:=λk g=>k=.ref s.heap.objs.size/\g={s with heap:=s.heap.push {cls:=.type "dict",data:=.dict #[]}}) F.kt_called_dict (F.kt_typeCall_dict_1 _) F.entry_dict_init (kt_code_dict_new _ ⟨rfl,rfl⟩) ?_
 rintro k g ⟨rfl,rfl⟩
 have f:(s.heap.push {cls:=.type "dict",data:=.dict #[]}).DictOf knd s.heap.objs.size []:=Heap.DictOf.new s.heap
 have m:∀b o,s.heap.get? b=some o->(s.heap.push {cls:=.type "dict",data:=.dict #[]}).get? b=some o:=λb o e=>Ln _ e
 generalize U:s.heap.objs.size=D at*
 generalize hH:s.heap.push {cls:=.type "dict",data:=.dict #[]}=M at*
 refine ⟨f.typeIs,F.args_dict_init_2 _ _,?_⟩
 unfold Builtin.«dict.__init__»
 refine Lh ?_
 unfold Builtin.Dict.selfAndRest
 refine Lh<|wpAny_notOrdered_dict f.typeIs ?_
 show wpAny _ _ (pure (D,[Value.ref l])) _ _ _
 refine Lz ?_
 show wpAny _ _ (Builtin.Dict.updateFrom "dict.__init__" D (.ref l) [] .none) _ _ _
 unfold Builtin.Dict.updateFrom
 refine Lh<|O2 (show ({s with heap:=M}:Shared).TypeIs (.ref l) "list" from ⟨o,m _ _ v,x⟩) ?_
 rw [Lv Z1]
 refine Lh<|JW (s:={s with heap:=M}) (m _ _ v) x d B Dv Z1 L λy q z=>?_
 refine Lh<|Oj ?_
 refine Lh<|M7 (s:={s with heap:=y,toks:=q}) (l:=l) (items:=a) ⟨o,z _ _<|m _ _ v,x,n,d⟩ ?_
 have G:∀b c,s.heap.get? b=some c->(y.push {cls:=.type "list_iterator",data:=.fields #[.ref l,.int 0 0]}).get? b=some c:=λb c e=>Ln _<|z b c<|m b c e
 have dr:(y.push {cls:=.type "list_iterator",data:=.fields #[.ref l,.int 0 0]}).DictOf knd D []:=by
  obtain ⟨Y,es,ep,H,r⟩:=f
  exact ⟨Y,es,ep,Ln _<|z _ _ H,r⟩
 refine Lz ⟨Oa F.qB _,?_⟩
 refine Ah (A:=A.in1) (knd:=knd) (l:=l) (items:=a) (R:=wants (λr t=>r=.none/\Q (.ref D) t) E) L b9 0 {s with heap:=y.push {cls:=.type "list_iterator",data:=.fields #[.ref l,.int 0 0]},toks:=q} [] Z4 (λj p hj=>?_) ⟨_,LJ _ rfl,rfl,rfl⟩ ⟨o,G _ _ v,x,n,d⟩ dr (by simpa using T) λi C I kp=>?_
 .obtain ⟨u,hu,b,kv,rfl,⟨c,J,r⟩,hk⟩:=O j p hj
  exact ⟨.ref b,by simpa using hu,b,kv,rfl,⟨c,G _ _ J,r⟩,hk⟩
 .refine ⟨rfl,h i C I λb c e=>kp b c ?_ ?_ (G b c e)⟩
  .exact LY (by rw [<-U];exact LL e)
  .exact LY<|LL<|z b c<|m b c e
end
end PySem
namespace FL
open PySem L2
mutual
def cr:D->D->Bool
 |.int _,.int _=>true
 |.int _,.str _=>true
 |.str _,.int _=>true
 |.str _,.str _=>true
 |.tup a,.tup b=>fO a b
 |.lst a,.lst b=>fO a b
 |_,_=>false
def fO:List D->List D->Bool
 |a::r,b::t=>cr a b&&fO r t
 |_,_=>true
end
mutual
def D.cR:D->Nat
 |.tup l=>D.fc l+1
 |.lst l=>D.fc l+1
 |_=>0
def D.fc:List D->Nat
 |[]=>0
 |a::r=>max (D.cR a) (D.fc r)
end
theorem p7:∀{l:ZZ} {j:Nat} {d:D},l[j]?=some d->d.cR<=D.fc l
 |[],_,_,h=>by simp at h
 |a::r,0,d,h=>by simp at h;subst h;exact Nat.le_max_left _ _
 |a::r,j+1,d,h=>by
  have:=p7 (l:=r) (j:=j) (d:=d) (by simpa using h)
  exact LN this<|Nat.le_max_right _ _
theorem pT:∀{l m:ZZ} {j:Nat} {d e:D},fO l m=true->l[j]?=some d->m[j]?=some e->cr d e=true
 |[],_,_,_,_,_,h,_=>by simp at h
 |_::_,[],_,_,_,_,_,h=>by simp at h
 |a::r,b::t,0,d,e,h,c,f=>by
  simp at c f;subst c;subst f
  rw [fO,Mn] at h
  exact h.1
 |a::r,b::t,j+1,d,e,h,c,f=>by
  rw [fO,Mn] at h
  exact pT (l:=r) (m:=t) (j:=j) h.2 (by simpa using c) (by simpa using f)
def rA {l m:ZZ}:((List.range (min l.length m.length)).all (λj=>decide (l[j]?=m[j]?))&&l.length==m.length)=decide (l=m):=by
 rw [Md,Mn,MO,Oi,Ol]
 constructor
 .rintro ⟨a,c⟩
  refine M8 λj=>?_
  by_cases b:j<min l.length m.length
  .exact LD<|a j<|NY.mpr b
  .rw [Mh Z4,Mh Z4]
 .rintro rfl
  exact ⟨λj _=>by simp,rfl⟩
def ja{P:Program}{w:World}{K:W.Frag}{j:Nat}(r:ba a b)(h:b[j]?=some u):∃x,a[j]?=some x/\RelV x u:=by
 have f:=r.length
 obtain ⟨g,_⟩:=Li.mp h
 have c:a[j]?=some (a[j]'Z4):=Lk Z4
 obtain ⟨i,d,e⟩:=r.get c
 rw [h] at d;cases d
 exact ⟨_,c,e⟩
open SeqAt in
def uz{s:Shared}(ok:cS P w H s.heap)(hG:ab G H):∀(n:Nat) {d e:D} {x y:V} {u z:Value} {A:Around},d.cR<=n->al G x d->al G y e->RelV x u->RelV y z->cr d e=true->A.units+n<cLine->
  EqAt A s u z (decide (d=e)):=by
 intro n
 induction n with
 |zero=>
  intro d e x y u z A T rx v B p g hu
  cases rx with
  |int i=>
   obtain ⟨t,rfl⟩:=B
   cases v with
   |int j=>
    obtain ⟨h,rfl⟩:=p
    have q:decide (D.int i=D.int j)=(i==j):=by rw [Md];simp
    rw [q];exact EqAt.int_int i t j h
   |str j=>
    obtain ⟨h,rfl⟩:=p
    have q:decide (D.int i=D.str j)=false:=by simp
    rw [q];exact EqAt.int_str i t j h
   |_=>exact absurd g (by simp [cr])
  |str i=>
   obtain ⟨t,rfl⟩:=B
   cases v with
   |int j=>
    obtain ⟨h,rfl⟩:=p
    have q:decide (D.str i=D.int j)=false:=by simp
    rw [q];exact EqAt.str_int i t j h
   |str j=>
    obtain ⟨h,rfl⟩:=p
    have q:decide (D.str i=D.str j)=(i==j):=by rw [Md];simp
    rw [q];exact EqAt.str_str i t j h
   |_=>exact absurd g (by simp [cr])
  |aq=>exact absurd g (by simp [cr])
  |bl _=>exact absurd g (by simp [cr])
  |tup _ _=>simp [D.cR] at T
  |lst _ _=>simp [D.cR] at T
 |succ n ih=>
  intro d e x y u z A T rx v B p g hu
  cases rx with
  |int i=>
   obtain ⟨t,rfl⟩:=B
   cases v with
   |int j=>
    obtain ⟨h,rfl⟩:=p
    have q:decide (D.int i=D.int j)=(i==j):=by rw [Md];simp
    rw [q];exact EqAt.int_int i t j h
   |str j=>
    obtain ⟨h,rfl⟩:=p
    have q:decide (D.int i=D.str j)=false:=by simp
    rw [q];exact EqAt.int_str i t j h
   |_=>exact absurd g (by simp [cr])
  |str i=>
   obtain ⟨t,rfl⟩:=B
   cases v with
   |int j=>
    obtain ⟨h,rfl⟩:=p
    have q:decide (D.str i=D.int j)=false:=by simp
    rw [q];exact EqAt.str_int i t j h
   |str j=>
    obtain ⟨h,rfl⟩:=p
    have q:decide (D.str i=D.str j)=(i==j):=by rw [Md];simp
    rw [q];exact EqAt.str_str i t j h
   |_=>exact absurd g (by simp [cr])
  |aq=>exact absurd g (by simp [cr])
  |bl _=>exact absurd g (by simp [cr])
  |@tup a vs l U C=>
   cases B
   cases v with
   |@tup b ws m E I=>
    cases p
    rw [cr] at g
    by_cases o:a=b
    .subst o
     rw [U] at E;cases E
     rw [az.inj C I,LH rfl]
     exact EqAt.same _
    .obtain ⟨_,f,Y,p1⟩:=(show bS P w H s.heap a (.tup vs) from ok a _<|hG _ _ U)
     obtain ⟨_,c,r2,p2⟩:=(show bS P w H s.heap b (.tup ws) from ok b _<|hG _ _ E)
     have n1:f.toArray.size=l.length:=by rw [LF,<-Y.length,C.length]
     have n2:c.toArray.size=m.length:=by rw [LF,<-r2.length,I.length]
     have q:decide (D.tup l=D.tup m)=((List.range<|min f.toArray.size c.toArray.size).all (λj=>decide<|l[j]?=m[j]?)&&f.toArray.size==c.toArray.size):=by
      rw [n1,n2,rA,Md];simp
     rw [q]
     refine EqAt.of_refs o<|RcAt.tuples p1 p2 Z4 λj h1 h2=>?_
     obtain ⟨x',hx,J⟩:=ja (P:=P) (w:=w) (K:=[]) Y (j:=j) (u:=f.toArray[j]) Z8
     obtain ⟨y',hy,L⟩:=ja (P:=P) (w:=w) (K:=[]) r2 (j:=j) (u:=c.toArray[j]) Z8
     obtain ⟨d',k,M⟩:=C.iO hx
     obtain ⟨e',r,N⟩:=I.iO hy
     have q2:decide (l[j]?=m[j]?)=decide (d'=e'):=by rw [k,r,Md];simp
     rw [q2]
     have O:d'.cR<=n:=by
      have:=p7 k
      simp only [D.cR] at T
      omega
     exact ih O M N J L (pT g k r) (by show A.units+1+n<cLine;omega)
   |_=>exact absurd g (by simp [cr])
  |@lst a vs l U C=>
   cases B
   cases v with
   |@lst b ws m E I=>
    cases p
    rw [cr] at g
    by_cases o:a=b
    .subst o
     rw [U] at E;cases E
     rw [az.inj C I,LH rfl]
     exact EqAt.same _
    .obtain ⟨_,f,k1,Y,p1⟩:=(show bS P w H s.heap a (.lst vs) from ok a _<|hG _ _ U)
     obtain ⟨_,c,k2,r2,p2⟩:=(show bS P w H s.heap b (.lst ws) from ok b _<|hG _ _ E)
     have n1:f.toArray.size=l.length:=by rw [LF,<-Y.length,C.length]
     have n2:c.toArray.size=m.length:=by rw [LF,<-r2.length,I.length]
     by_cases Q:l.length=m.length
     .have q:decide (D.lst l=D.lst m)=((List.range f.toArray.size).all λj=>decide<|l[j]?=m[j]?):=by
       have:=rA (l:=l) (m:=m)
       rw [n1]
       have e1:min l.length m.length=l.length:=by omega
       rw [e1] at this
       have e2:(l.length==m.length)=true:=by simpa using Q
       rw [e2,OK] at this
       rw [this,Md];simp
      rw [q]
      refine EqAt.of_refs o<|RcAt.lists ⟨_,p1,rfl,_,rfl⟩ ⟨_,p2,rfl,_,rfl⟩ Z4 Z4 λj h1 h2=>?_
      obtain ⟨x',hx,J⟩:=ja (P:=P) (w:=w) (K:=[]) Y (j:=j) (u:=f.toArray[j]) Z8
      obtain ⟨y',hy,L⟩:=ja (P:=P) (w:=w) (K:=[]) r2 (j:=j) (u:=c.toArray[j]) Z8
      obtain ⟨d',k,M⟩:=C.iO hx
      obtain ⟨e',r,N⟩:=I.iO hy
      have q2:decide (l[j]?=m[j]?)=decide (d'=e'):=by rw [k,r,Md];simp
      rw [q2]
      have O:d'.cR<=n:=by
       have:=p7 k
       simp only [D.cR] at T
       omega
      exact ih O M N J L (pT g k r) (by show A.units+1+n<cLine;omega)
     .have q:decide (D.lst l=D.lst m)=false:=by
       rw [PB]
       intro z;cases z;exact Q rfl
      rw [q]
      exact EqAt.of_refs o<|RcAt.lists_lengths ⟨_,p1,rfl,_,rfl⟩ ⟨_,p2,rfl,_,rfl⟩ (by rw [n1,n2];simpa using Q) Z4
   |_=>exact absurd g (by simp [cr])
section
variable {X:Cx}
open SeqAt
def Bn (x y:V)(H:Hp)(d e:D):Prop:=∃M,al (but H M) x d/\al (but H M) y e/\cr d e=true/\d.cR<=40
def su:R2:=λx y H Q=>∃d e,Bn x y H d e/\Q (.bl (decide (d=e))) H
def oI:R2:=λx y H Q=>∃d e,Bn x y H d e/\Q (.bl (!decide (d=e))) H
def Le{A:Around}(I:Inv X f p H s)(r:al (but H M) (.ref a) d)(y:cr d d=true)(z:d.cR<=40)(B:A.units+50<cLine):
  (∃b n,s.heap.IsTuple a b/\RcAt A s (.ref a) (.ref a) true/\RcNeAt A s (.ref a) (.ref a) false/\n=b.size)\/(∃b n,s.heap.IsList a b/\RcAt A s (.ref a) (.ref a) true/\RcNeAt A s (.ref a) (.ref a) false/\n=b.size):=by
 have q:A.in1.units+45<cLine:=by show A.units+1+45<cLine;omega
 cases r with
 |@tup _ k l m t=>
  left
  obtain ⟨_,b,u,e⟩:=(show bS X.prog X.w H s.heap a (.tup k) from I.ay a _ (aw m).2)
  have g:∀j (v:j<b.toArray.size) (x:j<b.toArray.size),EqAt A.in1 s b.toArray[j] b.toArray[j] ((λ_=>true) j):=λj _ _=>EqAt.same _
  have h:=RcAt.tuples e e Z4 g
  have i:=RcNeAt.tuples e e Z4 g
  have o:((List.range<|min b.toArray.size b.toArray.size).all (λ_=>true)&&b.toArray.size==b.toArray.size)=true:=by simp
  rw [o] at h i
  exact ⟨_,_,e,h,i,rfl⟩
 |@lst _ k l m t=>
  right
  obtain ⟨_,b,C,u,e⟩:=(show bS X.prog X.w H s.heap a (.lst k) from I.ay a _ (aw m).2)
  have g:∀j (v:j<b.toArray.size) (x:j<b.toArray.size),EqAt A.in1 s b.toArray[j] b.toArray[j] ((λ_=>true) j):=λj _ _=>EqAt.same _
  have c:s.heap.IsList a b.toArray:=⟨_,e,rfl,_,rfl⟩
  have h:=RcAt.lists c c rfl Z4 g
  have i:=RcNeAt.lists c c rfl Z4 g
  have o:((List.range b.toArray.size).all λ_=>true)=true:=by simp
  rw [o] at h i
  exact ⟨_,_,c,h,i,rfl⟩
def Bf{A:Around}(I:Inv X C σ H s)(p:al (but H M) (.ref a) d)(o:al (but H M) (.ref b) e)(B:cr d e=true)(hd:d.cR<=40)(hu:A.units+50<cLine):
  RcAt A s (.ref a) (.ref b) (decide (d=e))/\RcNeAt A s (.ref a) (.ref b) (!decide (d=e)):=by
 have ac:A.in1.units+45<cLine:=by show A.units+1+45<cLine;omega
 cases p with
 |@tup _ U l Y p=>
  cases o with
  |@tup _ ws m hb o=>
   rw [cr] at B
   obtain ⟨_,f,E,O⟩:=(show bS X.prog X.w H s.heap a (.tup U) from I.ay a _ (aw Y).2)
   obtain ⟨_,c,G,Q⟩:=(show bS X.prog X.w H s.heap b (.tup ws) from I.ay b _ (aw hb).2)
   have J:f.toArray.size=l.length:=by rw [LF,<-E.length,p.length]
   have T:c.toArray.size=m.length:=by rw [LF,<-G.length,o.length]
   have q:decide (D.tup l=D.tup m)=((List.range<|min f.toArray.size c.toArray.size).all (λj=>decide<|l[j]?=m[j]?)&&f.toArray.size==c.toArray.size):=by
    rw [J,T,rA,Md];simp
   have L:∀j (h1:j<f.toArray.size) (h2:j<c.toArray.size),EqAt A.in1 s f.toArray[j] c.toArray[j] ((λj=>decide<|l[j]?=m[j]?) j):=λj h1 h2=>by
    obtain ⟨x',hx,r⟩:=ja (P:=X.prog) (w:=X.w) (K:=X.K) E (j:=j) (u:=f.toArray[j]) Z8
    obtain ⟨y',hy,t⟩:=ja (P:=X.prog) (w:=X.w) (K:=X.K) G (j:=j) (u:=c.toArray[j]) Z8
    obtain ⟨N,g,v⟩:=p.iO hx
    obtain ⟨e',h,x⟩:=o.iO hy
    have q2:decide (l[j]?=m[j]?)=decide (N=e'):=by rw [g,h,Md];simp
    show EqAt A.in1 s _ _<|decide<|l[j]?=m[j]?
    rw [q2]
    have y:N.cR<=40:=by
     have:=p7 g
     simp only [D.cR] at hd
     omega
    exact uz I.ay (tN H M) 40 y v x r t (pT B g h) Z4
   rw [q]
   exact ⟨RcAt.tuples O Q Z4 L,RcNeAt.tuples O Q Z4 L⟩
  |_=>exact absurd B (by simp [cr])
 |@lst _ U l Y p=>
  cases o with
  |@lst _ ws m hb o=>
   rw [cr] at B
   obtain ⟨_,f,k1,E,O⟩:=(show bS X.prog X.w H s.heap a (.lst U) from I.ay a _ (aw Y).2)
   obtain ⟨_,c,k2,G,Q⟩:=(show bS X.prog X.w H s.heap b (.lst ws) from I.ay b _ (aw hb).2)
   have i:s.heap.IsList a f.toArray:=⟨_,O,rfl,_,rfl⟩
   have k:s.heap.IsList b c.toArray:=⟨_,Q,rfl,_,rfl⟩
   have J:f.toArray.size=l.length:=by rw [LF,<-E.length,p.length]
   have T:c.toArray.size=m.length:=by rw [LF,<-G.length,o.length]
   by_cases n:l.length=m.length
   .have q:decide (D.lst l=D.lst m)=((List.range f.toArray.size).all λj=>decide<|l[j]?=m[j]?):=by
     have:=rA (l:=l) (m:=m)
     rw [J]
     have e1:min l.length m.length=l.length:=by omega
     rw [e1] at this
     have e2:(l.length==m.length)=true:=by simpa using n
     rw [e2,OK] at this
     rw [this,Md];simp
    have L:∀j (h1:j<f.toArray.size) (h2:j<c.toArray.size),EqAt A.in1 s f.toArray[j] c.toArray[j] ((λj=>decide<|l[j]?=m[j]?) j):=λj h1 h2=>by
     obtain ⟨x',hx,r⟩:=ja (P:=X.prog) (w:=X.w) (K:=X.K) E (j:=j) (u:=f.toArray[j]) Z8
     obtain ⟨y',hy,t⟩:=ja (P:=X.prog) (w:=X.w) (K:=X.K) G (j:=j) (u:=c.toArray[j]) Z8
     obtain ⟨N,g,v⟩:=p.iO hx
     obtain ⟨e',h,x⟩:=o.iO hy
     have q2:decide (l[j]?=m[j]?)=decide (N=e'):=by rw [g,h,Md];simp
     show EqAt A.in1 s _ _<|decide<|l[j]?=m[j]?
     rw [q2]
     have y:N.cR<=40:=by
      have:=p7 g
      simp only [D.cR] at hd
      omega
     exact uz I.ay (tN H M) 40 y v x r t (pT B g h) Z4
    rw [q]
    exact ⟨RcAt.lists i k Z4 Z4 L,RcNeAt.lists i k Z4 Z4 L⟩
   .have q:decide (D.lst l=D.lst m)=false:=by
     rw [PB]
     intro z;cases z;exact n rfl
    rw [q]
    exact ⟨RcAt.lists_lengths i k (by rw [J,T];simpa using n) Z4,RcNeAt.lists_lengths i k (by rw [J,T];simpa using n) Z4⟩
  |_=>exact absurd B (by simp [cr])
def zt(g:al G x d)(f:al G y e)(c:cr d e=true):(d.sc=true/\e.sc=true)\/∃a b,x=.ref a/\y=.ref b:=by
 cases g with
 |int i=>cases f<;>first|exact .inl ⟨rfl,rfl⟩|exact absurd c (by simp [cr])
 |str i=>cases f<;>first|exact .inl ⟨rfl,rfl⟩|exact absurd c (by simp [cr])
 |tup _ _=>cases f<;>first|exact .inr ⟨_,_,rfl,rfl⟩|exact absurd c (by simp [cr])
 |lst _ _=>cases f<;>first|exact .inr ⟨_,_,rfl,rfl⟩|exact absurd c (by simp [cr])
 |_=>exact absurd c (by simp [cr])
def Dz (l:X.A.units+50<cLine):cH X (compareOp .Eq) su:=by
 intro c s m H x y v u Q I i j h
 obtain ⟨d,e,⟨M,f,g,k,n⟩,q⟩:=h
 rcases zt f g k with ⟨o,p⟩|⟨a,b,rfl,rfl⟩
 .obtain ⟨r,t⟩:=yz f g o p
  rw [<-t] at q
  exact yF c s m H x y v u Q I i j ⟨r,q⟩
 .cases i;cases j
  exact (Bf I f g k n l).1 _ _ _ _ ⟨.bl _,H,I,rfl,q⟩
def CV (l:X.A.units+50<cLine):cH X (compareOp .NotEq) oI:=by
 intro c s m H x y v u Q I i j h
 obtain ⟨d,e,⟨M,f,g,k,n⟩,q⟩:=h
 rcases zt f g k with ⟨o,p⟩|⟨a,b,rfl,rfl⟩
 .obtain ⟨r,t⟩:=yz f g o p
  rw [<-t] at q
  exact zj c s m H x y v u Q I i j ⟨r,q⟩
 .cases i;cases j
  exact (Bf I f g k n l).2 _ _ _ _ ⟨.bl _,H,I,rfl,q⟩
def rQ (neg:Bool):R2:=λx y H Q=>∃M d es,al (but H M) x d/\(al (but H M) y (.lst es)\/al (but H M) y (.tup es))/\(∀e∈es,cr e d=true/\e.cR<=40)/\Q (.bl (if neg then !decide (d∈es) else decide (d∈es))) H
def sE{A:Around}(I:Inv X k T H s)(U:al (but H M) x d)(Y:RelV x u)(o:az (but H M) Q n)(p:ba Q a)(c:∀e∈n,cr e d=true/\e.cR<=40)(hu:A.units+50<cLine):
  ∃f:Value->Bool,(∀y,y∈a.toArray->EqAt A.in1 s y u (f y))/\a.toArray.any f=decide (d∈n):=by
 classical
 refine ⟨λy=>decide (∃v e,RelV v y/\al (but H M) v e/\e=d),λy r=>?_,?_⟩
 .have C:y∈a:=by simpa using r
  obtain ⟨j,t,E⟩:=List.getElem_of_mem C
  obtain ⟨v,l,b⟩:=ja (P:=X.prog) (w:=X.w) (K:=X.K) p (j:=j) (u:=y) (by rw [Lk t,E])
  obtain ⟨e,G,g⟩:=o.iO l
  have B:e∈n:=Lp G
  have q:decide (∃v e,RelV v y/\al (but H M) v e/\e=d)=decide (e=d):=by
   rw [Md,Ol,Ol]
   constructor
   .rintro ⟨v',e',J,L,N⟩
    rw [b.inj J] at g
    rw [al.inj g L];exact N
   .intro z;exact ⟨v,e,b,g,z⟩
  show EqAt A.in1 s y u<|decide (∃v e,RelV v y/\al (but H M) v e/\e=d)
  rw [q]
  exact uz I.ay (tN H M) 40 (c e B).2 g U b Y (c e B).1 (by show A.units+1+40<cLine;omega)
 .rw [Md,Array.any_eq_true,Ol]
  constructor
  .rintro ⟨j,t,h⟩
   obtain ⟨v',e',J,L,N⟩:=LD h
   obtain ⟨v,l,b⟩:=ja (P:=X.prog) (w:=X.w) (K:=X.K) p (j:=j) (u:=a.toArray[j]) Z8
   obtain ⟨e,G,g⟩:=o.iO l
   rw [b.inj J] at g
   rw [<-N,<-al.inj g L]
   exact Lp G
  .intro B
   obtain ⟨j,t,O⟩:=List.getElem_of_mem B
   have hl:=o.length
   have ac:=p.length
   obtain ⟨v,l,b⟩:=o.get (i:=j) (d:=d) (by rw [Lk t,O])
   obtain ⟨y,r,ry⟩:=p.get l
   have m:j<a.toArray.size:=by simp;omega
   refine ⟨j,m,LH ⟨v,d,?_,b,rfl⟩⟩
   have:a.toArray[j]=y:=by
    rw [Lk (by simpa using m)] at r
    simpa using r
   rw [this];exact ry
def Gz (o:X.A.units+50<cLine):cH X (compareOp .In) (rQ false):=by
 intro r s C H x y v u Q I t z h
 obtain ⟨M,d,E,B,c,b,q⟩:=h
 rcases c with c|c
 .obtain ⟨a,e,rfl,g,i⟩:=c.dI
  cases z
  obtain ⟨_,j,n,k,p⟩:=(show bS X.prog X.w H s.heap a (.lst e) from I.ay a _ (aw g).2)
  obtain ⟨f,l,m⟩:=sE I B t i k b o
  refine in_listAt f ⟨_,p,rfl,_,rfl⟩ l ?_
  rw [m]
  exact ⟨.bl _,H,I,rfl,q⟩
 .obtain ⟨a,e,rfl,g,i⟩:=c.eP
  cases z
  obtain ⟨_,j,k,p⟩:=(show bS X.prog X.w H s.heap a (.tup e) from I.ay a _ (aw g).2)
  obtain ⟨f,l,m⟩:=sE I B t i k b o
  refine in_tupleAt f p l ?_
  rw [m]
  exact ⟨.bl _,H,I,rfl,q⟩
def wG (o:X.A.units+50<cLine):cH X (compareOp .NotIn) (rQ true):=by
 intro r s C H x y v u Q I t z h
 obtain ⟨M,d,E,B,c,b,q⟩:=h
 rcases c with c|c
 .obtain ⟨a,e,rfl,g,i⟩:=c.dI
  cases z
  obtain ⟨_,j,n,k,p⟩:=(show bS X.prog X.w H s.heap a (.lst e) from I.ay a _ (aw g).2)
  obtain ⟨f,l,m⟩:=sE I B t i k b o
  refine notIn_listAt f ⟨_,p,rfl,_,rfl⟩ l ?_
  rw [m]
  exact ⟨.bl _,H,I,rfl,q⟩
 .obtain ⟨a,e,rfl,g,i⟩:=c.eP
  cases z
  obtain ⟨_,j,k,p⟩:=(show bS X.prog X.w H s.heap a (.tup e) from I.ay a _ (aw g).2)
  obtain ⟨f,l,m⟩:=sE I B t i k b o
  refine notIn_tupleAt f p l ?_
  rw [m]
  exact ⟨.bl _,H,I,rfl,q⟩
def Pairs (K:PySem.W.Frag)(H:Hp):List V->List (aJ×V)->Prop:=Paired λv kv=>∃b,v=.ref b/\br K H b [kV kv.1,kv.2]
theorem pairs_at(I:Inv X a l H s):∀{i:List V} {c:List (aJ×V)} {d:List Value},Pairs X.K H i c->ba i d->
  ∃b9:List (aJ×Value),KV c b9/\∀(j:Nat) (p:aJ×Value),b9[j]?=some p->∃u,d.toArray[j]?=some u/\wt (dq X.prog X.w) s.heap u p
 |_,_,_,.nil,.nil=>⟨[],.nil,λj p h=>by simp at h⟩
 |_,_,_,.cons (b:=m) ⟨b,n,o⟩ t,.cons (b:=u) r q=>by
  subst n
  obtain rfl:u=Value.ref b:=r
  obtain ⟨b9,v,x⟩:=pairs_at I t q
  obtain ⟨k,y,p,_⟩:=I.tuple o
  obtain ⟨z,A,rfl,B,C⟩:=ba.two y
  refine ⟨(m.1,A)::b9,.cons ⟨rfl,C⟩ v,λj E e=>?_⟩
  cases j with
  |zero=>
   simp at e;subst e
   exact ⟨.ref b,by simp,b,z,rfl,p,jZ B⟩
  |succ j=>
   obtain ⟨G,f,g⟩:=x j E (by simpa using e)
   exact ⟨G,by simpa using f,g⟩
def FQ (x:X.calm=true):iM X (.type "dict") (λj H Q=>∃a d b,j=[.ref a]/\aQ X.K H a d/\Pairs X.K H d b/\∀p,H p=none->Q (.ref p) (upd H p (.dK (cb [] b)))):=by
 intro k s N H j O Q I r h
 obtain ⟨a,d,b,rfl,y,l,q⟩:=h
 obtain ⟨u,rfl,z⟩:=Pu r
 cases z
 obtain ⟨A,m,⟨o,n,B,e,f,c⟩,T⟩:=I.list y
 obtain ⟨b9,t,C⟩:=pairs_at I l m
 have v:b.length=b9.length:=Ng t
 have E:d.length=b.length:=Ng l
 have G:=m.length
 refine Ij (knd:=dq X.prog X.w) (I.ok.hd x) B e f c (by simp;omega) C Z4 λU J g L=>?_
 have M:=KV.merge (kvs:=[]) (vs:=[]) t .nil
 have i:=vy b []
 refine ⟨.ref s.heap.objs.size,_,I.laid (a:=s.heap.objs.size) (o:=.dK<|cb [] b) (t':=J) L (Lo _)<|tX (by simp at i;omega) (Mz.mpr<|Ml<|LY I.qr) M g,rfl,q _<|I.ay.fresh<|Lo _⟩
end
end FL
namespace FL
open PySem L2
def Walk (wi:TI)(G:Hp)(σ:St)(ds:List D):Prop:=∀M H,ab G (but H M)->ap M H->∀R:It->Hp->Prop,
 (∀J H1,ab H H1->(∀(j:Nat) d M' H',ds[j]?=some d->ab (but H1 M) (but H' M')->ap M' H'->J.go j H'/\∀x H'',J.nl j H' x H''->ab H' H''/\al (but H'' M') x d)->(∀M' H',ab (but H1 M) (but H' M')->J.stop ds.length H')->R J H1)->wi σ H R
section
variable {G:Hp}{σ:St}{ta tb tl te:TE}{tt:TT}{t:TA}{d:D}{ds:List D}{K:PySem.W.Frag}{wi:TI}
def Bm (h:ae tl G σ (.lst ds)):Walk (jT K tl) G σ ds:=λM H s l R k=>h M H s l _ λx o p q=>by
 obtain ⟨a,b,rfl,g,i⟩:=q.dI
 refine ⟨a,rfl,⟨b,aQ.of (aw g).2⟩,k _ o p (λj d r u w c C=>?_) λr u c=>?_⟩
 .have f:=(aw<|c _ _ g).2
  obtain ⟨v,m,y⟩:=i.get w
  refine ⟨⟨b,v,aQ.of f,m⟩,λx z A=>?_⟩
  obtain ⟨e,B⟩:=A
  subst e
  have n:=B b<|aQ.of f
  rw [m] at n;cases n
  exact ⟨ab.refl _,y.mono c⟩
 .have f:=(aw<|c _ _ g).2
  exact ⟨b,aQ.of f,by rw [i.length];exact Lo _⟩
def JL (h:ae tl G σ (.tup ds)):Walk (mh K tl) G σ ds:=λM H s l R k=>h M H s l _ λx o p q=>by
 obtain ⟨a,b,rfl,g,i⟩:=q.eP
 refine ⟨a,rfl,⟨b,br.of (aw g).2⟩,k _ o p (λj d r u w c C=>?_) λr u c=>?_⟩
 .have f:=(aw<|c _ _ g).2
  obtain ⟨v,m,y⟩:=i.get w
  refine ⟨⟨b,v,br.of f,m⟩,λx z A=>?_⟩
  obtain ⟨e,B⟩:=A
  subst e
  have n:=B b<|br.of f
  rw [m] at n;cases n
  exact ⟨ab.refl _,y.mono c⟩
 .have f:=(aw<|c _ _ g).2
  exact ⟨b,br.of f,by rw [i.length];exact Lo _⟩
def oF (lo:Int)(n j:Nat)(d:D)(h:((List.range n).map λ(k:Nat)=>D.int (lo+k))[j]?=some d):j<n/\d=.int (lo+j):=by
 rw [LA] at h
 cases e:(List.range n)[j]? with
 |none=>rw [e] at h;cases h
 |some q=>
  rw [e] at h
  obtain ⟨a,b⟩:=Li.mp e
  simp at a b
  subst b
  exact ⟨a,(LB h).symm⟩
def yK {n:Nat}(u:n<2^62)(h:dO t G σ [.int n]):Walk (uN t) G σ ((List.range n).map λ(k:Nat)=>D.int (0+k)):=λM H s l R k=>h M H s l _ λv a b c=>by
 obtain ⟨x,rfl,f⟩:=iR c
 refine ⟨(n:Int),by rw [f.dL],by omega,by omega,?_⟩
 refine k _ a b (λj d g i m o w=>?_) λg i o=>?_
 .obtain ⟨y,rfl⟩:=oF 0 n j d m
  refine ⟨by show j<((n:Int)).toNat;omega,λx p q=>?_⟩
  obtain ⟨e,r⟩:=q
  subst e;subst r
  exact ⟨ab.refl _,.int _⟩
 .show ((n:Int)).toNat<=_
  simp
def gX{H:Hp}{D:Addr}(h:H D=none)(s:ab H c):ab (but H M) (but c (D::M)):=λb o e=>by
 obtain ⟨f,a⟩:=aw e
 rw [bf]
 .exact s b o a
 .intro z
  rcases Lw.mp z with rfl|z
  .rw [h] at a;cases a
  .exact f z
def gk{caps:St->St}{p:D->Bool}{f:D->D}(hw:Walk wi G σ ds)
  (ht:∀z v d,ab G z->d∈ds->al z v d->bJ tt z ((caps σ).set i (some v)) (p d))
  (he:∀z v d,ab G z->d∈ds->p d=true->al z v d->ae te z ((caps σ).set i (some v)) (f d)) (hz:ds.length<sizeLine):
  ae (gH wi caps (cf i) tt te) G σ (.lst ((ds.filter p).map f)):=λM H s l Q k=>hw M H s l _ λJ N O U A D T=>by
 have lf:D∉M:=(l.same O).fresh T
 have Y:ab G (but N M):=s.trans<|O.but M
 refine ⟨λj m τ q=>m=ds.length-j/\j<=ds.length/\(∀v,τ.set i (some v)=(caps σ).set i (some v))/\ab N q/\∃n,q D=some (.lst n)/\az (but q (D::M)) n (((ds.take j).filter p).map f),
  ⟨ds.length,by simp,LP _,λ_=>rfl,c8 T _,[],aN,by simpa using az.nil⟩,?_⟩
 rintro j m τ q ⟨rfl,hj,ac,C,n,r,E⟩
 have hs:ab (but N M) (but q (D::M)):=gX T C
 have hl:ap (D::M) q:=((l.same O).same C).cons r
 by_cases B:j<ds.length
 .have hd:ds[j]?=some ds[j]:=Lk B
  obtain ⟨go,gy⟩:=U j _ (D::M) q hd hs hl
  refine .inr ⟨go,λI g=>(∀v,I.set i (some v)=(caps σ).set i (some v))/\ab N g/\∃n,g D=some (.lst n)/\az (but g (D::M)) n (((ds.take<|j+1).filter p).map f),
   λI g q0=>by obtain ⟨a,b,c⟩:=q0;exact ⟨ds.length-(j+1),by omega,rfl,B,a,b,c⟩,λx g hy=>?_⟩
  obtain ⟨w,rx⟩:=gy x g hy
  have hm:ds[j]∈ds:=NE B
  have sG:ab G (but g (D::M)):=Y.trans<|hs.trans<|w.but _
  have L:=hl.same w
  show tt (τ.set i<|some x) g _
  rw [ac x]
  have tk:(ds.take<|j+1).filter p=(ds.take j).filter p++(if p ds[j]=true then [ds[j]] else []):=by
   rw [L0,hd,MD]
   congr 1
   by_cases y:p ds[j]=true
   .simp [y]
   .simp [y]
  refine ht _ x _ sG hm rx (D::M) g (ab.refl _) L _ λH4 u=>?_
  have h:∀v,((caps σ).set i<|some x).set i (some v)=(caps σ).set i (some v):=λv=>by rw [P8]
  by_cases y:p ds[j]=true
  .rw [Lv y]
   refine he _ x _ (sG.trans<|u.but _) hm y (rx.mono<|u.but _) (D::M) H4 (ab.refl _) (L.same u) _ λv H5 s5 r5=>?_
   have af:H5 D=some (.lst n):=s5 _ _<|u _ _<|w _ _ r
   have aj:=E.length
   have am:(((ds.take j).filter p).map f).length<=j:=by
    rw [Ll]
    have:=LZ p<|ds.take j
    rw [L9] at this
    omega
   refine ⟨n,af,by omega,h,?_,n++[v],aN,?_⟩
   .intro b o e
    rw [aA<|cU e T]
    exact s5 _ _<|u _ _<|w _ _<|C _ _ e
   .rw [dw Lj,tk,Lv y,LU]
    exact (E.mono<|((w.trans u).trans s5).but _).snoc r5
  .rw [Lq y]
   refine ⟨h,C.trans<|w.trans u,n,u _ _<|w _ _ r,?_⟩
   rw [tk,Lq y,LV]
   exact E.mono<|(w.trans u).but _
 .have e:j=ds.length:=by omega
  subst e
  refine .inl ⟨A (D::M) q hs,k _ q (O.trans C)<|lS lf r ?_⟩
  rw [LS<|Lo _] at E
  exact E
def Je {xs:List V}(k:Nat):gG xs (some (k:Int)) none=xs.drop k:=by
 unfold gG
 rw [HT.p8,HT.zc]
 by_cases h:k<=xs.length
 .rw [OT h,LS Z8]
 .rw [OI Z4,NJ (Lo _),NJ Z4,Qa]
def A7 {xs:List V}(k:Nat):gG xs none (some (k:Int))=xs.take k:=by
 unfold gG
 rw [HT.p8,HT.zc,List.drop_zero,Qd]
 by_cases h:k<=xs.length
 .rw [OT h]
 .rw [OI Z4,LS (Lo _),LS Z4]
def qH {k:Nat}{l:ZZ}(hk:0<k)(hl:0<l.length)(ha:ae ta G σ (.tup l)):ae (rH (Aw K) ta (pK (tC (.int (k:Int)))) w8) G σ (.tup (l.drop k)):=
 λM H s lv Q q=>ha M H s lv _ λx H1 s1 rx=>⟨(k:Int),rfl,by
  obtain ⟨a,vs,rfl,h1,h2⟩:=rx.eP
  refine ⟨a,vs,rfl,br.of (aw h1).2,?_,λp hp=>?_⟩
  .rw [HT.p8]
   have:=h2.length
   omega
  .rw [Je]
   exact q _ _ (s1.trans (c8 hp _)) (mU (lv.same s1) hp (h2.drop k))⟩
def Jg {b:ZZ}(a:∀e∈b,cr e d=true/\e.cR<=40)(c:ae ta G σ d)(f:ae tb G σ (.tup b)):ae (bZ (rQ false) ta tb) G σ (.bl (decide (d∈b))):=
 jR (λM H x y l g h Q k=>⟨M,d,b,g,.inr h,a,k _ H (ab.refl _) (.bl _)⟩) c f
def xo {es:ZZ}(a:∀e∈es,cr e d=true/\e.cR<=40)(b:ae ta G σ d)(c:ae tb G σ (.lst es)):ae (bZ (rQ true) ta tb) G σ (.bl (!decide (d∈es))):=
 jR (λM H x y l f g Q k=>⟨M,d,es,f,.inl g,a,k _ H (ab.refl _) (.bl _)⟩) b c
end
def gK{g:TG}{E:Ends}(z:Walk t (but H M) r ds)(l:ap M H)
  (k:∀i,ab H i->∃Pv:Nat->St->Hp->Prop,Pv 0 r i/\(∀j a b,Pv j a b->ab (but i M) (but b M)/\ap M b)/\
   (∀(j:Nat) d x a b c,ds[j]?=some d->Pv j a b->ab b c->al (but c M) x d->g x a c λn v=>u {E with nx:=Pv (j+1),ct:=Pv (j+1),bk:=E.nx} n v)/\∀a b,Pv ds.length a b->E.nx a b):
  lK t g u E r H:=z M H (ab.refl _) l _ λJ i A s f=>by
 obtain ⟨Pv,B,C,h,o⟩:=k i A
 refine ⟨λj m a b=>m=ds.length-j/\j<=ds.length/\Pv j a b,⟨ds.length,by simp,LP _,B⟩,?_⟩
 rintro j m a b ⟨rfl,U,p⟩
 obtain ⟨w,G⟩:=C j a b p
 by_cases q:j<ds.length
 .have y:ds[j]?=some ds[j]:=Lk q
  obtain ⟨I,L⟩:=s j _ M b y w G
  refine .inr ⟨I,Pv<|j+1,λn v N=>⟨ds.length-(j+1),by omega,rfl,q,N⟩,λx c O=>?_⟩
  obtain ⟨Q,T⟩:=L x c O
  exact h j _ x a b c y p Q T
 .have e:j=ds.length:=by omega
  subst e
  exact .inl ⟨f M b w,o a b p⟩
def a5 (idx:List Nat)(k:Nat):St->St:=λσ=>idx.map (λj=>(σ[j]?).join)++List.replicate k none
def mY (N N':List Str)(names:List (Str×NameKind)):List Nat->Nat->Bool
 |[],_=>true
 |j::r,i=>(match N'[i]?,N[j]? with|some x,some y=>decide (x=y)&&(names.lookup x==some .free)|_,_=>false)&&mY N N' names r (i+1)
theorem BB:∀{c:List Nat} {d:Nat},mY N f a c d=true->∀(i j:Nat),c[i]?=some j->∃x,f[d+i]?=some x/\N[j]?=some x/\a.lookup x=some .free
 |[],_,_,i,j,h=>by simp at h
 |q::r,d,g,i,j,h=>by
  rw [mY,Mn] at g
  cases i with
  |zero=>
   simp at h;subst h
   have b:=g.1
   cases e:f[d]? with
   |none=>rw [e] at b;cases b
   |some x=>
    cases l:N[q]? with
    |none=>rw [e,l] at b;cases b
    |some y=>
     rw [e,l] at b
     simp only [Mn,NR,Oi] at b
     obtain ⟨rfl,k⟩:=b
     exact ⟨x,by simpa using e,rfl,k⟩
  |succ i=>
   obtain ⟨x,b,k,m⟩:=BB g.2 i j (by simpa using h)
   exact ⟨x,by rw [<-b];congr 1;omega,k,m⟩
def zZ{f:ZY}{a:List Nat}(m:f.length=a.length+k)(n:mY N f b a 0=true):∀d:St,d.length=N.length->
  (a5 a k d).length=f.length/\∀(i:Nat) (x:Str) (v:V),f[i]?=some x->(a5 a k d)[i]?=some (some v)->b.lookup x=some .free/\∃j:Nat,N[j]?=some x/\d[j]?=some (some v):=by
 intro d o
 refine ⟨by simp [a5,m],λi x v p c=>?_⟩
 unfold a5 at c
 by_cases g:i<a.length
 .rw [LO (by simpa using g),LA,Lk g] at c
  obtain ⟨y,h,l,q⟩:=BB n i a[i]<|Lk g
  rw [N0,p] at h
  cases h
  refine ⟨q,a[i],l,?_⟩
  simp only [Od,Option.some.injEq] at c
  cases e:d[a[i]]? with
  |none=>rw [e] at c;cases c
  |some w=>rw [e] at c;simp at c;rw [c]
 .rw [LQ (by simpa using g)] at c
  obtain ⟨h,l⟩:=Li.mp c
  simp at l
def sX (esc:Scope)(scope:Scope):Bool:=
 (scope.names.all λy=>decide (y.2≠.cell))&&(scope.names.all λy=> !(y.2==.local)||(scope.names.lookup y.1==some .local))&&(scope.names.all λy=> !(y.2==.free)||(esc.names.lookup y.1==some .cell)||(esc.names.lookup y.1==some .free))
def AY(h:sX b a=true):(∀y∈a.names,y.2≠.cell)/\(∀y∈a.names,y.2=.local->a.names.lookup y.1=some .local)/\
  ∀n,(n,NameKind.free)∈a.names->b.names.lookup n=some .cell\/b.names.lookup n=some .free:=by
 rw [sX,Mn,Mn,MO,MO,MO] at h
 obtain ⟨⟨d,f⟩,g⟩:=h
 refine ⟨λy c=>LD<|d y c,λy c e=>?_,λn i=>?_⟩
 .have:=f y c
  rw [e] at this
  simpa using this
 .have:=g _ i
  simpa using this
section
variable {X:Cx}{tg iter elt:Expr}{ifs:List Expr}{scope:Scope}{pos:Pos}{wi:TI}{g:TG}{tt:TT}{te:TE}
def fh (c:ZY)(a:List Nat)(k:Nat)(m:PI X tg iter wi)(n:∀d C e s H,PG (bv X c scope d C e s H) tg g)(f:∀d C e s H,lM (bv X c scope d C e s H) ifs tt)(i:∀d C e s H,PE (bv X c scope d C e s H) elt te)
  (o:X.calm=true:=by rfl) (b:scope.kind=.function:=by rfl) (j:sX X.env.scope scope=true:=by rfl) (p:c.length=a.length+k:=by rfl) (l:mY X.N c scope.names a 0=true:=by rfl)
  (q:∀x,foldedSetIterable iter X.env x=pure x:=by intro _;rfl):PE X (.ListComp elt [⟨tg,iter,ifs,0⟩] scope pos) (gH wi (a5 a k) g tt te):=
 let h:=AY j
 Kf o b h.1 h.2.1 h.2.2 (zZ p l) m n f i q
def oH{a:Pos}{i:Nat}(d:ZY)(b:List Nat)(k:Nat)(r:X.N.Nodup)(j:X.N[i]?=some y)(t:Loc X.env.scope y)(u:PI X tg iter wi)(v:∀e C f s H,PG (bv X d scope e C f s H) tg g)(l:∀e C f s H,lM (bv X d scope e C f s H) ifs tt)(m:∀e C f s H,PE (bv X d scope e C f s H) elt te)
  (n:swapsWith (.ListComp elt [⟨tg,iter,ifs,0⟩] scope pos) (some (.Name y q)) a.line X.env=pure true:=by rfl)
  (w:X.calm=true:=by rfl) (c:scope.kind=.function:=by rfl) (o:sX X.env.scope scope=true:=by rfl) (z:d.length=b.length+k:=by rfl) (p:mY X.N d scope.names b 0=true:=by rfl)
  (A:∀x,foldedSetIterable iter X.env x=pure x:=by intro _;rfl) (B:X.fn y=true\/X.env.scope.names.lookup y=some .local:=by first|exact .inl rfl|exact .inr rfl|assumption):
  PS X (.Assign [.Name y q] (.ListComp elt [⟨tg,iter,ifs,0⟩] scope pos) a) (dZ (gH wi (a5 b k) g tt te) (cf i)):=
 let h:=AY o
 Ie n r j t w c h.1 h.2.1 h.2.2 (zZ z p) u v l m A B
end
end FL
namespace FL
open PySem L2
def D.yn:D->String
 |.aq=>"NoneType"|.bl _=>"bool"|.int _=>"int"|.str _=>"str"|.tup _=>"tuple"|.lst _=>"list"
def C7{K:W.Frag}(r:al (but H M) x d):gf K H x (.type d.yn):=by
 cases r with
 |aq=>exact .aq
 |bl b=>exact .bl b
 |int b=>exact .int b
 |str b=>exact .str b
 |tup h _=>exact .tup (aw h).2
 |lst h _=>exact .lst (aw h).2
def iX (K:PySem.W.Frag):List V->Hp->VK->Prop:=λxs H Q=>∃x n t b,xs=[x,.ty n]/\gf K H x t/\PySem.W.kitOne K t (.type n)=some b/\Q (.bl b) H
def DG:iM X (.builtin "isinstance") (iX X.K):=by
 intro c s g H i j Q I r h
 obtain ⟨x,n,t,b,rfl,d,e,q⟩:=h
 obtain ⟨u,w,rfl,f,a⟩:=vals2 r
 cases a
 exact Gh I f d e λk=>⟨.bl b,H,I.tok _,rfl,q⟩
def Ky (K:W.Frag)(a b:String):W.kitOne K (.type a) (.type b)=W.kitOne [] (.type a) (.type b):=rfl
section
variable {G:Hp}{σ:St}{ta:TE}{d:D}{K:PySem.W.Frag}
def my(h:ae ta G σ d)(a:W.kitOne [] (.type d.yn) (.type n)=some b):ae (cI (iX K) (bn ta (bn (tC (.ty n)) bB))) G σ (.bl b):=
 λM H s l Q k=>h M H s l _ λx c e f=>⟨x,n,_,b,rfl,C7 f,by rw [Ky];exact a,k _ c e (.bl b)⟩
def zf:D->Bool
 |.int _=>true|.bl _=>true|_=>false
def yq:D->Bool
 |.bl _=>true|_=>false
def ri:D->Bool
 |.str _=>true|_=>false
def FG:D->Bool
 |.tup _=>true|_=>false
def Kb:D->Bool
 |.lst _=>true|_=>false
def nW (h:ae ta G σ d):ae (cI (iX K) (bn ta (bn (tC (.ty "int")) bB))) G σ (.bl (zf d)):=by
 cases d with
 |bl _=>exact my h rfl
 |int _=>exact my h rfl
 |_=>exact my h rfl
def C9 (h:ae ta G σ d):ae (cI (iX K) (bn ta (bn (tC (.ty "bool")) bB))) G σ (.bl (yq d)):=by
 cases d<;>exact my h rfl
def kA (h:ae ta G σ d):ae (cI (iX K) (bn ta (bn (tC (.ty "str")) bB))) G σ (.bl (ri d)):=by
 cases d<;>exact my h rfl
def Dy (h:ae ta G σ d):ae (cI (iX K) (bn ta (bn (tC (.ty "tuple")) bB))) G σ (.bl (FG d)):=by
 cases d<;>exact my h rfl
def BR (h:ae ta G σ d):ae (cI (iX K) (bn ta (bn (tC (.ty "list")) bB))) G σ (.bl (Kb d)):=by
 cases d<;>exact my h rfl
end
end FL
namespace FL
open PySem L2
structure a6 (P:Program)(w:World)(K:PySem.W.Frag)(mg:Str->Option Value)(base:Heap)(n:Nat)(x:Str)(ps:List Str)(sp:Sp):Prop where
 ex:∃f fd,bp P w K mg base bD n f fd ps sp/\Binds K fd ps []/\PySem.W.keepIn K (.ref f)=true/\mg x=some (.ref f)
def bI{X:Cx}(h:a6 X.prog X.w X.K X.mg X.base n x l j)(o:cK m X.A)(q:PA X (e::a) t)(d:n<=m:=by decide)
  (r:Gl X x:=by rfl) (g:(x==("__debug__":Str))=false:=by decide) (s:starEach (e::a) X.env=(false,eval e X.env)::starEach a X.env:=by rfl) (i:(backTo c (starEach a X.env)).any (·.1)=false:=by rfl):
  PE X (.Call (.Name x p) (e::a) [] c) (ii j [] E0 t):=by
 obtain ⟨f,v,F,b,k,u⟩:=h.ex
 exact Gv (F.mono d) o r u k b .nil qN q g s i
structure Bl (mg:Str->Option Value):Prop where
 len:mg "len"=none
 isinstance:mg "isinstance"=none
 range:mg "range"=none
 int:mg "int"=none
 str:mg "str"=none
 bool:mg "bool"=none
 list:mg "list"=none
 tuple:mg "tuple"=none
 dict:mg "dict"=none
 zip:mg "zip"=none
 enumerate:mg "enumerate"=none
 all:mg "all"=none
 reversed:mg "reversed"=none
section
variable {X:Cx}{e:Expr}{es:List Expr}{t:TA}{te:TE}{tg iter:Expr}{p pos:Pos}
def Iz(h:PI X tg iter c)(f:PI X tg iter d):PI X tg iter (λb H R=>c b H R\/d b H R):=by
 intro a s b H R I q
 rcases q with q|q
 .exact h a s b H R I q
 .exact f a s b H R I q
def ck (h:PE X iter te):PI X tg iter (λa H R=>jT X.K te a H R\/mh X.K te a H R):=Iz (Kk h)<|EW h
def da (B:Bl X.mg)(h:PE X e te)(c:Gl X "len":=by rfl)(b:starEach [e] X.env=(false,eval e X.env)::starEach [] X.env:=by rfl):PE X (.Call (.Name "len" p) [e] [] pos) (cI (λd H Q=>∃p a,d=[.ref p]/\(aQ X.K H p a\/br X.K H p a)/\Q (.int a.length) H) (bn te bB)):=
 qS Dm c B.len PySem.boot_len (ak h ar b) (he:=b)
def jg(B:Bl X.mg)(h:PE X e te)(f:X.mg x=none)(g:bootBuiltins x=some (.type n))(i:Gl X "isinstance":=by rfl)(c:Gl X x:=by rfl)(j:x≠"__name__":=by decide)(k:(x==("__debug__":Str))=false:=by decide)
  (d:starEach [e,.Name x a] X.env=(false,eval e X.env)::starEach [.Name x a] X.env:=by rfl) (b:starEach [.Name x a] X.env=(false,eval (.Name x a) X.env)::starEach [] X.env:=by rfl):
  PE X (.Call (.Name "isinstance" p) [e,.Name x a] [] pos) (cI (iX X.K) (bn te (bn (tC (.ty n)) bB))):=
 qS DG i B.isinstance PyProof.Rows.boot_isinstance (ak h (ak (Jo (v:=.ty n) c f g rfl j k) ar b) d) (he:=d) (hpl:=by rw [b];rfl)
def sK (B:Bl X.mg)(h:PE X e te)(c:Gl X "tuple":=by rfl)(b:starEach [e] X.env=(false,eval e X.env)::starEach [] X.env:=by rfl):PE X (.Call (.Name "tuple" p) [e] [] pos)
  (cI (λd H Q=>∃p a,d=[.ref p]/\((aQ X.K H p a/\∀l,H l=none->Q (.ref l) (upd H l (.tup a)))\/(br X.K H p a/\Q (.ref p) H))) (bn te bB)):=
 pq C8 c B.tuple PD (ak h ar b) (he:=b)
def Bw (B:Bl X.mg)(h:PE X e te)(c:Gl X "list":=by rfl)(b:starEach [e] X.env=(false,eval e X.env)::starEach [] X.env:=by rfl):PE X (.Call (.Name "list" p) [e] [] pos)
  (cI (λd H Q=>∃p a,d=[.ref p]/\(aQ X.K H p a\/br X.K H p a)/\∀l,H l=none->Q (.ref l) (upd H l (.lst a))) (bn te bB)):=
 pq Kt c B.list NK (ak h ar b) (he:=b)
def vR (B:Bl X.mg)(h:PE X e te)(f:X.calm=true:=by rfl)(g:Gl X "dict":=by rfl)(c:starEach [e] X.env=(false,eval e X.env)::starEach [] X.env:=by rfl):PE X (.Call (.Name "dict" p) [e] [] pos)
  (cI (λi H Q=>∃a d b,i=[.ref a]/\aQ X.K H a d/\Pairs X.K H d b/\∀p,H p=none->Q (.ref p) (upd H p (.dK (cb [] b)))) (bn te bB)):=
 pq (FQ f) g B.dict PP (ak h ar c) (he:=c)
def bG(f:PE X a c)(g:PE X b d)(h:rW b:=by intro _ _;rfl):PE X (.Subscript a b pos) (bZ (gS X.K) c d):=Hx F5 f g h
def f9 (a:X.A.units+50<cLine):cH X (compareOp .Eq) (λx y H Q=>su x y H Q\/sy x y H Q):=(Dz a).or yF
def jO (a:X.A.units+50<cLine):cH X (compareOp .NotEq) (λx y H Q=>oI x y H Q\/pE x y H Q):=(CV a).or zj
def iZ{b d:Pos}(l:PE X o j)(h:PE X e te)(k:starEach [e] X.env=(false,eval e X.env)::starEach [] X.env:=by rfl)(f:attributeBase o "append" X.env (eval o X.env)=eval o X.env:=by rfl)
  (i:((backTo a (starEach [e] X.env)).all (λx=> !x.1)&&(backToKw a (keywordEach [] X.env)).all (λx=>x.1.isSome)&&decide ([e].length+([]:List Keyword).length+(if ([]:List Keyword).isEmpty then 0 else 1)<30))=true:=by rfl)
  (g:(b.endLine==a.line)=true:=by rfl) (c:(backTo a (starEach [] X.env)).any (·.1)=false:=by rfl) (m:swapsWith (.Call (.Attribute o "append" b) [e] [] a) none d.line X.env=pure false:=by rfl):
  PS X (.Expr (.Call (.Attribute o "append" b) [e] [] a) d) (j6 (ma X.K "list" n0 j (bn te bB))):=
 il (pI MP PySem.F.slot_list_append PySem.F.type_list_append zy l (ak h ar k) f i g k c) m
end
section
variable {X:Cx}{N':List Str}{scope:Scope}{cl:List (Str×Addr)}{C:Addr}{fp:List Addr}{s:Shared}{H:Hp}{e a b:Expr}{te ta tb:TE}{p pos:Pos}
def m6 (c:PE (bv X N' scope cl C fp s H) a ta)(d:PE (bv X N' scope cl C fp s H) b tb)(f:rW b:=by intro _ _;rfl):PE (bv X N' scope cl C fp s H) (.Subscript a b pos) (bZ (gS X.K) ta tb):=bG c d f
def wu(f:X.calm=true)(h:pD (bv X N' scope cl C fp s H) c t)(g:(assignEach c (bv X N' scope cl C fp s H).env).length=n:=by rfl)(d:(assignEach c (bv X N' scope cl C fp s H).env).findIdx? (·.1)=none:=by rfl):
  PG (bv X N' scope cl C fp s H) (.Tuple c k pos) (na X.K n t):=ml (X:=bv X N' scope cl C fp s H) f h g d
end
section
variable {G:Hp}{σ:St}{ta tb te:TE}{d:D}{ds:List D}{K:PySem.W.Frag}
def cP(h:dM ds i=some d)(e:ae ta G σ (.lst ds))(f:ae tb G σ (.int i)):ae (bZ (gS K) ta tb) G σ d:=
 λM H s l Q k=>e M H s l _ λx g b j=>f M g (s.trans<|b.but M) (l.same b) _ λy m c n=>by
  obtain ⟨a,o,rfl,p,q⟩:=(j.mono<|c.but M).dI
  obtain ⟨v,r,t⟩:=x6 q h
  exact .inl ⟨a,o,i,v,rfl,n.dL,aQ.of (aw p).2,r,k v m (b.trans c) t⟩
def cv(h:dM ds i=some d)(e:ae ta G σ (.tup ds))(f:ae tb G σ (.int i)):ae (bZ (gS K) ta tb) G σ d:=
 λM H s l Q k=>e M H s l _ λx g b j=>f M g (s.trans<|b.but M) (l.same b) _ λy m c n=>by
  obtain ⟨a,o,rfl,p,q⟩:=(j.mono<|c.but M).eP
  obtain ⟨v,r,t⟩:=x6 q h
  exact .inr (.inl ⟨a,o,i,v,rfl,n.dL,br.of (aw p).2,r,k v m (b.trans c) t⟩)
def oz(a:cr d1 d2=true)(b:d1.cR<=40)(c:ae ta G σ d1)(e:ae tb G σ d2):ae (bZ (λx y H Q=>su x y H Q\/sy x y H Q) ta tb) G σ (.bl (decide (d1=d2))):=
 jR (λM H x y l f g Q k=>.inl ⟨d1,d2,⟨M,f,g,a,b⟩,k _ H (ab.refl _) (.bl _)⟩) c e
def ti(c:cr a b=true)(e:a.cR<=40)(f:ae ta G σ a)(g:ae tb G σ b):ae (bZ (λx y H Q=>oI x y H Q\/pE x y H Q) ta tb) G σ (.bl (!decide (a=b))):=
 jR (λM H x y l h i Q k=>.inl ⟨a,b,⟨M,h,i,c,e⟩,k _ H (ab.refl _) (.bl _)⟩) f g
def jF(a:ae ta G σ (.int i))(b:ae tb G σ (.int j)):ae (bZ (λx y H Q=>su x y H Q\/sy x y H Q) ta tb) G σ (.bl (decide (i=j))):=
 (oz rfl (LP _) a b).eq Z8
def pf(a:ae ta G σ (.int i))(b:ae tb G σ (.int j)):ae (bZ (λx y H Q=>oI x y H Q\/pE x y H Q) ta tb) G σ (.bl (!decide (i=j))):=
 (ti rfl (LP _) a b).eq Z8
def dn (h:ae te G σ (.lst ds)):Walk (λσ H R=>jT K te σ H R\/mh K te σ H R) G σ ds:=λM H s l R k=>.inl<|Bm h M H s l R k
def jy (h:ae te G σ (.tup ds)):Walk (λσ H R=>jT K te σ H R\/mh K te σ H R) G σ ds:=λM H s l R k=>.inr<|JL h M H s l R k
def D5{E:Ends}{i:Nat}(l:ap M H)(e:σ[i]?=some (some (.ref a)))(f:H a=some (.lst b))(g:b.length<sizeLine)(h:ae te (but H M) σ d)
  (k:∀v c,ab H c->al (but c M) v d->E.nx σ (upd c a (.lst (b++[v])))):j6 (ma K "list" n0 (aY i) (bn te bB)) E σ H:=
 ⟨.ref a,e,(show gM K "list" (.ref a) H from .inl ⟨rfl,b,aQ.of f⟩),h.at l λv c s r=>⟨a,b,v,rfl,rfl,s _ _ f,g,k v c s r⟩⟩
end
def me(b:0<=i)(h:l[i.toNat]?=some x):dM l i=some x:=by
 have:i=((i.toNat:Nat):Int):=by omega
 rw [this]
 exact tD h
end FL
namespace FL
open PySem L2
abbrev Dn:=List (Option D)
structure ax (G:Hp)(σ:St)(δ:Dn):Prop where
 len:σ.length=δ.length
 get:∀(i:Nat) (d:D),δ[i]?=some (some d)->∃v,σ[i]?=some (some v)/\al G v d
theorem ax.mono(h:ax G f g)(e:ab G c):ax c f g:=⟨h.len,λi d q=>let ⟨v,a,b⟩:=h.get i d q;⟨v,a,b.mono e⟩⟩
def ax.same(h:ax (but H M) b c)(e:ab H a):ax (but a M) b c:=h.mono<|e.but M
theorem ax.set(h:ax G b a)(i:Nat)(r:al G v d):ax G (b.set i (some v)) (a.set i (some d)):=by
 refine ⟨by simp [h.len],λj e q=>?_⟩
 have g:=h.len
 by_cases c:i=j
 .subst c
  by_cases f:i<a.length
  .rw [Lx f] at q
   cases q
   exact ⟨v,Lx Z4,r⟩
  .rw [Mh (by simpa using L8 f)] at q;cases q
 .rw [Lm c] at q⊢
  exact h.get j e q
def ax.off(h:ax G b a)(i:Nat)(o:Option V):ax G (b.set i o) (a.set i none):=by
 refine ⟨by simp [h.len],λj e q=>?_⟩
 by_cases c:i=j
 .subst c
  by_cases d:i<a.length
  .rw [Lx d] at q;cases q
  .rw [Mh (by simpa using L8 d)] at q;cases q
 .rw [Lm c] at q⊢
  exact h.get j e q
def ax.weak{a:Dn}(h:ax G c b)(e:a.length=b.length)(w:∀(i:Nat) (d:D),a[i]?=some (some d)->b[i]?=some (some d)):ax G c a:=
 ⟨h.len.trans e.symm,λi d q=>h.get i d<|w i d q⟩
section
variable {G:Hp}{σ:St}{δ:Dn}{d:D}{b:Bool}{M:List Addr}{H:Hp}{ta:TE}{tt:TT}{E:Ends}
def aG {i:Nat}(h:ax G σ δ)(e:δ[i]?=some (some d)):ae (aY i) G σ d:=let ⟨v,a,r⟩:=h.get i d e;cA a r
def xB(l:ap M H)(e:ax (but H M) σ δ)(h:ae ta (but H M) σ d)(k:∀c a,ab H a->ap M a->ax (but a M) c (δ.set i (some d))->E.nx c a):dZ ta (cf i) E σ H:=
 h.at l λv a s r=>k _ a s (l.same s)<|(e.same s).set i r
def eA (l:ap M H)(h:ae ta (but H M) σ d)(k:∀v a,ab H a->al (but a M) v d->E.rt v a):m8 ta E σ H:=h.at l k
def ij {c f:TS}(l:ap M H)(g:ax (but H M) σ δ)(h:bJ tt (but H M) σ b)(i:b=true->∀a,ab H a->ap M a->ax (but a M) σ δ->c E σ a)(j:b=false->∀a,ab H a->ap M a->ax (but a M) σ δ->f E σ a):mK tt c f E σ H:=
 yE l h (λe a s=>i e a s (l.same s)<|g.same s) (λe a s=>j e a s (l.same s)<|g.same s)
end
def ax.drop(h:ax G b a)(i:Nat):ax G b (a.set i none):=
 h.weak Z8 λj d q=>by
  by_cases c:i=j
  .subst c
   by_cases e:i<a.length
   .rw [Lx e] at q;cases q
   .rw [Mh (by simpa using L8 e)] at q;cases q
  .rw [Lm c] at q;exact q
theorem nx{E:Ends}(h:E.nx a H):rV E a H:=h
def gN {G:Hp}{vs:List V}{ds:ZZ}(h:az G vs ds)(N:ZY):ax G (L2.start N vs) (ds.map some++List.replicate (N.length-ds.length) none):=by
 refine ⟨by simp [L2.start,h.length],λi d q=>?_⟩
 have hl:=h.length
 unfold L2.start
 by_cases hi:i<ds.length
 .rw [LO (by simpa using hi),LA] at q
  cases e:ds[i]? with
  |none=>rw [e] at q;cases q
  |some d'=>
   rw [e] at q
   cases q
   obtain ⟨v,h1,h2⟩:=h.get e
   exact ⟨v,by rw [LO (by simpa using (by omega:i<vs.length)),LA,h1];rfl,h2⟩
 .rw [LQ (by simpa using L8 hi)] at q
  obtain ⟨h1,h2⟩:=Li.mp q
  simp at h2
def eC(a:cK k A):A.units+50<cLine:=by have:=a.units;omega
def gj {a b:D}(d:a.sc=true)(c:b.sc=true):cr a b=true/\a.cR<=40:=by
 cases a with
 |int i=>cases b<;>first|exact ⟨rfl,LP _⟩|exact absurd c (by simp [D.sc])
 |str i=>cases b<;>first|exact ⟨rfl,LP _⟩|exact absurd c (by simp [D.sc])
 |_=>exact absurd d (by simp [D.sc])
def sP (K:PySem.W.Frag):Sp:=λvs H Q _=>∃(a:Addr) (ns:List Int),vs=[.ref a]/\aQ K H a (ns.map V.int)/\ns.length<=63/\∀H',Q (.bl true) H'
def Fb {a:List Int}(h:a.length<=63):gG (a.map V.int) none (some 500)=a.map V.int:=by
 have:=A7 (xs:=a.map V.int) 500
 rw [LS (by simp;omega)] at this
 exact this
def Ey {H:Hp}{p:Addr}{ns:List Int}(N:ZY)(a:Addr)(n:Nat)(hN:N.length=n+1):ax (but (upd H p (.lst (ns.map V.int))) []) ((L2.start N [.ref a]).set 0 (some (.ref p))) (some (.lst (ns.map D.int))::List.replicate n none):=by
 have h0:ax (but (upd H p (.lst (ns.map V.int))) []) (L2.start N [.ref a]) (none::List.replicate n none):=by
  refine ⟨by simp [L2.start,hN],λi d q=>?_⟩
  obtain ⟨h1,h2⟩:=Li.mp q
  have:(none::List.replicate n none:Dn)=List.replicate (n+1) none:=rfl
  rw [List.getElem_of_eq this] at h2
  simp at h2
 have r:al (but (upd H p (.lst (ns.map V.int))) []) (.ref p) (.lst (ns.map D.int)):=.lst (by rw [HW];exact aN) (az.ints ns)
 exact h0.set 0 r
def lQ (l:List D)(k:Int):D:=if k<l.length then l.getD k.toNat .aq else .int 0
def Gp (a:List Int)(k:Nat):lQ (a.map D.int) k=.int (a.getD k 0):=by
 unfold lQ
 by_cases h:k<a.length
 .rw [Lv (by simpa using h)]
  simp [List.getD,h]
 .rw [Lq (by simpa using h)]
  have:a.getD k 0=0:=by simp [List.getD,Mh<|L8 h]
  rw [this]
end FL
namespace PySem
structure mE (prog:Program)(w:World)(i l:Addr)(St:Nat->Heap->Prop)(item:Nat->Option Value):Prop where
 here:∀k h,St k h->∃o vs,h.get? i=some o/\o.data=.fields vs
 keep:∀k h h',St k h->(∀o,h.get? i=some o->h'.get? i=some o)->(∀o,h.get? l=some o->h'.get? l=some o)->St k h'
 one:∀(A:Around) (E:Value->Shared->Prop) (k:Nat) (s:Shared) (x:Value) (Q:Value->Shared->Prop),St k s.heap->item k=some x->(∀h',St (k+1) h'->Heap.SameBut i s.heap h'->Q x {s with heap:=h'})->wpAny (model prog w) A (Builtin.SmallTypes.nextOf (.ref i)) Q E s
 over:∀(A:Around) (E:Value->Shared->Prop) (k:Nat) (s:Shared) (Q:Value->Shared->Prop),A.handled=none->St k s.heap->item k=none->(∀h' e,Heap.ExtBut i s.heap h'->(∃o,h'.get? e=some o/\o.cls=.type "StopIteration")->E (.ref e) {s with heap:=h'})->wpAny (model prog w) A (Builtin.SmallTypes.nextOf (.ref i)) Q E s
section
variable {prog:Program}{w:World}{A:Around}{E:Value->Shared->Prop}{s:Shared}
def G6{Q:ZT}(b:s.heap.IsTupleIter c l i)(j:s.heap.IsTuple l a)(k:a[i]?=some x)
  (m:∀f,f.IsTupleIter c l (i+1)->Heap.SameBut c s.heap f->Q x {s with heap:=f}):wpAny (model prog w) A (Builtin.SmallTypes.nextOf (.ref c)) Q E s:=by
 obtain ⟨o,e,n,d⟩:=id b
 obtain ⟨p,g,_,q,h⟩:=j
 unfold Builtin.SmallTypes.nextOf
 refine Lh<|MB (name:=Str.ofString "__next__") b.typeIs Nj<|Nz Nj b.typeIs O3 ?_ (OU _)
 show wpAny _ _ (field (.ref c) 0>>=_) _ _ s
 refine Lh<|Ms e d (x:=.ref l) rfl ?_
 show wpAny _ _ (if (Value.ref l==Value.none)=true then _ else _) _ _ s
 rw [Lq (show¬((Value.ref l==Value.none)=true) from Ls)]
 show wpAny _ _ (field (.ref c) 1>>=_) _ _ s
 refine Lh<|Ms e d (x:=.int i 0) rfl ?_
 show wpAny _ _ (seqItems? (.ref l)>>=_) _ _ s
 refine Lh<|Mw g h ?_
 simp only [Nn,k]
 refine Lh<|wpAny_setField e d Z8<|Lz ⟨x,rfl,Lz<|m _ ⟨_,NQ _ e<|Obj.isFreed_of_fields<|Obj.data_mapFields d _,(Obj.cls_mapFields ..).trans n,?_⟩<|Nw ..⟩
 rw [Obj.data_mapFields d]
 simp [rawInt]
def IG(n:A.handled=none)(c:s.heap.IsTupleIter d l i)(p:s.heap.IsTuple l b)(q:b[i]?=none)
  (r:∀f e,Heap.ExtBut d s.heap f->(∃o,f.get? e=some o/\o.cls=.type "StopIteration")->E (.ref e) {s with heap:=f}):wpAny (model prog w) A (Builtin.SmallTypes.nextOf (.ref d)) Q E s:=by
 obtain ⟨o,g,t,h⟩:=id c
 obtain ⟨u,j,_,v,k⟩:=p
 unfold Builtin.SmallTypes.nextOf
 refine Lh<|MB (name:=Str.ofString "__next__") c.typeIs Nj<|Nz Nj c.typeIs O3 ?_ (OU _)
 show wpAny _ _ (field (.ref d) 0>>=_) _ _ s
 refine Lh<|Ms g h (x:=.ref l) rfl ?_
 show wpAny _ _ (if (Value.ref l==Value.none)=true then _ else _) _ _ s
 rw [Lq (show¬((Value.ref l==Value.none)=true) from Ls)]
 show wpAny _ _ (field (.ref d) 1>>=_) _ _ s
 refine Lh<|Ms g h (x:=.int i 0) rfl ?_
 show wpAny _ _ (seqItems? (.ref l)>>=_) _ _ s
 refine Lh<|Mw j k ?_
 simp only [Nn,q]
 refine Lh<|Oj<|Lh<|wpAny_setField g h Z8 ?_
 show wpAny _ _ (newExc (.type "StopIteration") []>>=_) _ _ _
 refine Lh ?_
 simp only [newExc,newTuple]
 refine Lh<|MS ?_ (by size_fits)
 refine Lh (m:=firstArgMember _ _)<|P1 (a:=Value.none) (by first|rfl|(simp only [firstArgMember];rfl)) ?_
 refine MS ?_ (by size_fits)
 simp only [raiseNew]
 refine Lh<|wpAny_handled ?_
 first|rw [show A.in1.handled=none from n]|rw [n]
 exact Lh<|Lz<|wpAny_throw<|r _ _ (((Nw ..).extBut.push _).push _) ⟨_,LJ _ rfl,rfl⟩
def uq {i l:Addr}{xs:Array Value}:mE prog w i l (λk h=>h.IsTupleIter i l k/\h.IsTuple l xs/\l≠i) (λk=>xs[k]?) where
 here:=λk h q0=>by obtain ⟨⟨o,e,_,d⟩,_⟩:=q0;exact ⟨o,_,e,d⟩
 keep:=λk h h' q1 k1 k2=>by obtain ⟨⟨o,e,r⟩,⟨o2,e2,r2⟩,n⟩:=q1;exact ⟨⟨o,k1 _ e,r⟩,⟨o2,k2 _ e2,r2⟩,n⟩
 one:=λA E k s x Q q2 hx hq=>by obtain ⟨h1,h2,n⟩:=q2;exact G6 h1 h2 hx λh' a b=>hq h' ⟨a,h2.extBut b.extBut n,n⟩ b
 over:=λA E k s Q hh q3 hx hq=>by obtain ⟨h1,h2,n⟩:=q3;exact IG hh h1 h2 hx λh' e a b=>hq h' e a b
variable {z TI TO i1 i2 l1 l2:Addr}{S1 S2:Nat->Heap->Prop}{it1 it2:Nat->Option Value}
structure kC (prog:Program)(w:World)(S1 S2:Nat->Heap->Prop)(z TI TO i1 i2 l1 l2:Addr)(f0:Value)(k:Nat)(h:Heap):Prop where
 zip:IsZip h z TI TO f0
 ins:IsPair h TI (.ref i1) (.ref i2)
 out:∃a b,IsPair h TO a b
 one:S1 k h
 two:S2 k h
def HQ{Q:ZT}(M:mE prog w i1 l1 S1 it1)(N:mE prog w i2 l2 S2 it2)(D:ZipApart z TI TO i1 i2 l1 l2)(Z:kC prog w S1 S2 z TI TO i1 i2 l1 l2 .none k s.heap)(hx:it1 k=some x)(hy:it2 k=some y)
  (hQ:∀O,kC prog w S1 S2 z TI TO i1 i2 l1 l2 (rawInt s.heap.objs.size) (k+1) O->IsPair O s.heap.objs.size x y->(∀c o,c≠z->c≠TO->c≠i1->c≠i2->s.heap.get? c=some o->O.get? c=some o)->Q (.ref s.heap.objs.size) {s with heap:=O}):
  wpAny (model prog w) A (Builtin.«zip.__next__» ⟨[.ref z],[]⟩) (λY s'=>∃v,Y=.done (.ret v)/\Q v s') E s:=by
 obtain ⟨C,G,⟨a,b,ac⟩,h1,h2⟩:=Z
 show wpAny _ _ (field (.ref z) 2>>=_) _ _ _
 refine Lh<|Ms C rfl (x:=.bool false) rfl ?_
 show wpAny _ _ (field (.ref z) 3>>=_) _ _ _
 refine Lh<|Ms C rfl (x:=.ref TI) rfl<|Lh<|Mw G rfl ?_
 show wpAny _ _ (Builtin.SmallTypes.ownedTupleIsFree (.ref z)>>=_) _ _ _
 unfold Builtin.SmallTypes.ownedTupleIsFree
 refine Lh<|Lh<|Ms C rfl (x:=.none) rfl<|Lz ?_
 simp only [Oc]
 refine Lh<|Oj<|Lh<|Ms C rfl (x:=.ref TO) rfl<|Lh<|NL C Z8 λha l m=>?_
 replace l:IsZip ha z TI TO .ellipsis:=l
 refine Lh ?_
 simp only [P2,List.zipIdx_nil,OS,List.forIn_nil]
 refine Lh<|Lh<|wpAny_onRaise ?_
 show wpAny _ _ (Builtin.SmallTypes.nextOf (.ref i1)>>=_) _ _ _
 have af:S1 k ha:=M.keep _ _ _ h1 (λo e=>m.extBut _ _ D.i1z e) λo e=>m.extBut _ _ D.l1z e
 refine Lh<|M.one _ _ k {s with heap:=ha} x _ af hx λhb aj u=>Lz ?_
 have i:IsPair hb TO a b:=u.extBut _ _ D.TOi1<|m.extBut _ _ D.TOz ac
 refine Lh<|Mw i rfl<|Lh<|wpAny_updateSeq_pair i λhc g n=>?_
 replace g:IsPair hc TO x b:=g
 refine Lh<|NS<|Lz<|Lh<|Lh<|wpAny_onRaise ?_
 show wpAny _ _ (Builtin.SmallTypes.nextOf (.ref i2)>>=_) _ _ _
 have am:S2 k hc:=N.keep _ _ _ h2 (λo e=>n.extBut _ _ D.TOi2.symm<|u.extBut _ _ D.i12.symm<|m.extBut _ _ D.i2z e) λo e=>n.extBut _ _ D.l2TO<|u.extBut _ _ D.l2i1<|m.extBut _ _ D.l2z e
 refine Lh<|N.one _ _ k {s with heap:=hc} y _ am hy λhd an B=>Lz ?_
 have j:IsPair hd TO x b:=B.extBut _ _ D.TOi2 g
 refine Lh<|Mw j rfl<|Lh<|wpAny_updateSeq_pair j λd f p=>?_
 replace f:IsPair d TO x y:=f
 refine Lh<|NS<|Lz<|Lz<|Lh<|Mw f rfl<|Lh<|wpAny_newTuple ?_
 have H:d.objs.size=s.heap.objs.size:=by rw [p.1,B.1,n.1,u.1,m.1]
 have I:IsZip d z TI TO .ellipsis:=p.extBut _ _ D.TOz.symm<|B.extBut _ _ D.i2z.symm<|n.extBut _ _ D.TOz.symm<|u.extBut _ _ D.i1z.symm l
 have J:∀c o,c≠z->c≠TO->c≠i1->c≠i2->s.heap.get? c=some o->d.get? c=some o:=λc o q T c3 c4 e=>p.extBut _ _ T<|B.extBut _ _ c4<|n.extBut _ _ T<|u.extBut _ _ c3<|m.extBut _ _ q e
 have ao:S1 (k+1) d:=M.keep _ _ _ aj (λo e=>p.extBut _ _ D.TOi1.symm<|B.extBut _ _ D.i12<|n.extBut _ _ D.TOi1.symm e) λo e=>p.extBut _ _ D.l1TO<|B.extBut _ _ D.l1i2<|n.extBut _ _ D.l1TO e
 have as:S2 (k+1) d:=N.keep _ _ _ an (λo e=>p.extBut _ _ D.TOi2.symm e) λo e=>p.extBut _ _ D.l2TO e
 show wpAny _ _ (Builtin.SmallTypes.ownedTupleHandOut (.ref z) (.ref d.objs.size)>>=_) _ _ _
 unfold Builtin.SmallTypes.ownedTupleHandOut
 have a0:IsZip (d.push {cls:=.type "tuple",data:=.seq #[x,y]}) z TI TO .ellipsis:=Ln _ I
 refine Lh<|Lh<|NL a0 Z8 λhg r sg=>?_
 replace r:IsZip hg z TI TO (rawInt d.objs.size):=r
 refine NL r Z8 λU h si=>?_
 replace h:IsZip U z TI TO (rawInt d.objs.size):=h
 have t:∀c o,c≠z->d.get? c=some o->U.get? c=some o:=λc o q e=>si.extBut _ _ q<|sg.extBut _ _ q<|Ln _ e
 have L:d.objs.size≠z:=NF<|LL I
 have hT:IsPair U d.objs.size x y:=si.extBut _ _ L<|sg.extBut _ _ L<|LJ _ rfl
 rw [H] at h hT
 refine Lz ⟨_,rfl,?_⟩
 show Q (.ref d.objs.size) _
 rw [H]
 exact hQ U ⟨h,t _ _ D.TIz<|J _ _ D.TIz D.TITO D.TIi1 D.TIi2 G,⟨_,_,t _ _ D.TOz f⟩,M.keep _ _ _ ao (λo e=>t _ o D.i1z e) λo e=>t _ o D.l1z e,N.keep _ _ _ as (λo e=>t _ o D.i2z e) λo e=>t _ o D.l2z e⟩ hT λc o q T c3 c4 e=>t c o q<|J c o q T c3 c4 e
def Dg(B:A.handled=none)(t:mE prog w i1 l1 S1 it1)(D:ZipApart z TI TO i1 i2 l1 l2)(Z:kC prog w S1 S2 z TI TO i1 i2 l1 l2 .none k s.heap)(C:it1 k=none)
  (G:∀j e,(∀c o,c≠z->c≠i1->s.heap.get? c=some o->j.get? c=some o)->(∃o,j.get? e=some o/\o.cls=.type "StopIteration")->E (.ref e) {s with heap:=j}):
  wpAny (model prog w) A (Builtin.«zip.__next__» ⟨[.ref z],[]⟩) Q E s:=by
 obtain ⟨g,l,⟨a,b,H⟩,I,T⟩:=Z
 show wpAny _ _ (field (.ref z) 2>>=_) _ _ _
 refine Lh<|Ms g rfl (x:=.bool false) rfl ?_
 show wpAny _ _ (field (.ref z) 3>>=_) _ _ _
 refine Lh<|Ms g rfl (x:=.ref TI) rfl<|Lh<|Mw l rfl ?_
 show wpAny _ _ (Builtin.SmallTypes.ownedTupleIsFree (.ref z)>>=_) _ _ _
 unfold Builtin.SmallTypes.ownedTupleIsFree
 refine Lh<|Lh<|Ms g rfl (x:=.none) rfl<|Lz ?_
 simp only [Oc]
 refine Lh<|Oj<|Lh<|Ms g rfl (x:=.ref TO) rfl<|Lh<|NL g Z8 λm d n=>?_
 replace d:IsZip m z TI TO .ellipsis:=d
 refine Lh ?_
 simp only [P2,List.zipIdx_nil,OS,List.forIn_nil]
 refine Lh<|Lh<|wpAny_onRaise ?_
 show wpAny _ _ (Builtin.SmallTypes.nextOf (.ref i1)>>=_) _ _ _
 have p:S1 k m:=t.keep _ _ _ I (λo e=>n.extBut _ _ D.i1z e) λo e=>n.extBut _ _ D.l1z e
 refine Lh<|t.over _ _ k {s with heap:=m} _ B p C λJ e u L=>?_
 obtain ⟨M,f,h⟩:=L
 have i:IsZip J z TI TO .ellipsis:=u _ _ D.i1z.symm d
 have r:e≠z:=λq=>by subst q;rw [i] at f;cases f;simp at h
 exact NL i Z8 λN _ v=>G N e (λc o y O q=>v.extBut _ _ y<|u _ _ O<|n.extBut _ _ y q) ⟨M,v.extBut _ _ r f,h⟩
def Fw{Q:Option Value->Shared->Prop}(f:mE prog w i1 l1 S1 it1)(g:mE prog w i2 l2 S2 it2)(D:ZipApart z TI TO i1 i2 l1 l2)(Z:kC prog w S1 S2 z TI TO i1 i2 l1 l2 .none k s.heap)(h:it1 k=some x)(i:it2 k=some y)
  (j:∀d,kC prog w S1 S2 z TI TO i1 i2 l1 l2 (rawInt s.heap.objs.size) (k+1) d->IsPair d s.heap.objs.size x y->(∀c o,c≠z->c≠TO->c≠i1->c≠i2->s.heap.get? c=some o->d.get? c=some o)->Q (some (.ref s.heap.objs.size)) {s with heap:=d}):
  wpAny (model prog w) A (pyNext (.ref z)) Q E s:=by
 have e:s.TypeIs (.ref z) "zip":=⟨_,Z.zip,rfl⟩
 unfold pyNext
 exact Lh<|wpAny_attempt<|MB (name:=Str.ofString "__next__") e OV<|Nz OV e F.entry_zip_next (HQ f g D Z h i λd a b c=>Lz<|j d a b c)<|F.args_zip_next_1 _
def Eh{Q:Option Value->Shared->Prop}(f:A.handled=none)(g:mE prog w i1 l1 S1 it1)(D:ZipApart z TI TO i1 i2 l1 l2)(Z:kC prog w S1 S2 z TI TO i1 i2 l1 l2 .none k s.heap)(h:it1 k=none)
  (i:∀a,(∀c o,c≠z->c≠i1->s.heap.get? c=some o->a.get? c=some o)->Q none {s with heap:=a}):wpAny (model prog w) A (pyNext (.ref z)) Q E s:=by
 have d:s.TypeIs (.ref z) "zip":=⟨_,Z.zip,rfl⟩
 unfold pyNext
 refine Lh<|wpAny_attempt<|MB (name:=Str.ofString "__next__") d OV<|Nz OV d F.entry_zip_next (Dg f g D Z h λa e j ⟨o,l,m⟩=>?_)<|F.args_zip_next_1 _
 exact Lh<|wpAny_isInstance (T:="StopIteration") (b:=true) ⟨o,l,m⟩ isSubtype_stop<|Lz<|i _ j
end
abbrev rn (h:Heap)(a:Addr):Heap:=h.push {cls:=.type "tuple_iterator",data:=.fields #[.ref a,.int 0 0]}
abbrev tj (h:Heap)(a b:Addr):Heap:=(rn h a).push {cls:=.type "tuple_iterator",data:=.fields #[.ref b,.int 0 0]}
abbrev qD (h:Heap)(a b:Addr):Heap:=(tj h a b).push {cls:=.type "tuple",data:=.seq #[.ref h.objs.size,.ref (rn h a).objs.size]}
abbrev qO (h:Heap)(a b:Addr):Heap:=(qD h a b).push {cls:=.type "tuple",data:=.seq #[.none,.none]}
abbrev nk (h:Heap)(a b:Addr):Heap:=(qO h a b).push {cls:=.type "zip",data:=.fields #[.none,.bool false,.bool false,.ref (tj h a b).objs.size,.ref (qD h a b).objs.size]}
def Kz (a b:Addr)(c e:Array Value):Meets (Builtin.«zip.__new__» ⟨[.type "zip",.ref a,.ref b],[]⟩) (λ_ R s=>s.heap.IsTuple a c/\s.heap.IsTuple b e/\R (.ok (.ret (.ref (qO s.heap a b).objs.size))) {s with heap:=nk s.heap a b}):=
 .of_wp λf w A R s h=>by
  obtain ⟨i,g,d,j,os⟩:=s
  obtain ⟨l,m,h⟩:=h
  have k:=sub_zip
  have n:Heap.IsTuple (Shared.heap ⟨i,g,d,j,os⟩) a c:=l
  have o:Heap.IsTuple (Shared.heap ⟨i.push {cls:=.type "tuple_iterator",data:=.fields #[.ref a,.int 0 0]},g,d,j,os⟩) b e:=Heap.IsTuple.push m _
  wp_walk using Og n,Og o
  exact ⟨_,rfl,h⟩
def JP{s:Shared}{Q:ZT}(u:s.heap.IsTuple a l)(v:s.heap.IsTuple b m)
  (h:∀d n,n=s.heap.objs.size->IsZip d (n+4) (n+2) (n+3) .none->IsPair d (n+2) (.ref n) (.ref (n+1))->IsPair d (n+3) .none .none->d.IsTupleIter n a 0->d.IsTupleIter (n+1) b 0->(∀c o,s.heap.get? c=some o->d.get? c=some o)->Q (.ref (n+4)) {s with heap:=d}):
  wpAny (model e w) A (call (.type "zip") [.ref a,.ref b]) Q E s:=by
 refine callType_new F.called_zip Z1 (F.typeCall_zip_2 _ _) (F.newCall_zip_2 _ _) (λf=>F.args_object_init_3 f _ _) F.entry_zip_new (Kz a b l m) ⟨u,v,?_⟩
 have g:(rn s.heap a).objs.size=s.heap.objs.size+1:=MJ ..
 have i:(tj s.heap a b).objs.size=s.heap.objs.size+2:=by rw [MJ,g]
 have j:(qD s.heap a b).objs.size=s.heap.objs.size+3:=by rw [MJ,i]
 have zD:(qO s.heap a b).objs.size=s.heap.objs.size+4:=by rw [MJ,j]
 have k:(nk s.heap a b).get? (qO s.heap a b).objs.size=some _:=LJ _ rfl
 have p:(nk s.heap a b).get? (qD s.heap a b).objs.size=some _:=Ln _<|LJ _ rfl
 have r:(nk s.heap a b).get? (tj s.heap a b).objs.size=some _:=Ln _<|Ln _<|LJ _ rfl
 have t:(nk s.heap a b).get? (rn s.heap a).objs.size=some _:=Ln _<|Ln _<|Ln _<|LJ _ rfl
 have x:(nk s.heap a b).get? s.heap.objs.size=some _:=Ln _<|Ln _<|Ln _<|Ln _<|LJ _ rfl
 show _/\_
 rw [i,j,zD] at k
 rw [g,i] at r
 rw [j] at p
 rw [g] at t
 rw [zD]
 exact ⟨⟨_,k,rfl⟩,h _ _ rfl k r p ⟨_,x,rfl,rfl⟩ ⟨_,t,rfl,rfl⟩ λc o q=>Ln _<|Ln _<|Ln _<|Ln _<|Ln _ q⟩
end PySem
namespace L2
open PySem PySem.Spec PyProof.Rows
section
variable {X:Cx}{pins:List (Addr×Obj)}{σ:St}{H:Hp}{s:Shared}
def Inv.ub{j:ZX}{p:Heap}(I:Inv X pins σ H s)(t:∀b∈j,ir X pins H b)(y:s.heap.objs.size<=T)(k:∀b u,b∉j->s.heap.get? b=some u->p.get? b=some u)
  (x:bS X.prog X.w (upd H T o) p T o):Inv X pins σ (upd H T o) {s with heap:=p,toks:=t'}:=by
 have h:H T=none:=I.ay.fresh y
 have l:=I.gL y h
 have a:∀b u,H b=some u->b≠T:=λb u e=>cU e h
 have i:∀b u,H b=some u->b∉j:=λb u e g=>by have:=(t b g).1;rw [e] at this;cases this
 refine I.step (g':=s.gens) (d':=s.drawn) (ch:=T::j) (λb g=>?_) (λb u _ _ d e _=>k b u (λz=>d<|Lg _ z) e) (λb u _ _ d e _=>⟨u.slots,k b u (λz=>d<|Lg _ z) e⟩) (λb u d e n=>?_)
  (λb u d e=>⟨u,k b u (λz=>d<|Lg _ z) e⟩) (λb A e=>by rw [aA<|a b _ e];exact e) (λb q A e=>by rw [aA<|a b _ e];exact e) (λb L e=>⟨#[],by rw [aA<|a b _ e,e];simp⟩) (λm C=>?_) (λb u e=>?_) I.bare
 .rcases Lw.mp g with rfl|g
  .exact ⟨l.2.2.2.1,l.2.1,l.2.2.2.2.1,l.2.2.2.2.2⟩
  .have f:=t b g
   exact ⟨f.2.2.2.1,f.2.1,f.2.2.2.2.1,f.2.2.2.2.2⟩
 .rw [aA λz=>d (by rw [z];exact Lj)];exact n
 .obtain ⟨B,E,G,J,r⟩:=C
  exact ⟨B,E,G,k _ B (λz=>(t _ z).2.1 rfl) J,r⟩
 .by_cases g:b=T
  .subst g;rw [aN] at e;cases e;exact x
  .rw [aA g] at e
   refine (I.ay b u e).jE (λc v d q=>k c v ?_ q) (λc q=>by rw [aA<|a c _ q];exact q) λc A q=>by rw [aA<|a c _ q];exact q
   rcases d with rfl|d
   .exact i _ _ e
   .exact i _ _ d
def Inv.uh{g:ZX}{j:Heap}(I:Inv X pins σ H s)(h:∀b∈g,ir X pins H b)(k:∀b u,b∉g->s.heap.get? b=some u->j.get? b=some u):Inv X pins σ H {s with heap:=j,toks:=t'}:=by
 have d:∀b u,H b=some u->b∉g:=λb u e i=>by have:=(h b i).1;rw [e] at this;cases this
 refine I.step (g':=s.gens) (d':=s.drawn) (ch:=g) (λb i=>?_) (λb u _ _ a e _=>k b u a e) (λb u _ _ a e _=>⟨u.slots,k b u a e⟩) (λb u a e n=>n)
  (λb u a e=>⟨u,k b u a e⟩) (λb l e=>e) (λb q l e=>e) (λb y e=>⟨#[],by rw [e];simp⟩) (λm p=>?_) (λb u e=>?_) I.bare
 .have f:=h b i
  exact ⟨f.2.2.2.1,f.2.1,f.2.2.2.2.1,f.2.2.2.2.2⟩
 .obtain ⟨o,t,w,x,r⟩:=p
  exact ⟨o,t,w,k _ o (λz=>(h _ z).2.1 rfl) x,r⟩
 .refine (I.ay b u e).jE (λc v a q=>k c v ?_ q) (λc q=>q) λc l q=>q
  rcases a with rfl|a
  .exact d _ _ e
  .exact d _ _ a
end
def B7 (K:PySem.W.Frag)(a b:Addr):It:=
 ⟨λi H=>∃xs ys x y,br K H a xs/\br K H b ys/\xs[i]?=some x/\ys[i]?=some y,
  λi H v H'=>∃T x y,H T=none/\v=.ref T/\H'=upd H T (.tup [x,y])/\∀xs ys,br K H a xs->br K H b ys->xs[i]?=some x/\ys[i]?=some y,
  λi H=>∃xs ys,br K H a xs/\br K H b ys/\xs.length<=i⟩
def G4 (z TI TO i1 i2 a b:Addr)(f0:Value)(i:Nat)(h:Heap):Prop:=IsZip h z TI TO f0/\IsPair h TI (.ref i1) (.ref i2)/\(∃u v,IsPair h TO u v)/\h.IsTupleIter i1 a i/\h.IsTupleIter i2 b i
def JH {P:Program}{w:World}{K:W.Frag}{es:List Expr}{kk:Nat}{tp:Pos}{z TI TO i1 i2 a b:Addr}(D:ZipApart z TI TO i1 i2 a b)(D1:TI≠a)(D2:TI≠b):
  iF P w K (.Tuple es kk tp) (B7 K a b) [z,TI,TO,i1,i2] z (λi h=>G4 z TI TO i1 i2 a b .none i h) where
 mem:=by simp
 obj:=λi h q0 q hq=>by
  obtain ⟨hz,hTI,⟨u,v,hTO⟩,⟨o1,e1,_,d1⟩,⟨o2,e2,_,d2⟩⟩:=q0
  simp only [Lw,L1,Mo] at hq
  rcases hq with rfl|rfl|rfl|rfl|rfl
  .exact ⟨_,hz,λv z=>nomatch z⟩
  .exact ⟨_,hTI,λv z=>nomatch z⟩
  .exact ⟨_,hTO,λv z=>nomatch z⟩
  .exact ⟨_,e1,λv z=>by rw [d1] at z;cases z⟩
  .exact ⟨_,e2,λv z=>by rw [d2] at z;cases z⟩
 keep:=λi h h' q3 k=>by obtain ⟨hz,hTI,⟨u,v,hTO⟩,⟨o1,e1,r1⟩,⟨o2,e2,r2⟩⟩:=q3;exact ⟨k _ Z8 _ hz,k _ Z8 _ hTI,⟨u,v,k _ Z8 _ hTO⟩,⟨o1,k _ Z8 _ e1,r1⟩,⟨o2,k _ Z8 _ e2,r2⟩⟩
 item:=by
  intro X hP hw hK hc i pins s σ H E I hf st hg
  subst hP hw hK
  obtain ⟨xs,ys,x,y,hq1,hq2,hx,hy⟩:=hg
  obtain ⟨its,rv,p1,hz1⟩:=I.tuple hq1
  obtain ⟨its2,rv2,p2,hz2⟩:=I.tuple hq2
  obtain ⟨u,hu,ru⟩:=rv.get hx
  obtain ⟨v,hv,rv'⟩:=rv2.get hy
  obtain ⟨hz,hTI,hTO,h1,h2⟩:=st
  have Z:kC X.prog X.w (λk h=>h.IsTupleIter i1 a k/\h.IsTuple a its.toArray/\a≠i1) (λk h=>h.IsTupleIter i2 b k/\h.IsTuple b its2.toArray/\b≠i2) z TI TO i1 i2 a b .none i s.heap:=⟨hz,hTI,hTO,⟨h1,p1,D.l1i1⟩,⟨h2,p2,D.l2i2⟩⟩
  refine Fw uq uq D Z (x:=u) (y:=v) (by simpa using hu) (by simpa using hv) λh' Z' hT kp=>?_
  refine ⟨_,rfl,?_⟩
  refine wpAny_letOwnedTupleGo_zip (s:={s with heap:=h'}) Z'.zip λh2' hz2' sb=>?_
  have hTz:s.heap.objs.size≠z:=NF<|LL hz
  have hT2:IsPair h2' s.heap.objs.size u v:=(sb.2 _ hTz).trans hT
  have kp2:∀c o,c∉[z,TI,TO,i1,i2]->s.heap.get? c=some o->h2'.get? c=some o:=λc o hc e=>(sb.2 c λq=>hc (by simp [q])).trans<|kp c o (λq=>hc (by simp [q])) (λq=>hc (by simp [q])) (λq=>hc (by simp [q])) (λq=>hc (by simp [q])) e
  have hTn:H s.heap.objs.size=none:=I.ay.fresh<|Lo _
  refine ⟨.ref s.heap.objs.size,upd H s.heap.objs.size (.tup [x,y]),I.ub (t':=s.toks) hf (Lo _) kp2 ⟨by show 2<=sizeLine;decide,[u,v],.cons ru (.cons rv' .nil),⟨_,hT2,rfl,_,rfl⟩⟩,rfl,⟨_,x,y,hTn,rfl,rfl,λxs' ys' q1 q2=>?_⟩,?_,λb' hb=>?_⟩
  .rw [I.xn q1 hq1,I.xn q2 hq2];exact ⟨hx,hy⟩
  .obtain ⟨u',v',hTO'⟩:=Z'.out
   have ii1:=Z'.one.1
   have ii2:=Z'.two.1
   exact ⟨hz2',(sb.2 _ D.TIz).trans Z'.ins,⟨u',v',(sb.2 _ D.TOz).trans hTO'⟩,ii1.extBut sb.extBut D.i1z,ii2.extBut sb.extBut D.i2z⟩
  .obtain ⟨ob,e,_⟩:∃ob,s.heap.get? b'=some ob/\True:=by
    simp only [Lw,L1,Mo] at hb
    obtain ⟨u',v',hTO'⟩:=hTO
    obtain ⟨o1,e1,_⟩:=h1
    obtain ⟨o2,e2,_⟩:=h2
    rcases hb with rfl|rfl|rfl|rfl|rfl
    .exact ⟨_,hz,trivial⟩
    .exact ⟨_,hTI,trivial⟩
    .exact ⟨_,hTO',trivial⟩
    .exact ⟨_,e1,trivial⟩
    .exact ⟨_,e2,trivial⟩
   rw [aA<|LY<|LL e]
   exact (hf b' hb).1
 done:=by
  intro X hP hw hK hc i pins s σ H E I hf st hg
  subst hP hw hK
  obtain ⟨xs,ys,hq1,hq2,hx⟩:=hg
  obtain ⟨its,rv,p1,hz1⟩:=I.tuple hq1
  obtain ⟨its2,rv2,p2,hz2⟩:=I.tuple hq2
  obtain ⟨hz,hTI,hTO,h1,h2⟩:=st
  have Z:kC X.prog X.w (λk h=>h.IsTupleIter i1 a k/\h.IsTuple a its.toArray/\a≠i1) (λk h=>h.IsTupleIter i2 b k/\h.IsTuple b its2.toArray/\b≠i2) z TI TO i1 i2 a b .none i s.heap:=⟨hz,hTI,hTO,⟨h1,p1,D.l1i1⟩,⟨h2,p2,D.l2i2⟩⟩
  have hl:=rv.length
  exact Eh (I.ok.hd hc) uq D Z (by simp;omega) λh' kp=>⟨rfl,I.uh (t':=s.toks) hf λc o hcc e=>kp c o (λq=>hcc (by simp [q])) (λq=>hcc (by simp [q])) e⟩
 self:=λA i s Q E st h=>wpAny_pyIter_zip st.1 h
section
variable {X:Cx}
def CB (K:PySem.W.Frag)(t:TA):TI:=λσ H R=>t σ H λvs H1=>∃a b,vs=[.ref a,.ref b]/\(∃xs,br K H1 a xs)/\(∃ys,br K H1 b ys)/\R (B7 K a b) H1
def KQ(M:X.mg "zip"=none)(j:PA X [a,b] t)(N:Gl X "zip":=by rfl)(O:starEach [a,b] X.env=[(false,eval a X.env),(false,eval b X.env)]:=by rfl)(f:starEach [b] X.env=[(false,eval b X.env)]:=by rfl):
  PI X (.Tuple G J L) (.Call (.Name "zip" p) [a,b] [] e) (CB X.K t):=by
 intro d s v H R I h
 refine Call_<|je I N M PyProof.Rows.boot_zip<|MA (aS (j e d s v H _ I h) λus k ⟨vs,w,g,Q,T⟩=>?_) (by rw [O,f]) (by rw [f];rfl)
 obtain ⟨a,b,rfl,⟨xs,l⟩,⟨ys,m⟩,q⟩:=T
 obtain ⟨u1,u2,rfl,o,r⟩:=ba.two Q
 cases o;cases r
 obtain ⟨U,rv,x,Y⟩:=g.tuple l
 obtain ⟨y,ac,z,af⟩:=g.tuple m
 refine JP x z λA n u B g2 g3 g4 g5 kp=>?_
 have j:a<n:=by rw [u];exact x.lt
 have C:b<n:=by rw [u];exact z.lt
 have I2:Inv X d v w {k with heap:=A}:=g.kept (t':=k.toks) kp
 have D:ZipApart (n+4) (n+2) (n+3) n (n+1) a b:=zipApart_new j C
 refine wpAny_pyIter_zip (s:={k with heap:=A}) B ?_
 refine ⟨n+4,[n+4,n+2,n+3,n,n+1],_,_,w,rfl,I2,JH D (NF<|L4 j<|Mr _ _)<|NF<|L4 C<|Mr _ _,⟨B,g2,⟨_,_,g3⟩,g4,g5⟩,λc E=>?_,q⟩
 have i:k.heap.objs.size<=c:=by
  simp only [Lw,L1,Mo] at E
  rw [<-u]
  rcases E with rfl|rfl|rfl|rfl|rfl
  .exact Mr _ _
  .exact Mr _ _
  .exact Mr _ _
  .exact Lo _
  .exact Mr _ _
 exact g.gL i<|g.ay.fresh i
end
end L2
namespace FL
open PySem L2
def kE (xs ys:List D):List D:=List.zipWith (λx y=>.tup [x,y]) xs ys
def HR{g i:ZZ}{K:W.Frag}(U:g.length=i.length)(h:dO t G E [.tup g,.tup i]):Walk (CB K t) G E (kE g i):=λM H s l R k=>h M H s l _ λvs Y s1 rs=>by
 obtain ⟨v1,v2,rfl,r1,r2⟩:=pp rs
 obtain ⟨a,m,rfl,r,I⟩:=r1.eP
 obtain ⟨b,n,rfl,z,h4⟩:=r2.eP
 refine ⟨a,b,rfl,⟨m,br.of (aw r).2⟩,⟨n,br.of (aw z).2⟩,k _ Y s1 (λj d M' H' c f A=>?_) λM' H' f=>?_⟩
 .have o:=(aw<|f _ _ r).2
  have p:=(aw<|f _ _ z).2
  unfold kE at c
  rw [OD] at c
  cases q:g[j]? with
  |none=>rw [q] at c;cases c
  |some x=>
   cases B:i[j]? with
   |none=>rw [q,B] at c;cases c
   |some y=>
    rw [q,B] at c
    cases c
    obtain ⟨u,J,ru⟩:=I.get q
    obtain ⟨w,L,C⟩:=h4.get B
    refine ⟨⟨m,n,u,w,br.of o,br.of p,J,L⟩,λv ac q0=>?_⟩
    obtain ⟨T,x',y',N,e,eH,hy⟩:=q0
    obtain ⟨O,Q⟩:=hy m n (br.of o)<|br.of p
    rw [J] at O;rw [L] at Q
    cases O;cases Q
    subst e eH
    refine ⟨c8 N _,?_⟩
    exact mU A N (.cons (ru.mono f) (.cons (C.mono f) .nil))
 .have o:=(aw<|f _ _ r).2
  have p:=(aw<|f _ _ z).2
  refine ⟨m,n,br.of o,br.of p,?_⟩
  rw [I.length]
  simp [kE,U]
end FL
namespace L2
open PySem PySem.Spec PyProof.Rows
def zM (K:PySem.W.Frag)(a:Addr):It:=
 ⟨λi H=>∃xs x,aQ K H a xs/\xs[i]?=some x,
  λi H v H'=>∃T x,H T=none/\v=.ref T/\H'=upd H T (.tup [.int i,x])/\∀xs,aQ K H a xs->xs[i]?=some x,
  λi H=>∃xs,aQ K H a xs/\xs.length<=i⟩
def Ki {P:Program}{w:World}{K:W.Frag}{es:List Expr}{kk:Nat}{tp:Pos}{e it a:Addr}(hne:e≠it):
  iF P w K (.Tuple es kk tp) (zM K a) [e,it] e (λi h=>(∃old,IsEnum h e it ((i:Nat):Int) old)/\h.IsListIter it a i) where
 mem:=by simp
 obj:=λi h q0 q hq=>by
  obtain ⟨⟨old,he⟩,⟨o1,e1,_,d1⟩⟩:=q0
  simp only [Lw,L1,Mo] at hq
  rcases hq with rfl|rfl
  .exact ⟨_,he,λv z=>nomatch z⟩
  .exact ⟨_,e1,λv z=>by rw [d1] at z;cases z⟩
 keep:=λi h h' q1 k=>by obtain ⟨⟨old,he⟩,⟨o1,e1,r1⟩⟩:=q1;exact ⟨⟨old,k _ Z8 _ he⟩,⟨o1,k _ Z8 _ e1,r1⟩⟩
 item:=by
  intro X hP hw hK hc i pins s σ H E I hf st hg
  subst hP hw hK
  obtain ⟨xs,x,hq,hx⟩:=hg
  obtain ⟨its,rv,p,hz⟩:=I.list hq
  obtain ⟨u,hu,ru⟩:=rv.get hx
  obtain ⟨⟨old,he⟩,hit⟩:=st
  refine wpAny_pyNext_enum_item he hit p.isList (x:=u) (by simpa using hu) hne λh' heo hit' hT hzz kp=>?_
  refine ⟨_,rfl,?_⟩
  refine Pd (s:={s with heap:=h',toks:=s.toks+1}) heo λh2' he2 sb=>?_
  have hTe:s.heap.objs.size≠e:=NF<|LL he
  have hT2:h2'.get? s.heap.objs.size=some {cls:=.type "tuple",data:=.seq #[.int i s.toks,u]}:=(sb.2 _ hTe).trans hT
  have kp2:∀c o,c∉[e,it]->s.heap.get? c=some o->h2'.get? c=some o:=λc o hc e'=>(sb.2 c λq=>hc (by simp [q])).trans<|kp c o (λq=>hc (by simp [q])) (λq=>hc (by simp [q])) e'
  have hTn:H s.heap.objs.size=none:=I.ay.fresh<|Lo _
  refine ⟨.ref s.heap.objs.size,upd H s.heap.objs.size (.tup [.int i,x]),I.ub (t':=s.toks+1) hf (Lo _) kp2 ⟨by show 2<=sizeLine;decide,[.int i s.toks,u],.cons ⟨_,rfl⟩ (.cons ru .nil),⟨_,hT2,rfl,_,rfl⟩⟩,rfl,⟨_,x,hTn,rfl,rfl,λys hy=>by rw [I.ql hy hq];exact hx⟩,⟨⟨u,he2⟩,hit'.extBut sb.extBut<|Ml hne⟩,λb' hb=>?_⟩
  obtain ⟨ob,e',_⟩:∃ob,s.heap.get? b'=some ob/\True:=by
   simp only [Lw,L1,Mo] at hb
   obtain ⟨o1,e1,_⟩:=hit
   rcases hb with rfl|rfl
   .exact ⟨_,he,trivial⟩
   .exact ⟨_,e1,trivial⟩
  rw [aA<|LY<|LL e']
  exact (hf b' hb).1
 done:=by
  intro X hP hw hK hc i pins s σ H E I hf st hg
  subst hP hw hK
  obtain ⟨xs,hq,hx⟩:=hg
  obtain ⟨its,rv,p,hz⟩:=I.list hq
  obtain ⟨⟨old,he⟩,hit⟩:=st
  have hl:=rv.length
  exact wpAny_pyNext_enum_end (I.ok.hd hc) he hit p.isList (by simp;omega) λh' eb=>⟨rfl,I.uh (t':=s.toks) hf λc o hcc e=>eb c o (λq=>hcc (by simp [q])) e⟩
 self:=λA i s Q E st h=>let ⟨⟨_,he⟩,_⟩:=st;Oy he h
def yC (K:PySem.W.Frag)(a:Addr)(n:Nat):It:=
 ⟨λi H=>i<n/\∃xs x,aQ K H a xs/\xs.length=n/\xs[n-1-i]?=some x,λi H x H'=>H'=H/\∀xs,aQ K H a xs->xs[n-1-i]?=some x,λi H=>n<=i⟩
def DF {P:Program}{w:World}{K:W.Frag}{tg:Expr}(a it:Addr)(n:Nat):iF P w K tg (yC K a n) [it] it (λi h=>i<=n/\h.IsRevIter it a ((n:Int)-1-(i:Int))) where
 mem:=by simp
 obj:=λi h st b hb=>by
  have e:b=it:=by simpa using hb
  subst e
  obtain ⟨_,o,e,c,d⟩:=st
  exact ⟨o,e,λv z=>by rw [d] at z;cases z⟩
 keep:=λi h h' st k=>⟨st.1,st.2.at λo e=>k it Z8 o e⟩
 item:=by
  intro X hP hw hK hc i pins s σ H E I hf st hg
  subst hP hw hK
  obtain ⟨hin,xs,x,hq,hn,hx⟩:=hg
  obtain ⟨its,rv,p,hz⟩:=I.list hq
  obtain ⟨u,hu,ru⟩:=rv.get hx
  obtain ⟨f0,f1,f2,f3,f4,f5⟩:=hf it Z8
  have e1:(n:Int)-1-(i:Int)=((n-1-i:Nat):Int):=by omega
  have hit:=st.2
  rw [e1] at hit
  refine wpAny_pyNext_rev_item hit p.isList (x:=u) (by simpa using hu) λh' st' sb=>?_
  have I1:Inv X pins σ H {s with heap:=h'}:=I.turned (t':=s.toks) (λb o hb e=>(sb.2 b hb).trans e) f0 f1 f3 f4 f5
  have e2:((n-1-i:Nat):Int)-1=(n:Int)-1-((i+1:Nat):Int):=by omega
  rw [e2] at st'
  obtain ⟨o,e,c,d⟩:=id st'
  exact ⟨u,rfl,nc (s:={s with heap:=h'}) e c d Z1 ⟨x,H,I1,ru,⟨rfl,λys hy=>by rw [I.ql hy hq];exact hx⟩,⟨hin,st'⟩,λb hb=>(hf b hb).1⟩⟩
 done:=by
  intro X hP hw hK hc i pins s σ H E I hf st hg
  subst hP hw hK
  obtain ⟨f0,f1,f2,f3,f4,f5⟩:=hf it Z8
  have hg:n<=i:=hg
  have e:(n:Int)-1-(i:Int)=-1:=by have:=st.1;omega
  have hit:=st.2
  rw [e] at hit
  exact wpAny_pyNext_rev_end (I.ok.hd hc) hit λh' eb=>⟨rfl,I.turned (t':=s.toks) (λb o hb e=>eb b o hb e) f0 f1 f3 f4 f5⟩
 self:=λ_ _ _ _ _ st h=>wpAny_pyIter_revIter st.2 h
section
variable {X:Cx}
def yX (K:PySem.W.Frag)(t:TA):TI:=λσ H R=>t σ H λvs H1=>∃a,vs=[.ref a]/\(∃xs,aQ K H1 a xs)/\R (zM K a) H1
def Ao{a:Expr}(w:X.mg "enumerate"=none)(x:PA X [a] t)(y:Gl X "enumerate":=by rfl)(z:starEach [a] X.env=[(false,eval a X.env)]:=by rfl)(f:starEach [] X.env=[]:=by rfl):
  PI X (.Tuple r u v) (.Call (.Name "enumerate" p) [a] [] e) (yX X.K t):=by
 intro b s k H R I h
 refine Call_<|je I y w O4<|MA (aS (x e b s k H _ I h) λO d ⟨Q,l,i,A,B⟩=>?_) (by rw [z,f]) (by rw [f];rfl)
 obtain ⟨a,rfl,⟨T,C⟩,q⟩:=B
 obtain ⟨U,rfl,j⟩:=ba.one A
 cases j
 obtain ⟨E,Y,G,J⟩:=i.list C
 refine call_enumerate_list G.isList λm n L hz M=>?_
 have N:Inv X b k l {d with heap:=m}:=i.kept (t':=d.toks) M
 refine Oy (s:={d with heap:=m}) n ?_
 refine ⟨d.heap.objs.size+1,[d.heap.objs.size+1,d.heap.objs.size],_,_,l,rfl,N,Ki<|Nat.succ_ne_self _,⟨⟨_,n⟩,L⟩,λc o=>?_,q⟩
 have g:d.heap.objs.size<=c:=by
  simp only [Lw,L1,Mo] at o
  rcases o with rfl|rfl
  .exact Mr _ _
  .exact Lo _
 exact i.gL g<|i.ay.fresh g
def Ar (K:PySem.W.Frag)(t:TA):TI:=λσ H R=>t σ H λvs H1=>∃a xs,vs=[.ref a]/\aQ K H1 a xs/\R (yC K a xs.length) H1
def KN{a:Expr}(v:X.mg "reversed"=none)(w:PA X [a] t)(x:Gl X "reversed":=by rfl)(y:starEach [a] X.env=[(false,eval a X.env)]:=by rfl)(j:starEach [] X.env=[]:=by rfl):
  PI X u (.Call (.Name "reversed" p) [a] [] i) (Ar X.K t):=by
 intro f s n H R I h
 refine Call_<|je I x v PyProof.Rows.boot_reversed<|MA (aS (w i f s n H _ I h) λM c ⟨N,r,k,z,A⟩=>?_) (by rw [y,j]) (by rw [j];rfl)
 obtain ⟨a,l,rfl,B,q⟩:=A
 obtain ⟨O,rfl,m⟩:=ba.one z
 cases m
 obtain ⟨d,C,E,G⟩:=k.list B
 have Q:=C.length
 refine call_reversed_list E.isList ?_
 have J:Inv X f n r {c with heap:=c.heap.push (revObj a<|(d.toArray.size:Int)-1)}:=k.kept (t':=c.toks) λb o e=>Ln _ e
 have g:(c.heap.push<|revObj a<|(d.toArray.size:Int)-1).IsRevIter c.heap.objs.size a ((l.length:Int)-1-((0:Nat):Int)):=by
  refine ⟨_,LJ _ rfl,rfl,?_⟩
  have:((d.toArray.size:Nat):Int)-1=(l.length:Int)-1-((0:Nat):Int):=by simp;omega
  rw [<-this]
  rfl
 refine wpAny_pyIter_revIter (s:={c with heap:=c.heap.push (revObj a<|(d.toArray.size:Int)-1)}) g ?_
 refine ⟨c.heap.objs.size,[c.heap.objs.size],_,_,r,rfl,J,DF a _ l.length,⟨LP _,g⟩,λb L=>?_,q⟩
 have e:b=c.heap.objs.size:=by simpa using L
 subst e
 exact k.gL (Lo _)<|k.ay.fresh<|Lo _
end
end L2
namespace FL
open PySem L2
def Hn{K:W.Frag}(h:dO t G n [.lst e]):Walk (Ar K t) G n e.reverse:=λM H s l R k=>h M H s l _ λO w x y=>by
 obtain ⟨Q,rfl,z⟩:=iR y
 obtain ⟨a,c,rfl,o,f⟩:=z.dI
 refine ⟨a,c,rfl,aQ.of (aw o).2,k _ w x (λj d A B g i C=>?_) λA B i=>?_⟩
 .have p:=(aw<|i _ _ o).2
  have b:=f.length
  have m:j<e.length:=by have:=(Li.mp g).1;simpa using this
  rw [List.getElem?_reverse m,<-b] at g
  obtain ⟨u,q,E⟩:=f.get g
  refine ⟨⟨by omega,c,u,aQ.of p,rfl,q⟩,λv I J=>?_⟩
  obtain ⟨L,N⟩:=J
  have r:=N c<|aQ.of p
  rw [q] at r
  cases r
  subst L
  exact ⟨ab.refl _,E.mono i⟩
 .show c.length<=_
  rw [f.length,OY]
  exact Lo _
end FL
namespace PySem
section
variable {prog:Program}{w:World}{K:Type} [DecidableEq K] {knd:HeapKind prog w K}{A:Around}{E:Value->Shared->Prop}{s:Shared}
def J3{dflt:Value}{Q:ZT}(u:knd.room A)(c:knd.is s.heap k a)(C:s.heap.DictOfH knd d h)
  (G:∀v,(atKey h k).map (·.2)=some v->Q v {s with toks:=s.toks+knd.draws k})
  (H:(atKey h k).map (·.2)=none->∀r,r.DictOfH knd d (storedH h k a dflt)->Heap.SameBut d s.heap r->Q dflt {s with heap:=r,toks:=s.toks+knd.draws k})
  (hsz:h.length<=sizeLine:=by size_fits):wpAny (model prog w) A (dictSetDefault d (.ref a) dflt) Q E s:=by
 obtain ⟨o,L,I,i,J,g,q,l,t⟩:=C
 unfold dictSetDefault
 try with_reducible refine MZ ?_
 refine Lh<|knd.pyHash u c ?_
 refine Lh<|wpAny_dictFind_heap (s:={s with toks:=s.toks+knd.draws k}) u c i g q l t ?_ ?_
 .intro m
  have n:k∉h.map (·.1):=not_mem_keys_of_get m
  have b:=atKey_none_of_get m
  refine Lh (Oj (Lh (wpAny_updateDictKeys (hz:=by have e:=size_of_entries q;omega) (s:={s with toks:=s.toks+knd.draws k}) i g (Lz (H (by rw [b];rfl) _ ⟨_,_,I+1,NQ _ i<|Obj.isFreed_of_dict<|Obj.data_mapDictKeys g _,
   J.mapDictKeys _,Obj.data_mapDictKeys g _,?_,?_,?_⟩<|Nw ..)))))
  .rw [storedH_new b]
   simp [q,entryOfKey]
  .rw [storedH_new b]
   intro x f
   rcases LI.mp f with f|f
   .exact knd.keeps (l x f) i g<|Nw ..
   .simp only [LK] at f
    subst f
    exact knd.keeps c i g<|Nw ..
  .rw [storedH_new b]
   rw [LU,N3]
   refine ⟨t,by simp,?_⟩
   intro x f y z
   simp only [Me,Ow,LK] at z
   subst z
   exact λe=>n<|e▸f
 .intro j p B
  refine Lh<|wpAny_dictEntries (s:={s with toks:=s.toks+knd.draws k}) i g ?_
  rw [entry_at q j,B]
  exact Lh<|Oj<|Lz<|G _ (by rw [atKey_of_get t B];rfl)
def Cy (knd:HeapKind prog w K)(d a:Addr)(i:(d==sysModules)=false)(dflt:Value):
  MeetsIn prog w (Builtin.«dict.setdefault» ⟨[.ref d,.ref a,dflt],[]⟩) (λA R s=>knd.room A.in1/\∃k b,knd.is s.heap k a/\s.heap.DictOfH knd d b/\b.length<=sizeLine/\
   (∀v,(atKey b k).map (·.2)=some v->R (.ok (.ret v)) {s with toks:=s.toks+knd.draws k})/\
   ((atKey b k).map (·.2)=none->∀c,c.DictOfH knd d (storedH b k a dflt)->Heap.SameBut d s.heap c->R (.ok (.ret dflt)) {s with heap:=c,toks:=s.toks+knd.draws k})):=
 .of_wp λA R s j=>by
  obtain ⟨l,k,b,e,h,m,n,o⟩:=j
  unfold Builtin.«dict.setdefault»
  refine Lh ?_
  unfold Builtin.Dict.keyAndDefault
  refine Lh<|wpAny_notOrdered_dict h.typeIs ?_
  show wpAny _ _ (pure (d,Value.ref a,some dflt)) _ _ s
  refine Lz ?_
  show wpAny _ _ (if (d==sysModules)=true then _ else (dictSetDefault d (.ref a) dflt>>=_)) _ _ s
  rw [Lq (by rw [i];exact Ls)]
  exact Lh<|J3 (hsz:=m) l e h (λv p=>Lz ⟨v,rfl,n v p⟩) λq c f g=>Lz ⟨dflt,rfl,o q c f g⟩
end
end PySem
namespace L2
open PySem PySem.Spec PyProof.Rows
def zX (H:Hp)(a:Addr)(y z r:V)(H':Hp):Prop:=(cT H a y (some r)/\H'=H/\∃o,H a=some o)\/(cT H a y none/\r=z/\gu H a y z H')
section
variable {X:Cx}{pins:List (Addr×Obj)}{σ:St}{H:Hp}{s:Shared}{a:Addr}{y z v:V}{u r:Value}{A:Around}{E:Value->Shared->Prop}
def HZ{Q:ZT}(hu:A.units+1<cLine)(I:Inv X pins σ H s)(g:zX H a y z v H')(ry:RelV y u)(rz:RelV z r)(h:∀w' s',Inv X pins σ H' s'->RelV v w'->Q w' s'):
  wpAny (model X.prog X.w) A (call (.builtin "dict.setdefault") [.ref a,u,r]) Q E s:=by
 rcases g with ⟨g,rfl,ho⟩|⟨g,rfl,p⟩
 .rcases g with ⟨f,k,e,J,l⟩|⟨f,k,b,e,J,T,l⟩
  .subst J
   obtain ⟨L,x,U,bw,m⟩:=gY I.ay e
   obtain ⟨w',Y,M⟩:=dU.some_of (v:=v) (o:=valueAt U k) (by rw [l];exact bw.val k)
   refine NH ML m.typeIs M3 (MY _ _ _) (kt_meets_setdefault (dq X.prog X.w) a (jZ ry) x r) ⟨U,m,by rw [<-bw.length];exact L,λv' d=>?_,λB=>by rw [Y] at B;cases B⟩
   rw [Y] at d
   cases d
   exact h _ _ (I.tok _) M
  .subst J
   cases (show u=Value.ref b from ry)
   obtain ⟨L,x,O,bw,m⟩:=js I.ay e
   obtain ⟨w',Y,M⟩:=dU.some_of (v:=v) (o:=(atKey O k).map (·.2)) (by rw [l];exact bw.val k)
   refine NH ML m.typeIs M3 (MY _ _ _) (Cy (tupleKind<|dq X.prog X.w) a b x r) ⟨MX hu,k,O,kf I.ay T,m,by rw [<-Ng bw];exact L,λv' d=>?_,λB=>by rw [Y] at B;cases B⟩
   rw [Y] at d
   cases d
   exact h _ _ (I.tok _) M
 .rcases p with ⟨f,k,e,J,l,eH⟩|⟨f,k,b,e,J,T,l,eH⟩
  .subst J eH
   obtain ⟨L,x,U,bw,m⟩:=yZ I.ay e
   have hg:bm f k=none:=by
    rcases g with ⟨n,C,i,j,l'⟩|⟨n,C,b',i,j,N,l'⟩
    .have e1:kV k=kV C:=j
     have:k=C:=by
      cases k<;>cases C<;>simp [kV] at e1<;>rw [e1]
     subst this
     rcases i with i|i
     .rw [e] at i;cases i;exact l'.symm
     .rw [e] at i;simp at i
    .cases k<;>cases j
   have B:valueAt U k=none:=dU.none_of (by rw [<-hg];exact bw.val k)
   have hl:(ca f k v).length<=sizeLine:=by have:=nj f k v;omega
   refine NH ML m.typeIs M3 (MY _ _ _) (kt_meets_setdefault (dq X.prog X.w) a (jZ ry) x r) ⟨U,m,by rw [<-bw.length];exact L,λv' d=>(by rw [B] at d;cases d),λ_ h' G hs=>h _ _ ?_ rz⟩
   have he:∃q,h'.get? a=some q:=let ⟨q,_,_,hq,_⟩:=G;⟨q,hq⟩
   exact tG I (by rw [e];exact True.intro) hs he<|tX hl x (bw.put k rz) G
  .subst J eH
   cases (show u=Value.ref b from ry)
   obtain ⟨L,x,O,bw,m⟩:=yQ I.ay e
   have hg:bm f k=none:=by
    rcases g with ⟨n,C,i,j,l'⟩|⟨n,C,b',i,j,N,l'⟩
    .cases C<;>cases j
    .cases j
     rw [T] at N
     have e1:k.map kV=C.map kV:=by injection N with e2;injection e2
     have ac:∀(p q:List aJ),p.map kV=q.map kV->p=q:=by
      intro p
      induction p with
      |nil=>intro q h;cases q<;>first|rfl|cases h
      |cons c t ih=>
       intro q h
       cases q with
       |nil=>cases h
       |cons c' t'=>
        obtain ⟨h1,h2⟩:=Nr h
        have:c=c':=by cases c<;>cases c'<;>simp [kV] at h1<;>rw [h1]
        rw [this,ih t' h2]
     have:k=C:=ac _ _ e1
     subst this
     rcases i with i|i
     .rw [e] at i;cases i;exact l'.symm
     .rw [e] at i;simp at i
   have B:(atKey O k).map (·.2)=none:=dU.none_of (by rw [<-hg];exact bw.val k)
   have hz:O.length<=sizeLine:=by rw [<-Ng bw];exact L
   have hl:(ca f k v).length<=sizeLine:=by have:=nj f k v;omega
   refine NH ML m.typeIs M3 (MY _ _ _) (Cy (tupleKind<|dq X.prog X.w) a b x r) ⟨MX hu,k,O,kf I.ay T,m,hz,λv' d=>(by rw [B] at d;cases d),λ_ h' G hs=>h _ _ ?_ rz⟩
   obtain ⟨q,es,ep,hq,h2,h3,h4,_,h5⟩:=G
   refine tG I (by rw [e];exact True.intro) hs ⟨q,hq⟩ ⟨hl,x,_,(bw.put k T rz).keeps λc ys ec=>?_,q,es,ep,hq,h2,h3,h4,h5⟩
   rw [aA<|y9 ec e λz=>nomatch z]
   exact ec
end
def vw (td ty tx:TE):TE:=λσ H Q=>td σ H λx H1=>∃a,x=.ref a/\rN H1 a/\ty σ H1 λy H2=>tx σ H2 λz H3=>∃r H4,zX H3 a y z r H4/\Q r H4
def zR{X:Cx}(t:X.A.units+1<cLine)(v:PE X o l)(w:PE X e n)(B:PE X f p)(m:M2 X o "setdefault" c e f i):PE X (.Call (.Attribute o "setdefault" c) [e,f] [] i) (vw l n p):=by
 intro b s j H Q I h
 refine wpAny_Call_method m.base m.dA m.line Op ML PySem.F.type_dict_setdefault<|aS (v b s j H _ I h) λu C E=>?_
 obtain ⟨x,G,q,J,a,L,d,M⟩:=E
 subst L
 obtain rfl:u=Value.ref a:=J
 obtain ⟨N,O,_⟩:=vp q d
 refine ⟨N,O,?_⟩
 rw [m.trees]
 refine Nd rfl (ON (NG (aS (w b C j G _ q M) λiv T ⟨y,U,Y,ry,q2⟩=>
  NG (aS (B b T j U _ Y q2) λfv s3 ⟨z,H3,I3,rz,r,H4,g,q3⟩=>Pm ?_))))
 exact HZ t I3 g ry rz λw' s4 I4 k=>⟨r,H4,I4,k,q3⟩
end L2
namespace FL
open PySem L2
def bA (R:List D->D->Prop):Sp:=λvs H Q _=>∃M ds d,ap M H/\az (but H M) vs ds/\R ds d/\∀v H',ab H H'->al (but H' M) v d->Q v H'
def bQ{R:ZZ->D->Prop}(c:R ds d)(h:dO t G a ds):ae (ii (bA R) [] E t) G a d:=
 λM H s l Q k=>h M H s l _ λj m b e=>⟨M,ds,d,l.same b,by rw [LV];exact e,c,λv f g i=>k v f (b.trans g) i⟩
def eI{R:ZZ->D->Prop}(c:∀a d,R a d->a.length=n):∀b H Q E,bA R b H Q E->b.length=n:=λb H Q E f=>by obtain ⟨M,a,d,l,r,e,k⟩:=f;rw [r.length];exact c a d e
def jr:dM (h::r) 0=some h:=me Z1 rfl
def fQ (d:D):Bool:=zf d&& !yq d
def Bu (d:D):Bool:=ri d||fQ d
def pY:List D->D->Prop:=λds d=>∃l k,ds=[.lst l,.int k]/\0<=k/\d=lQ l k
def uE:List D->D->Prop:=λds d=>∃x,ds=[x]/\d=.bl (fQ x)
def lq (ns:List Int):List Int:=(List.range ns.length).map λ(k:Nat)=>(ns.getD k 0+7919*(k:Int))*48271%1000003
def A6:List D->D->Prop:=λds d=>∃ns:List Int,ds=[.lst (ns.map D.int)]/\ns.length<=63/\d=.lst ((lq ns).map D.int)
def Hz (a:List Int):(lq a).length=a.length:=by simp [lq]
def kK (a:List Int)(k:Nat):pY [.lst (a.map D.int),.int (k:Int)] (.int (a.getD k 0)):=⟨_,_,rfl,by omega,(Gp a k).symm⟩
def FV {d:D}(h:d.sc=true):Bu d=true:=by
 cases d with
 |int i=>rfl
 |str i=>rfl
 |_=>exact absurd h (by simp [D.sc])
def fm{l:ZZ}(x:Int)(c:0<n)(e:l.length=n):∃d,dM l (x%(n:Int))=some d/\d∈l/\d=l.getD (x%(n:Int)).toNat .aq:=by
 have b:=PR x (show (n:Int)≠0 by omega)
 have f:=Int.emod_lt_of_pos x (show (0:Int)<n by omega)
 have a:(x%(n:Int)).toNat<l.length:=by omega
 refine ⟨l[(x%(n:Int)).toNat],me b<|Lk a,NE a,?_⟩
 simp [List.getD,Lk a]
section
variable {σ:St}{δ:Dn}{d:D}{M:List Addr}{H:Hp}{ta te:TE}{t:TA}{E:Ends}{ds:List D}{K:PySem.W.Frag}
def fV(l:ap M H)(c:ax (but H M) σ δ)(h:ae ta (but H M) σ d)(k:∀a b,(∀j:Nat,j≠i->a[j]?=σ[j]?)->ab H b->ap M b->ax (but b M) a (δ.set i (some d))->E.nx a b):dZ ta (cf i) E σ H:=
 h.at l λv b s r=>k _ b (λj e=>Lm<|Ml e) s (l.same s)<|(c.same s).set i r
def m4(l:ap M H)(r:ax (but H M) σ δ)(B:i<δ.length)(h:dO t (but H M) σ ds)(x:ds.length<=sizeLine)
  (k:∀p g c f,(∀j:Nat,j≠i->c[j]?=σ[j]?)->c[i]?=some (some (.ref p))->p∉M->f p=some (.lst g)->az (but f (p::M)) g ds->ap (p::M) f->(∀b o,H b=some o->b≠p/\f b=some o)->ax (but f (p::M)) c (δ.set i none)->E.nx c f):dZ (jG t) (cf i) E σ H:=
 h M H (ab.refl _) l _ λg y m s=>⟨by rw [s.length];exact x,λp n=>by
  have C:=r.len
  refine k p g _ _ (λj z=>Lm<|Ml z) (Lx Z4) ((l.same m).fresh n) aN (tf n s) ((l.same m).upd.cons aN) (λb o e=>?_) ?_
  .have u:=m b o e
   have w:b≠p:=cU u n
   exact ⟨w,by rw [aA w];exact u⟩
  .have A:ax (but (upd y p (.lst g)) (p::M)) σ δ:=⟨r.len,λj d q=>let ⟨v,a,b⟩:=(r.same m).get j d q;⟨v,a,tH n b⟩⟩
   exact A.off i _⟩
def Hq{k:Nat}(l:ap M H)(m:ax (but H M) σ δ)(z:i<δ.length)(e:σ[k]?=some (some (.ref a)))(u:H a=some (.lst f))(r:az (but H M) f ds)
  (q:∀p c g,(∀j:Nat,j≠i->c[j]?=σ[j]?)->c[i]?=some (some (.ref p))->p∉M->g p=some (.lst f)->az (but g (p::M)) f ds->ap (p::M) g->(∀b o,H b=some o->b≠p/\g b=some o)->ax (but g (p::M)) c (δ.set i none)->E.nx c g):
  dZ (cI (λw H Q=>∃p n,w=[.ref p]/\(aQ K H p n\/br K H p n)/\∀l,H l=none->Q (.ref l) (upd H l (.lst n))) (bn (aY k) bB)) (cf i) E σ H:=
 ⟨.ref a,e,a,f,rfl,.inl<|aQ.of u,λp h=>by
  have A:=m.len
  refine q p _ _ (λj x=>Lm<|Ml x) (Lx Z4) (l.fresh h) aN (tf h r) (l.upd.cons aN) (λb o e=>?_) ?_
  .have s:b≠p:=cU e h
   exact ⟨s,by rw [aA s];exact e⟩
  .have y:ax (but (upd H p (.lst f)) (p::M)) σ δ:=⟨m.len,λj d q=>let ⟨v,a,b⟩:=m.get j d q;⟨v,a,tH h b⟩⟩
   exact y.off i _⟩
def tM{i:Nat}(l:ap M H)(m:ax (but H M) σ δ)(g:a∈M)(e:σ[i]?=some (some (.ref a)))(n:H a=some (.lst f))(r:az (but H M) f ds)(p:ds.length<sizeLine)(h:ae te (but H M) σ d)
  (k:∀v c,(∀b o,b≠a->H b=some o->c b=some o)->ap M c->c a=some (.lst (f++[v]))->az (but c M) (f++[v]) (ds++[d])->ax (but c M) σ δ->E.nx σ c):j6 (ma K "list" n0 (aY i) (bn te bB)) E σ H:=
 D5 l e n (by rw [r.length];exact p) h λv c s u=>by
  have j:but (upd c a (.lst<|f++[v])) M=but c M:=dw g
  refine k v _ (λb o w q=>by rw [aA w];exact s b o q) (l.same s).upd aN ?_ ?_
  .rw [j];exact (r.mono<|s.but M).snoc u
  .rw [j];exact m.same s
def lD{H c:Hp}{M:ZX}(g:a∈M)(k:∀b o,b≠a->H b=some o->c b=some o):ab (but H M) (but c M):=λb o e=>by
 obtain ⟨f,h⟩:=aw e
 rw [bf f]
 exact k b o (λz=>f (by rw [z];exact g)) h
def nZ{Q:St->Hp->Prop}(g:al (but H M) x (.tup [e,f]))(k:∀c b,al (but H M) c e->al (but H M) b f->Q ((σ.set i (some c)).set j (some b)) H):na K 2 (jU (cf i) (jU (cf j) pH)) x σ H Q:=by
 obtain ⟨a,o,rfl,h,l⟩:=g.eP
 obtain ⟨c,b,rfl,m,n⟩:=pp l
 exact ⟨a,_,rfl,br.of (aw h).2,rfl,c,[b],rfl,b,[],rfl,rfl,k c b m n⟩
end
def D.toV:D->V
 |.int i=>.int i
 |.str x=>.str x
 |.bl b=>.bl b
 |_=>.aq
def D.key:D->aJ
 |.int i=>.inl i
 |.str x=>.inr x
 |_=>.inl 0
def AG{d:D}(h:d.sc=true):al H d.toV d:=by
 cases d with
 |int i=>exact .int i
 |str x=>exact .str x
 |_=>exact absurd h (by simp [D.sc])
def fC{d:D}(h:d.sc=true)(r:al H v d):v=d.toV/\v=kV d.key:=by
 cases r with
 |int i=>exact ⟨rfl,rfl⟩
 |str x=>exact ⟨rfl,rfl⟩
 |_=>exact absurd h (by simp [D.sc])
def wB {a b:D}(d:a.sc=true)(c:b.sc=true):a.key=b.key↔a=b:=by
 cases a with
 |int i=>cases b<;>first|(exfalso;simp [D.sc] at c;done)|simp [D.key]
 |str i=>cases b<;>first|(exfalso;simp [D.sc] at c;done)|simp [D.key]
 |_=>exact absurd d (by simp [D.sc])
theorem u8 (j:aJ):∀(b a:List (aJ×V)),bm (cb a b) j=b.foldl (λo p=>if j=p.1 then some p.2 else o) (bm a j)
 |[],a=>rfl
 |p::r,a=>by
  show bm (cb (ca a p.1 p.2) r) j=_
  rw [u8 j r,uc]
  rfl
abbrev aP:=List (Str×D)
def pairD (ps:aP):List D:=ps.map λp=>.tup [.str p.1,p.2]
def bK (ps:aP):List (aJ×V):=ps.map λp=>(Sum.inr p.1,p.2.toV)
def bY (ps:aP)(x:D):D:=ps.foldl (λacc p=>if D.str p.1=x then p.2 else acc) x
theorem rp{K:W.Frag}:∀{b:aP} {c:List V},(∀p∈b,p.2.sc=true)->az (but H M) c (pairD b)->Pairs K H c (bK b)
 |[],_,_,.nil=>.nil
 |p::r,_,d,.cons (v:=v) h t=>by
  obtain ⟨a,m,rfl,e,f⟩:=h.eP
  obtain ⟨n,o,rfl,g,i⟩:=pp f
  refine .cons ⟨a,rfl,?_⟩<|rp (λq j=>d q<|Lg _ j) t
  have k:=(fC (d p Lj) i).1
  have l:=g.ul
  subst l k
  exact br.of (aw e).2
theorem uS (x:D)(f:x.sc=true):∀(d:aP) (o:Option V) (c:D),(∀p∈d,p.2.sc=true)->o.getD x.toV=c.toV->c.sc=true->
  (((bK d).foldl (λo p=>if x.key=p.1 then some p.2 else o) o).getD x.toV=(d.foldl (λc p=>if D.str p.1=x then p.2 else c) c).toV/\(d.foldl (λc p=>if D.str p.1=x then p.2 else c) c).sc=true)
 |[],o,c,_,h,g=>⟨h,g⟩
 |p::r,o,c,j,h,g=>by
  have k:∀q∈r,q.2.sc=true:=λq l=>j q<|Lg _ l
  show ((bK r).foldl _<|if x.key=Sum.inr p.1 then some p.2.toV else o).getD x.toV=(r.foldl _<|if D.str p.1=x then p.2 else c).toV/\_
  by_cases e:D.str p.1=x
  .have i:x.key=Sum.inr p.1:=by rw [<-e];rfl
   rw [Lv e,Lv i]
   have:=uS x f r (some p.2.toV) p.2 k rfl<|j p Lj
   refine ⟨this.1,?_⟩
   show (r.foldl _<|if D.str p.1=x then p.2 else c).sc=true
   rw [Lv e];exact this.2
  .have i:¬x.key=Sum.inr p.1:=λz=>e ((wB (a:=D.str p.1) (b:=x) rfl f).mp z.symm)
   rw [Lq e,Lq i]
   have:=uS x f r o c k h g
   refine ⟨this.1,?_⟩
   show (r.foldl _<|if D.str p.1=x then p.2 else c).sc=true
   rw [Lq e];exact this.2
def kT {ps:aP}{x:D}(a:x.sc=true)(b:∀p∈ps,p.2.sc=true):(bm (cb [] (bK ps)) x.key).getD x.toV=(bY ps x).toV/\(bY ps x).sc=true:=by
 rw [u8]
 exact uS x a ps none x b rfl a
def z8{G:Hp}{i:Nat}{x:D}(e:f[i]?=some (some (.ref a)))(q:G a=some (.dK (cb [] (bK b))))(c:x.sc=true)(m:∀p∈b,p.2.sc=true)(h:ae (aY j) G f x):ae (px (aY i) (aY j) (aY j)) G f (bY b x):=
 λM H s l Q k=>by
  have n:=(aw<|s _ _ q).2
  refine ⟨.ref a,e,a,rfl,.inl ⟨_,.inl n⟩,h M H s l _ λy r d t=>h M r (s.trans<|d.but M) (l.same d) _ λz u o v=>?_⟩
  obtain ⟨B,w⟩:=fC c t
  obtain ⟨A,_⟩:=fC c v
  have g:=o _ _<|d _ _ n
  refine ⟨bm (cb []<|bK b) x.key,?_,?_⟩
  .rw [w];exact cT.k g
  .rw [A,(kT c m).1]
   exact k _ u (d.trans o)<|AG (kT c m).2
end FL
namespace FL
open PySem L2
def D.name:D->Str
 |.str s=>s
 |_=>Str.empty
def aH:D->Bool
 |.str s=>Txt.isupper ⟨#[s.cps.getD 0 0]⟩
 |_=>false
def eM (F:aP)(x:D):Bool:=F.any λp=>decide (D.str p.1=x)
def fL (F:aP)(x y:D):Option aP:=if (aH x&& !eM F x)=true then some (F++[(x.name,y)]) else if bY F x=y then some F else none
def fz:aP->List (D×D)->Option aP
 |F,[]=>some F
 |F,p::r=>(fL F p.1 p.2).bind λF'=>fz F' r
def Jr:eM F (.str s)=true↔s∈F.map (·.1):=by
 unfold eM
 rw [Oq]
 constructor
 .rintro ⟨p,a,e⟩
  have:=LD e
  injection this with this
  exact LG.mpr ⟨p,a,this⟩
 .intro h
  obtain ⟨p,a,e⟩:=LG.mp h
  exact ⟨p,a,LH (by rw [e])⟩
def Bz (P:aP):Prop:=∀p∈P,∀q∈P,p.1=q.1->p.2=q.2
def D0(f:Bz F)(c:p∈F):bY F (.str p.1)=p.2:=by
 have b:∀(Q:aP) (a:D),(∀q∈Q,q∈F)->(a=p.2\/p∈Q)->Q.foldl (λa q=>if D.str q.1=D.str p.1 then q.2 else a) a=p.2:=by
  intro Q
  induction Q with
  |nil=>intro a _ h;rcases h with h|h;exact h;cases h
  |cons q r g=>
   intro a d h
   show r.foldl _ (if D.str q.1=D.str p.1 then q.2 else a)=p.2
   refine g _ (λt i=>d t<|Lg _ i) ?_
   by_cases e:D.str q.1=D.str p.1
   .rw [Lv e]
    injection e with e
    exact .inl<|f q (d q Lj) p c e
   .rw [Lq e]
    rcases h with h|h
    .exact .inl h
    .rcases Lw.mp h with rfl|h
     .exact absurd rfl e
     .exact .inr h
 exact b F _ (λq h=>h) (.inr c)
def ka(h:eM F x=false):bY F x=x:=by
 have c:∀(Q:aP) (a:D),eM Q x=false->Q.foldl (λa q=>if D.str q.1=x then q.2 else a) a=a:=by
  intro Q
  induction Q with
  |nil=>intro a _;rfl
  |cons q r d=>
   intro a e
   have b:(decide (D.str q.1=x)||eM r x)=false:=e
   rw [NV] at b
   show r.foldl _ (if D.str q.1=x then q.2 else a)=a
   rw [Lq<|Mu b.1]
   exact d a b.2
 exact c F x h
end FL
namespace FL
open PySem L2
section
variable {X:Cx}{a:Expr}{ta:TE}{apos cpos:Pos}
def wK:V->List V->Hp->VK->Prop:=λx xs H Q=>∃z,x=.str z/\xs=[]/\Q (.bl (Txt.isupper z)) H
def KA:sS X "str.isupper" wK:=by
 intro b s e H x f v g Q I c d h
 obtain ⟨z,rfl,rfl,q⟩:=h
 obtain ⟨t,rfl⟩:=c
 cases d
 exact SC.isupper ⟨.bl _,H,I,rfl,q⟩
def Hv (h:PE X a ta)(b:attributeBase a "isupper" X.env (eval a X.env)=eval a X.env:=by rfl)(c:(apos.endLine==cpos.line)=true:=by rfl):PE X (.Call (.Attribute a "isupper" apos) [] [] cpos) (wx X.K "str" wK ta):=
 z7 PySem.F.plainAttrs_str PySem.F.slot_str_isupper PySem.F.type_str_isupper KA h b c
end
section
variable {G:Hp}{σ:St}{ta tb te:TE}{d:D}{K:PySem.W.Frag}
def Hi(h:ae ta G σ (.str x)):ae (wx K "str" wK ta) G σ (.bl (Txt.isupper x)):=
 λM H s l Q k=>h M H s l _ λv a b c=>by
  rw [c.ul]
  exact ⟨rfl,x,rfl,rfl,k _ a b (.bl _)⟩
def Hy{x:Str}(a:x.length<=sizeLine)(b:dM x.cps.toList i=some c)(e:ae ta G σ (.str x))(f:ae tb G σ (.int i)):ae (bZ (gS K) ta tb) G σ (.str ⟨#[c]⟩):=
 jR (λM H v y l g h Q k=>.inr (.inr ⟨x,i,c,g.ul,h.dL,a,b,k _ H (ab.refl _) (.str _)⟩)) e f
def ER{d:D}(r:al H v d):decide (v=.aq)=decide (d=.aq):=by cases r<;>simp
end
def TV (tt:TT)(σ:St)(H:Hp)(b:Bool):Prop:=∀H1,ab H H1->∀Q:Bool->Hp->Prop,(∀H',ab H1 H'->Q b H')->tt σ H1 Q
section
variable {σ:St}{δ:Dn}{M:List Addr}{H:Hp}{tt tu:TT}{ta ty te:TE}{E:Ends}{b c:Bool}{d:D}{K:PySem.W.Frag}
def TV.of (l:ap M H)(h:bJ tt (but H M) σ b):TV tt σ H b:=λe a Q k=>h M e (a.but M) (l.same a) Q k
def G2 (h:TV tt σ H b)(g:b=true->TV tu σ H c):TV (wO tt tu) σ H (b&&c):=λi e Q k=>h i e _ λf a=>by
 cases b with
 |true=>rw [Lv rfl];exact g rfl f (e.trans a) _ λj l=>k j<|a.trans l
 |false=>rw [Lq Ls];exact k f a
def wI {e f:TS}(l:ap M H)(g:ax (but H M) σ δ)(h:TV tt σ H b)(i:b=true->∀a,ab H a->ap M a->ax (but a M) σ δ->e E σ a)(j:b=false->∀a,ab H a->ap M a->ax (but a M) σ δ->f E σ a):mK tt e f E σ H:=
 h H (ab.refl _) _ λa s=>by
  cases b with
  |true=>rw [Lv rfl];exact i rfl a s (l.same s)<|g.same s
  |false=>rw [Lq Ls];exact j rfl a s (l.same s)<|g.same s
def Gk (F:aP)(n:Str)(y:D):cb [] (bK (F++[(n,y)]))=ca (cb [] (bK F)) (Sum.inr n) y.toV:=by
 simp [cb,bK,MM]
def CJ{x:D}(h:x.sc=true):(bm (cb [] (bK F)) x.key).isSome=eM F x:=by
 rw [u8]
 have f:∀(Q:aP) (o:Option V),((bK Q).foldl (λo p=>if x.key=p.1 then some p.2 else o) o).isSome=(o.isSome||eM Q x):=by
  intro Q
  induction Q with
  |nil=>intro o;simp [bK,eM]
  |cons p r i=>
   intro o
   show ((bK r).foldl _<|if x.key=Sum.inr p.1 then some p.2.toV else o).isSome=_
   rw [i]
   show _=(o.isSome||(decide (D.str p.1=x)||eM r x))
   by_cases e:D.str p.1=x
   .have g:x.key=Sum.inr p.1:=by rw [<-e];rfl
    rw [Lv g,LH e]
    simp
   .have g:¬x.key=Sum.inr p.1:=λz=>e ((wB (a:=D.str p.1) (b:=x) rfl h).mp z.symm)
    rw [Lq g,LR e]
    simp
 have:=f F none
 simpa [bm] using this
def IJ{i:Nat}{x:D}(e:σ[i]?=some (some (.ref p)))(j:H p=some (.dK (cb [] (bK F))))(f:x.sc=true)(l:ap M H)(h:ae ty (but H M) σ x):TV (tB (nz ty (aY i))) σ H (!eM F x):=
 λm a Q k=>h M m (a.but M) (l.same a) _ λy n g o=>⟨.ref p,e,p,bm (cb []<|bK F) x.key,rfl,by rw [(fC f o).2];exact cT.k<|g _ _<|a _ _ j,_,rfl,by rw [CJ f];exact k n g⟩
def DL{i:Nat}{x y:D}(e:σ[i]?=some (some (.ref p)))(w:H p=some (.dK (cb [] (bK F))))(o:x.sc=true)(A:y.sc=true)(s:∀q∈F,q.2.sc=true)(l:ap M H)(h:ae (aY j) (but H M) σ x)(B:ae (aY m) (but H M) σ y):
  TV (sQ (bZ (λx y H Q=>oI x y H Q\/pE x y H Q) (px (aY i) (aY j) (aY j)) (aY m))) σ H (!decide (bY F x=y)):=
 λC a Q k=>by
  have g:=a _ _ w
  refine ⟨.ref p,e,p,rfl,.inl ⟨_,.inl g⟩,h M C (a.but M) (l.same a) _ λv G f I=>h M G ((a.trans f).but M) (l.same<|a.trans f) _ λz J r L=>?_⟩
  obtain ⟨e1,N⟩:=fC o I
  obtain ⟨O,_⟩:=fC o L
  refine ⟨bm (cb []<|bK F) x.key,by rw [N];exact cT.k<|r _ _<|f _ _ g,?_⟩
  rw [O,(kT o s).1]
  refine B M J ((a.trans<|f.trans r).but M) (l.same<|a.trans<|f.trans r) _ λu T U Y=>?_
  have t:=(kT (ps:=F) o s).2
  have n:=gj t A
  exact .inl ⟨bY F x,y,⟨M,AG t,Y,n.1,n.2⟩,_,rfl,k T<|f.trans<|r.trans U⟩
end
end FL
namespace FL
open PySem L2
def mJ{d:Hp}(s:ab c H)(h:c a=none)(k:∀b o,b≠a->H b=some o->d b=some o):ab c d:=λb o e=>k b o (λz=>by rw [z,h] at e;cases e)<|s b o e
def none_of{c:Hp}(s:ab a H)(k:∀b o,H b=some o->b≠p/\c b=some o):a p=none:=by
 cases e:a p with
 |none=>rfl
 |some o=>exact absurd rfl (k p o<|s p o e).1
def DO (a:aP)(n:Str)(t:D):pairD (a++[(n,t)])=pairD a++[.tup [.str n,t]]:=by simp [pairD]
def xc{a:aP}{t:D}(h:∀p∈a,p.2.sc=true)(b:t.sc=true):∀p∈a++[(n,t)],p.2.sc=true:=λp c=>by
 rcases LI.mp c with q|q
 .exact h p q
 .rw [LK.mp q];exact b
section
variable {σ:St}{δ:Dn}{M:List Addr}{H:Hp}{tt tu:TT}{ta ty tz te:TE}{E:Ends}{b c:Bool}{d:D}{ds:List D}{K:PySem.W.Frag}
def uB(e:ax (but H M) σ δ)(f:H p=none):ax (but (upd H p o) (p::M)) (σ.set i (some (.ref p))) (δ.set i none):=by
 have g:ax (but (upd H p o) (p::M)) σ δ:=⟨e.len,λj d q=>let ⟨v,a,b⟩:=e.get j d q;⟨v,a,tH f b⟩⟩
 exact g.off i _
def Jm{k:Nat}(l:ap M H)(n:ax (but H M) σ δ)(I:i<δ.length)(u:δ[k]?=some (some (.lst (pairD m))))(w:∀p∈m,p.2.sc=true)
  (q:∀p f g,(∀j:Nat,j≠i->f[j]?=σ[j]?)->f[i]?=some (some (.ref p))->p∉M->g p=some (.dK (cb [] (bK m)))->ap (p::M) g->(∀b o,H b=some o->b≠p/\g b=some o)->ax (but g (p::M)) f (δ.set i none)->E.nx f g):
  dZ (cI (λx H Q=>∃a s h,x=[.ref a]/\aQ K H a s/\Pairs K H s h/\∀p,H p=none->Q (.ref p) (upd H p (.dK (cb [] h)))) (bn (aY k) bB)) (cf i) E σ H:=by
 obtain ⟨v,y,z⟩:=n.get k _ u
 obtain ⟨a,A,rfl,B,C⟩:=z.dI
 refine ⟨.ref a,y,a,A,bK m,rfl,aQ.of (aw B).2,rp w C,λp r=>?_⟩
 have J:=n.len
 refine q p _ _ (λj G=>Lm<|Ml G) (Lx Z4) (l.fresh r) aN (l.upd.cons aN) (λb o e=>?_)<|uB n r
 have t:b≠p:=cU e r
 exact ⟨t,by rw [aA t];exact e⟩
def FX{k:Nat}(l:ap M H)(s:ax (but H M) σ δ)(u:i<δ.length)(w:δ[k]?=some (some (.lst ds)))
  (q:∀p t m n,(∀j:Nat,j≠i->m[j]?=σ[j]?)->m[i]?=some (some (.ref p))->p∉M->n p=some (.lst t)->az (but n (p::M)) t ds->ap (p::M) n->(∀b o,H b=some o->b≠p/\n b=some o)->ax (but n (p::M)) m (δ.set i none)->E.nx m n):
  dZ (cI (λx H Q=>∃p r,x=[.ref p]/\(aQ K H p r\/br K H p r)/\∀l,H l=none->Q (.ref l) (upd H l (.lst r))) (bn (aY k) bB)) (cf i) E σ H:=by
 obtain ⟨v,y,z⟩:=s.get k _ w
 obtain ⟨a,A,rfl,B,C⟩:=z.dI
 exact Hq l s u y (aw B).2 C λp m n a b c d e f g h=>q p A m n a b c d e f g h
def z0{i:Nat}{y:D}(l:ap M H)(t:ax (but H M) σ δ)(m:p∈M)(e:σ[i]?=some (some (.ref p)))(w:H p=some (.dK (cb [] (bK F))))(x:y.sc=true)(N:F.length<1000)(h:ae ty (but H M) σ (.str n))(z:ae tz (but H M) σ y)
  (k:∀f,(∀b o,b≠p->H b=some o->f b=some o)->ap M f->f p=some (.dK (cb [] (bK (F++[(n,y)]))))->ax (but f M) σ δ->E.nx σ f):tq (aY i) ty tz E σ H:=by
 refine z M H (ab.refl _) l _ λv A a B=>⟨.ref p,e,h M A (a.but M) (l.same a) _ λu s j C=>?_⟩
 have r:=j _ _<|a _ _ w
 have G:=(fC (d:=.str n) rfl C).2
 have I:=(fC x B).1
 have g:(cb []<|bK F).length<sizeLine:=by
  have:=vy (bK F) []
  simp only [bK,Ll,Nq,N0] at this
  exact cp (by unfold bK;omega)
 refine ⟨p,_,rfl,by rw [G];exact gu.k (k:=Sum.inr n) r g,?_⟩
 have J:but (upd s p (.dK<|ca (cb []<|bK F) (Sum.inr n) v)) M=but s M:=dw m
 refine k _ (λb o L q=>by rw [aA L];exact j _ _<|a _ _ q) (l.same<|a.trans j).upd ?_ ?_
 .rw [aN,I]
  show some (HO.dK<|ca _ _ _)=some (HO.dK<|cb []<|bK<|F++[(n,y)])
  rw [Gk]
 .rw [J];exact t.same<|a.trans j
end
end FL
namespace L2
open PySem PySem.Spec PyProof.Rows
section
variable {X:Cx}
def Dh(h:(dq P w).is k u=true):RelV (kV k) u:=by
 rw [IN] at h
 rcases jh h with ⟨i,t,rfl,rfl⟩|⟨x,t,rfl,rfl⟩
 .exact ⟨t,rfl⟩
 .exact ⟨t,rfl⟩
def HA (L:X.calm=true):iM X (.type "list") (λE H Q=>∃a b,E=[.ref a]/\Rd H a (.dK b)/\∀l,H l=none->Q (.ref l) (upd H l (.lst (b.map λg=>kV g.1)))):=by
 intro G s σ H E us Q I r h
 obtain ⟨a,b,rfl,e,q⟩:=h
 obtain ⟨u,rfl,M⟩:=Pu r
 cases M
 obtain ⟨z,N,J,bw,O⟩:=gY I.ay e
 obtain ⟨T,o⟩:=O.dictAt
 have i:=bw.length
 refine W.kdl_call (W.kdl_dict (knd:=dq X.prog X.w) (kvs:=J) (ep:=T) N) (I.ok.hd L) o (by rw [<-i];exact z) λU Y c c' hk hS f=>?_
 have rv:ba (b.map λg=>kV g.1) c.toList:=by
  have y:∀(A:List (aJ×V)) (m:List (aJ×Value)) (d:List Value),KV A m->d.length=m.length->(∀(j:Nat) v,d[j]?=some v->∃k x,m[j]?=some (k,x)/\(dq X.prog X.w).is k v=true)->ba (A.map λg=>kV g.1) d:=by
   intro A m d rk
   induction rk generalizing d with
   |nil=>intro i _;cases d with
    |nil=>exact .nil
    |cons _ _=>cases i
   |@cons p q ps qs B t ih=>
    intro i n
    cases d with
    |nil=>cases i
    |cons v d=>
     obtain ⟨k,x,C,h2⟩:=n 0 v rfl
     have C:q=(k,x):=LB C
     refine .cons ?_ (ih d (Nat.succ.inj i) λj u hu=>n (j+1) u hu)
     have e1:p.1=k:=by rw [B.1,C]
     show RelV (kV p.1) v
     rw [e1]
     exact Dh h2
  exact y b J c.toList bw (by rw [N6];exact f.1) λj v n=>f.2 j v (by rw [<-PX];exact n)
 exact ⟨.ref s.heap.objs.size,_,I.laid (t':=Y) hk (Lo _) (show bS X.prog X.w _ U _ (.lst<|b.map λg=>kV g.1) from ⟨by rw [Ll];exact z,c.toList,c',rv,by rw [Array.toArray_toList];exact hS⟩),rfl,q _<|I.ay.fresh<|Lo _⟩
def Ik (C:X.calm=true):iM X (.builtin "all") (λn H Q=>∃(a:Addr) (d:List Bool),n=[.ref a]/\aQ X.K H a (d.map V.bl)/\Q (.bl (d.all id)) H):=by
 intro t s T H n U Q I r h
 obtain ⟨a,d,rfl,x,q⟩:=h
 obtain ⟨u,rfl,E⟩:=Pu r
 cases E
 obtain ⟨c,j,p,G⟩:=I.list x
 refine call_all_walk<|M7 p.isList ?_
 have k:a≠s.heap.objs.size:=by
  obtain ⟨o,J,_⟩:=p.isList
  exact LY<|LL J
 have f:c.length=d.length:=by have:=j.length;rw [Ll] at this;exact this.symm
 refine ⟨s.heap.objs.size,_,_,c.toArray.size,_,_,λi=>d.getD i true,rfl,Walks.list (A:=X.A.in1) (prog:=X.prog) (w:=X.w) (show X.A.in1.handled=none from I.ok.hd C) s.heap.objs.size a k c.toArray,⟨⟨_,LJ _ rfl,rfl,rfl⟩,p.isList.push _⟩,λi v Y Q' E' g l=>?_,λh' L M=>?_⟩
 .have g:c[i]?=some v:=by simpa using g
  have hi:i<c.length:=(Li.mp g).1
  have N:(d.map V.bl)[i]?=some (.bl<|d.getD i true):=by
   rw [LA,Lk Z4,List.getD,Lk Z4]
   rfl
  obtain ⟨w',y,m⟩:=j.get N
  rw [g] at y
  cases y
  obtain rfl:v=Value.bool (d.getD i true):=m
  exact MG l
 .have e:(List.range c.toArray.size).all (λi=>d.getD i true)=d.all id:=by
   rw [LF,f]
   clear f j G x q
   induction d with
   |nil=>rfl
   |cons b r O=>
    rw [Ma,List.range_succ_eq_map,NW,Oz]
    show (b&&(List.range r.length).all λi=>r.getD i true)=(b&&r.all id)
    rw [O]
  refine ⟨.bl<|d.all id,H,I.kept (t':=L) λb o B=>M b o (λz=>?_)<|Ln _ B,Mq Value.bool e,q⟩
  have:b=s.heap.objs.size:=by simpa using z
  exact absurd (LL B) (by rw [this];exact MI _)
end
end L2
namespace L2
open PySem PySem.Spec PyProof.Rows
section
variable {X:Cx}
def A3 (K:PySem.W.Frag):R2:=λx y H Q=>∃a b xs ys,x=.ref a/\y=.ref b/\br K H a xs/\br K H b ys/\xs.length+ys.length<=sizeLine/\
 (xs=[]->Q (.ref b) H)/\(xs≠[]->ys=[]->Q (.ref a) H)/\(xs≠[]->ys≠[]->∀p,H p=none->Q (.ref p) (upd H p (.tup (xs++ys))))
def AR:cH X (binaryOp .Add) (A3 X.K):=by
 intro c s B H x y v u Q I l m h
 obtain ⟨a,b,o,C,rfl,rfl,p,q,E,G,J,L⟩:=h
 by_cases d:o=[]
 .cases l
  cases m
  obtain ⟨e,M,N,_⟩:=I.tuple p
  obtain ⟨f,r2,O,_⟩:=I.tuple q
  have T:e=[]:=M.rZ.mpr d
  obtain ⟨⟨U,Y,r,sl⟩,t,w,n,z⟩:=id N
  obtain ⟨⟨A,j,data2,k⟩,g,i,n2,dr⟩:=id O
  simp only at w z i dr
  subst w z i dr
  exact concat_meets ⟨_,t,rfl⟩ ⟨_,g,rfl⟩ Pw seq_tuple_add Ov Oo (N8 _ _)
   (tuple_addW0 a b e.toArray f.toArray n n2 Y j sl k (by simp [T])) ⟨t,g,⟨.ref b,H,I,rfl,G d⟩⟩
 .exact JN c s B H _ _ v u Q I l m ⟨a,b,o,C,rfl,rfl,p,q,d,E,J d,L d⟩
end
end L2
namespace FL
open PySem L2
section
variable {G:Hp}{σ:St}{ta tb:TE}{K:PySem.W.Frag}{xs ys:List D}
def zU (u:xs.length+ys.length<=1000)(j:ae ta G σ (.tup xs))(m:ae tb G σ (.tup ys)):ae (bZ (A3 K) ta tb) G σ (.tup (xs++ys)):=
 jR (λM H v y l n o Q k=>by
  obtain ⟨a,q,rfl,f,c⟩:=n.eP
  obtain ⟨b,r,rfl,g,d⟩:=o.eP
  have s:=c.length
  have t:=d.length
  refine ⟨a,b,q,r,rfl,rfl,br.of (aw f).2,br.of (aw g).2,MK<|cp Z4,λe=>?_,λe h=>?_,λe h p i=>?_⟩
  .have:xs=[]:=MH (by rw [<-s,e];rfl)
   rw [this,NM] at k
   exact k _ H (ab.refl _) (.tup g d)
  .have:ys=[]:=MH (by rw [<-t,h];rfl)
   rw [this,LV] at k
   exact k _ H (ab.refl _) (.tup f c)
  .exact k _ _ (c8 i _)<|mU l i<|c.append d) j m
def oK (q:xs.length+ys.length<=1000)(f:ae ta G σ (.lst xs))(g:ae tb G σ (.lst ys)):ae (bZ BC ta tb) G σ (.lst (xs++ys)):=
 jR (λM H v y l h i Q k=>by
  obtain ⟨a,j,rfl,m,c⟩:=h.dI
  obtain ⟨b,n,rfl,o,d⟩:=i.dI
  have r:=c.length
  have s:=d.length
  exact ⟨a,b,j,n,rfl,rfl,(aw m).2,(aw o).2,MK<|cp Z4,λp e=>k _ _ (c8 e _)<|mV l e<|c.append d⟩) f g
end
section
variable {X:Cx}{N':List Str}{scope:Scope}{cl:List (Str×Addr)}{C:Addr}{fp:List Addr}{s:Shared}{H:Hp}
def iN(h:a6 X.prog X.w X.K X.mg X.base n x i g)(j:cK m X.A)(k:PA (bv X N' scope cl C fp s H) (e::a) t)(c:n<=m:=by decide)
  (l:Gl (bv X N' scope cl C fp s H) x:=by rfl) (d:(x==("__debug__":Str))=false:=by decide) (o:starEach (e::a) (bv X N' scope cl C fp s H).env=(false,eval e (bv X N' scope cl C fp s H).env)::starEach a (bv X N' scope cl C fp s H).env:=by rfl) (f:(backTo b (starEach a (bv X N' scope cl C fp s H).env)).any (·.1)=false:=by rfl):
  PE (bv X N' scope cl C fp s H) (.Call (.Name x p) (e::a) [] b) (ii g [] E0 t):=bI (X:=bv X N' scope cl C fp s H) h j k c l d o f
end
structure d7 (P:Program)(w:World)(K:PySem.W.Frag)(mg:Str->Option Value)(base:Heap)(n:Nat)(C:Addr)(m:Str)(ps:List Str)(sp:Sp):Prop where
 ex:∃f fd,bp P w K mg base bD n f fd ps sp/\Binds K fd ps []/\cZ K C m f
structure iU (P:Program)(w:World)(K:PySem.W.Frag)(mg:Str->Option Value)(base:Heap)(n:Nat)(C:Addr)(x:Str)(ps:List Str)(sp:Sp):Prop where
 ex:∃f fd,bp P w K mg base bD n f fd ps sp/\Binds K fd ps []/\Mk K C f/\mg x=some (.ref C)
section
variable {X:Cx}{C:Addr}
def jH(v:PE X o r)(c:dk X.K C)(h:d7 X.prog X.w X.K X.mg X.base n C m u q)(x:cK k X.A)(y:PA X (e::g) t)(i:n<=k:=by decide)
  (j:starEach (e::g) X.env=(false,eval e X.env)::starEach g X.env:=by rfl) (l:(backTo a (starEach g X.env)).any (·.1)=false:=by rfl)
  (z:eval (.Call (.Attribute o m d) (e::g) [] a) X.env=(do
   let s<-eval o X.env
   standAt d.atName
   let (f,first)<-holding [s] (getMethod s m p)
   callWith a f first (backTo a (starEach (e::g) X.env)) (backToKw a (keywordEach [] X.env))):=by rfl):
  PE X (.Call (.Attribute o m d) (e::g) [] a) (kj C m q [] E0 r t):=by
 obtain ⟨f,B,F,b,M⟩:=h.ex
 exact EO (pl:=p) v c M (F.mono i) x b .nil qN y j l z
def vE(h:iU X.prog X.w X.K X.mg X.base n C x l j)(m:cK (k+1) X.A)(o:PA X (e::a) t)(d:n<=k:=by decide)
  (q:Gl X x:=by rfl) (g:(x==("__debug__":Str))=false:=by decide) (r:starEach (e::a) X.env=(false,eval e X.env)::starEach a X.env:=by rfl) (i:(backTo c (starEach a X.env)).any (·.1)=false:=by rfl):
  PE X (.Call (.Name x p) (e::a) [] c) (rX C j [] E0 t):=by
 obtain ⟨f,u,F,b,M,s⟩:=h.ex
 exact Ei M (F.mono d) m q s b .nil qN o g r i
end
section
variable {X:Cx}{e:Expr}{te:TE}{p pos:Pos}
def G8 (B:Bl X.mg)(h:PE X e te)(d:X.calm=true:=by rfl)(f:Gl X "list":=by rfl)(c:starEach [e] X.env=(false,eval e X.env)::starEach [] X.env:=by rfl):PE X (.Call (.Name "list" p) [e] [] pos)
  (cI (λg H Q=>∃a b,g=[.ref a]/\Rd H a (.dK b)/\∀l,H l=none->Q (.ref l) (upd H l (.lst (b.map λi=>kV i.1)))) (bn te bB)):=
 pq (HA d) f B.list NK (ak h ar c) (he:=c)
def vJ (B:Bl X.mg)(h:PE X e te)(d:X.calm=true:=by rfl)(f:Gl X "all":=by rfl)(b:starEach [e] X.env=(false,eval e X.env)::starEach [] X.env:=by rfl):PE X (.Call (.Name "all" p) [e] [] pos)
  (cI (λg H Q=>∃(a:Addr) (c:List Bool),g=[.ref a]/\aQ X.K H a (c.map V.bl)/\Q (.bl (c.all id)) H) (bn te bB)):=
 qS (Ik d) f B.all PyProof.Rows.boot_all (ak h ar b) (he:=b)
end
section
variable {G:Hp}{σ:St}{ta:TE}{t:TA}{K:PySem.W.Frag}
theorem zS:∀{a:List V} {c:List Bool},az H a (c.map D.bl)->a=c.map V.bl
 |_,[],.nil=>rfl
 |_,b::r,.cons h t=>by rw [h.jl,zS t];rfl
def uW {bs:List Bool}(h:dO t G σ [.lst (bs.map D.bl)]):ae (cI (λb H Q=>∃(a:Addr) (bs:List Bool),b=[.ref a]/\aQ K H a (bs.map V.bl)/\Q (.bl (bs.all id)) H) t) G σ (.bl (bs.all id)):=
 oG (λM H b l c Q k=>by
  obtain ⟨v,rfl,r⟩:=iR c
  obtain ⟨a,f,rfl,d,e⟩:=r.dI
  refine ⟨a,bs,rfl,?_,k _ H (ab.refl _) (.bl _)⟩
  rw [<-zS e]
  exact aQ.of (aw d).2) h
def zL(h:ae ta G σ (.lst b)):bJ (λσ H Q=>ta σ H λx c=>∃k,qX K x c k/\Q k c) G σ (!b.isEmpty):=λM H s l Q k=>h M H s l _ λv d e f=>by
 obtain ⟨a,g,rfl,i,j⟩:=f.dI
 refine ⟨!b.isEmpty,.inl ⟨g,aQ.of (aw i).2,?_⟩,k d e⟩
 cases j<;>rfl
end
end FL
namespace PySem
section
variable {prog:Program}{w:World}{K:Type} [DecidableEq K] {knd:HeapKind prog w K}{A:Around}{E:Value->Shared->Prop}{s:Shared}
def La (knd:HeapKind prog w K)(d:Addr)(c:(d==sysModules)=false):
  MeetsIn prog w (Builtin.«dict.__len__» ⟨[.ref d],[]⟩) (λ_ R s=>∃b,s.heap.DictOfH knd d b/\R (.ok (.ret (.int b.length s.toks))) {s with toks:=s.toks+1}):=
 .of_wp λA R s e=>by
  obtain ⟨b,f,h⟩:=e
  obtain ⟨o,g,l,i,m,a,j,k,n⟩:=f
  show wpAny _ _ (dictSize d>>=_) _ _ s
  unfold dictSize
  refine Lh<|Lh<|wpAny_dictEntries i a<|Lz ?_
  show wpAny _ _ (Builtin.Dict.pendingCount d>>=_) _ _ s
  refine Lh<|wpAny_pendingCount_other c ?_
  refine wpAny_ret_mkInt ?_
  have:g.size=b.length:=size_of_entries j
  rw [Nat.add_zero,this];exact h
def Dj{Q:ZT}(e:(d==sysModules)=false)(b:s.heap.DictOfH knd d a)(c:(a.length:Int)<2^63)
  (h:Q (.int a.length (s.toks+1)) {s with toks:=s.toks+1+1}):wpAny (model prog w) A (call (.builtin "len") [.ref d]) Q E s:=by
 refine Calls.call_function_entry kind_len plain_len entry_len (args_len1 _) ?_
 unfold Builtin.«len»
 refine Lh (m:=oneArg "len" _)<|Lz ?_
 refine Lh (m:=callSpecial? (.ref d)<|Str.ofString "__len__") (MB (name:=Str.ofString "__len__") b.typeIs F.slot_dict_len
  (NH F.slot_dict_len b.typeIs F.entry_dict_len (F.args_dict_len_1 _) (La knd d e) ⟨a,b,?_⟩))
 show wpAny _ _ _ _ _ {s with toks:=s.toks+1}
 refine Lh<|MZ<|Lz ?_
 refine Lh<|NS ?_
 show wpAny _ _ (if ((a.length:Nat):Int)<0 then _ else _) _ _ _
 rw [Lq Z4]
 show wpAny _ _ (if ((a.length:Nat):Int)≥2^63 then _ else _) _ _ _
 rw [Lq Z4]
 exact Lh<|wpAny_mkInt<|Lz ⟨_,rfl,h⟩
end
end PySem
namespace L2
open PySem PySem.Spec PyProof.Rows
section
variable {X:Cx}
def pS:List V->Hp->VK->Prop:=λxs H Q=>(∃a kvs,xs=[.ref a]/\Rd H a (.dK kvs)/\Q (.int kvs.length) H)\/∃a kvs,xs=[.ref a]/\Rd H a (.dT kvs)/\Q (.int kvs.length) H
def Jt:iM X (.builtin "len") pS:=by
 intro d s l H g m Q I r h
 rcases h with ⟨a,b,rfl,e,q⟩|⟨a,b,rfl,e,q⟩
 .obtain ⟨u,rfl,c⟩:=Pu r
  cases c
  exact Ge I e λt n i=>⟨.int b.length,H,i,⟨t,rfl⟩,q⟩
 .obtain ⟨u,rfl,c⟩:=Pu r
  cases c
  obtain ⟨z,j,g,bw,k⟩:=js I.ay e
  have f:=Ng bw
  refine Dj j k (by rw [<-f];rw [Pl] at z;omega) ?_
  rw [<-f]
  exact ⟨.int b.length,H,I.tok _,⟨_,rfl⟩,q⟩
end
end L2
namespace FL
open PySem L2
section
variable {X:Cx}{e:Expr}{te:TE}{p pos:Pos}
def x8 (B:Bl X.mg)(h:PE X e te)(b:Gl X "len":=by rfl)(a:starEach [e] X.env=(false,eval e X.env)::starEach [] X.env:=by rfl):PE X (.Call (.Name "len" p) [e] [] pos) (cI pS (bn te bB)):=
 qS Jt b B.len PySem.boot_len (ak h ar a) (he:=a)
end
section
variable {X:Cx}{N':List Str}{scope:Scope}{cl:List (Str×Addr)}{C:Addr}{fp:List Addr}{s:Shared}{H:Hp}{e:Expr}{te:TE}{p pos:Pos}
end
end FL
namespace FL
open PySem L2
section
variable {X:Cx}{N':List Str}{scope:Scope}{cl:List (Str×Addr)}{C:Addr}{fp:List Addr}{s:Shared}{H:Hp}{e:Expr}{te:TE}{p pos:Pos}{f:Str}
def oM (a:PE (bv X N' scope cl C fp s H) e te)(b:attributeBase e f (bv X N' scope cl C fp s H).env (eval e (bv X N' scope cl C fp s H).env)=eval e (bv X N' scope cl C fp s H).env):PE (bv X N' scope cl C fp s H) (.Attribute e f pos) (kz X.K te f):=dB (X:=bv X N' scope cl C fp s H) a b
def AC (b:PE (bv X N' scope cl C fp s H) e te)(c:∀fQ,isTrue e (bv X N' scope cl C fp s H).env fQ=(do let v<-fQ;standAt e.pos;holding [v] (truthy v))):
  PT (bv X N' scope cl C fp s H) e (λd H Q=>te d H λx a=>∃k,qX X.K x a k/\Q k a):=uf (X:=bv X N' scope cl C fp s H) b c
end
end FL
namespace FL
open PySem L2
def au (V:Str->D)(B:List Str):aP:=B.map λb=>(b,V b)
def a8 (V:Str->D)(x:D):D:=if aH x=true then V x.name else x
def ce (B:List Str)(x:D):List Str:=if (aH x&& !decide (x.name∈B))=true then B++[x.name] else B
def ai (B:List Str)(l:List D):List Str:=l.foldl ce B
def cu (B:List Str):Prop:=∀b∈B,aH (.str b)=true
def jp(h:aH x=true):x=.str x.name:=by
 cases x with
 |str s=>rfl
 |_=>cases h
def cu.add(h:cu B)(x:D):cu (ce B x):=λb a=>by
 unfold ce at a
 by_cases e:(aH x&& !decide (x.name∈B))=true
 .rw [Lv e] at a
  rcases LI.mp a with z|z
  .exact h b z
  .rw [LK.mp z]
   rw [Mn] at e
   rw [<-jp e.1];exact e.1
 .rw [Lq e] at a;exact h b a
def zT{B:ZY}(h:b∈B):b∈ce B x:=by
 unfold ce
 by_cases e:(aH x&& !decide (x.name∈B))=true
 .rw [Lv e];exact Lu _ h
 .rw [Lq e];exact h
def CD(h:aH x=true):x.name∈ce B x:=by
 unfold ce
 by_cases e:x.name∈B
 .rw [Lq (by simp [e])];exact e
 .rw [Lv (by simp [e,h])];exact Lr _<|LK.mpr rfl
def K0(h:b∈ce B x):b∈B\/(aH x=true/\b=x.name):=by
 unfold ce at h
 by_cases e:(aH x&& !decide (x.name∈B))=true
 .rw [Lv e] at h
  rw [Mn] at e
  rcases LI.mp h with z|z
  .exact .inl z
  .exact .inr ⟨e.1,LK.mp z⟩
 .rw [Lq e] at h;exact .inl h
def DQ{B:ZY}(h:B.Nodup):(ce B x).Nodup:=by
 unfold ce
 by_cases e:(aH x&& !decide (x.name∈B))=true
 .rw [Lv e]
  rw [Mn] at e
  have c:x.name∉B:=by simpa using e.2
  rw [N3]
  refine ⟨h,by simp,?_⟩
  intro a d b f
  rw [LK.mp f]
  exact λz=>c<|z▸d
 .rw [Lq e];exact h
def qh:∀{B:ZY} {b:Str},b∈B->b∈ai B l:=by
 induction l with
 |nil=>exact λh=>h
 |cons x r a=>exact λh=>a<|zT h
def iH:∀{B:ZY},cu B->cu (ai B l):=by
 induction l with
 |nil=>exact λh=>h
 |cons x r a=>exact λh=>a<|h.add x
def xF:∀{B:ZY},B.Nodup->(ai B l).Nodup:=by
 induction l with
 |nil=>exact λh=>h
 |cons x r a=>exact λh=>a<|DQ h
def md{l:ZZ}(a:x∈l)(h:aH x=true):∀{B:ZY},x.name∈ai B l:=by
 induction l with
 |nil=>cases a
 |cons y r b=>
  intro B
  rcases Lw.mp a with rfl|a
  .exact qh (l:=r) (B:=ce B x)<|CD h
  .exact b a
def xl:∀{B:ZY},b∈ai B l->b∈B\/∃x∈l,aH x=true/\b=x.name:=by
 induction l with
 |nil=>exact λh=>.inl h
 |cons y r a=>
  intro B h
  rcases a h with z|⟨x,c,z⟩
  .rcases K0 z with z|⟨d,e⟩
   .exact .inl z
   .exact .inr ⟨y,Lj,d,e⟩
  .exact .inr ⟨x,Lg _ c,z⟩
def GI (V:Str->D)(B:ZY):Bz (au V B):=λp a q d e=>by
 obtain ⟨b,_,rfl⟩:=LG.mp a
 obtain ⟨c,_,rfl⟩:=LG.mp d
 have e:b=c:=e
 rw [e]
def zr {V a:Str->D}{B:ZY}(h:∀b∈B,a b=V b):au a B=au V B:=LW λb c=>by rw [h b c]
def uQ{V:Str->D}(a:aH x=true):eM (au V B) x=decide (x.name∈B):=by
 rw [jp a]
 have h:=Jr (F:=au V B) (s:=x.name)
 have e:(au V B).map (·.1)=B:=by simp [au,Mb,Function.comp_def]
 rw [e] at h
 show eM (au V B) (.str x.name)=decide (x.name∈B)
 by_cases z:x.name∈B
 .rw [h.mpr z,LH z]
 .rw [LR z]
  cases q:eM (au V B) (.str x.name) with
  |false=>rfl
  |true=>exact absurd (h.mp q) z
def np{V:Str->D}(a:cu B)(c:aH x=false):eM (au V B) x=false:=by
 cases q:eM (au V B) x with
 |false=>rfl
 |true=>
  obtain ⟨p,d,e⟩:=Oq.mp q
  obtain ⟨b,f,rfl⟩:=LG.mp d
  have e:D.str b=x:=LD e
  have:=a b f
  rw [e,c] at this;cases this
def og{V:Str->D}{B:ZY}(a:b∈B):bY (au V B) (.str b)=V b:=D0 (GI V B) (p:=(b,V b))<|LG.mpr ⟨b,a,rfl⟩
def lg{V:Str->D}(a:cu B)(b:aH x=true->x.name∈B):bY (au V B) x=a8 V x:=by
 unfold a8
 by_cases e:aH x=true
 .rw [Lv e]
  have:=og (V:=V)<|b e
  rw [<-jp e] at this
  exact this
 .rw [Lq e]
  exact ka<|np a (by simpa using e)
def JD{V:Str->D}(a:cu B)(x:D):fL (au V B) x (a8 V x)=some (au V (ce B x)):=by
 unfold fL ce
 by_cases e:aH x=true
 .rw [uQ e]
  by_cases z:x.name∈B
  .rw [Lq (by simp [z]),lg a λ_=>z,Lv rfl,Lq (by simp [z])]
  .rw [Lv (by simp [z,e]),Lv (by simp [z,e])]
   unfold a8 au
   rw [Lv e,LU]
   rfl
 .have b:aH x=false:=by simpa using e
  rw [Lq (by simp [b]),lg a λz=>absurd z e,Lv rfl,Lq (by simp [b])]
def Jf{V a:Str->D}(h:∀b∈ce B x,a b=V b):a8 a x=a8 V x:=by
 unfold a8
 by_cases e:aH x=true
 .rw [Lv e,Lv e,h _<|CD e]
 .rw [Lq e,Lq e]
def JT{V:Str->D}(d:cu B)(h:fL (au V B) x y=some f):∃a,(∀b∈B,a b=V b)/\f=au a (ce B x)/\y=a8 a x:=by
 unfold fL at h
 by_cases e:aH x=true
 .rw [uQ e] at h
  by_cases z:x.name∈B
  .rw [Lq (by simp [z]),lg d λ_=>z] at h
   by_cases q:a8 V x=y
   .rw [Lv q] at h
    refine ⟨V,λ_ _=>rfl,?_,q.symm⟩
    unfold ce
    rw [Lq (by simp [z])]
    exact (LB h).symm
   .rw [Lq q] at h;cases h
  .rw [Lv (by simp [z,e])] at h
   refine ⟨λb=>if b=x.name then y else V b,λb c=>Lq λw=>z (by rw [<-w];exact c),?_,?_⟩
   .have i:=LB h
    rw [<-i]
    unfold ce
    rw [Lv (by simp [z,e])]
    unfold au
    rw [LU]
    congr 1
    .exact LW λb c=>by
      have:b≠x.name:=λw=>z (by rw [<-w];exact c)
      simp [this]
    .simp
   .unfold a8
    rw [Lv e]
    simp
 .have g:aH x=false:=by simpa using e
  rw [Lq (by simp [g]),lg d λz=>absurd z e] at h
  by_cases q:a8 V x=y
  .rw [Lv q] at h
   refine ⟨V,λ_ _=>rfl,?_,q.symm⟩
   unfold ce
   rw [Lq (by simp [g])]
   exact (LB h).symm
  .rw [Lq q] at h;cases h
theorem zp {V:Str->D}:∀(l:ZZ) {B:ZY},cu B->fz (au V B) (l.zip (l.map (a8 V)))=some (au V (ai B l))
 |[],B,_=>rfl
 |x::r,B,a=>by
  show (fL (au V B) x<|a8 V x).bind (λb=>fz b<|r.zip<|r.map<|a8 V)=_
  rw [JD a]
  exact zp r<|a.add x
theorem Cq:∀(l f:ZZ) {V:Str->D} {B:ZY} {a:aP},cu B->l.length=f.length->fz (au V B) (l.zip f)=some a->∃d,(∀b∈B,d b=V b)/\a=au d (ai B l)/\f=l.map (a8 d)
 |[],[],V,B,a,_,_,h=>⟨V,λ_ _=>rfl,(LB h).symm,rfl⟩
 |[],_::_,_,_,_,_,c,_=>by cases c
 |_::_,[],_,_,_,_,c,_=>by cases c
 |x::r,y::t,V,B,a,g,c,h=>by
  have h:(fL (au V B) x y).bind (λa=>fz a<|r.zip t)=some a:=h
  cases e:fL (au V B) x y with
  |none=>rw [e] at h;cases h
  |some n=>
   rw [e] at h
   obtain ⟨o,j,rfl,k⟩:=JT g e
   obtain ⟨m,b1,b2,b3⟩:=Cq r t (g.add x) (Nat.succ.inj c) h
   refine ⟨m,λb i=>(b1 b<|zT i).trans<|j b i,b2,?_⟩
   rw [Me,<-b3,k,Jf b1]
def bC (A f:List D)(S:aP):Option aP:=if A.headD .aq=f.headD .aq/\A.length=f.length then fz S (A.zip f) else none
def BL{V:Str->D}(b:A≠[])(a:aH (A.headD .aq)=false):A.headD .aq=(A.map (a8 V)).headD .aq:=by
 cases A with
 |nil=>exact absurd rfl b
 |cons x r=>
  show x=a8 V x
  unfold a8
  have a:aH x=false:=a
  rw [Lq (by rw [a];exact Ls)]
def vh{V:Str->D}(a:cu B)(b:A≠[])(c:aH (A.headD .aq)=false):bC A (A.map (a8 V)) (au V B)=some (au V (ai B A)):=by
 unfold bC
 rw [Lv ⟨BL b c,by rw [Ll]⟩]
 exact zp A a
def ip{V:Str->D}(d:cu B)(h:bC A f (au V B)=some c):∃a,(∀b∈B,a b=V b)/\c=au a (ai B A)/\f=A.map (a8 a):=by
 unfold bC at h
 by_cases z:A.headD .aq=f.headD .aq/\A.length=f.length
 .rw [Lv z] at h;exact Cq A f d z.2 h
 .rw [Lq z] at h;cases h
end FL
namespace FL
open PySem L2
abbrev aF:=aP×List Nat
def ext (facts:List (List D))(a:List D)(w:aF):List aF:=facts.zipIdx.filterMap λp=>(bC a p.1 w.1).map λS=>(S,w.2++[p.2])
def fi (facts:List (List D)):List (List D)->List aF->List aF
 |[],ws=>ws
 |a::r,ws=>fi facts r (ws.flatMap (ext facts a))
def aT (B:List Str)(as:List (List D)):List Str:=as.foldl ai B
def fR (facts:List (List D))(V:Str->D)(as:List (List D))(pl:List Nat):Prop:=pl.map (λi=>facts[i]?)=as.map λa=>some (a.map (a8 V))
def i6 (a:List D):Prop:=a≠[]/\aH (a.headD .aq)=false
def ol:(S,c)∈ext b a w↔∃i f,b[i]?=some f/\bC a f w.1=some S/\c=w.2++[i]:=by
 unfold ext
 rw [Oh]
 constructor
 .rintro ⟨⟨f,i⟩,g,e⟩
  have d:b[i]?=some f:=by
   have:=NP.mp g
   exact this
  have e:(bC a f w.1).map (λS=>(S,w.2++[i]))=some (S,c):=e
  cases q:bC a f w.1 with
  |none=>rw [q] at e;cases e
  |some j=>
   rw [q] at e
   have e:=LB e
   exact ⟨i,f,d,by rw [q];exact Mq some<|Mq Prod.fst e,(Mq Prod.snd e).symm⟩
 .rintro ⟨i,f,d,h,rfl⟩
  exact ⟨(f,i),NP.mpr d,by show (bC a f w.1).map _=_;rw [h];rfl⟩
def JE{V f:Str->D}{d:ZW}{B:ZY}(i:∀a∈d,∀x∈a,aH x=true->x.name∈B)(h:∀b∈B,f b=V b)(j:fR c V d g):fR c f d g:=by
 unfold fR at*
 rw [j]
 refine LW λa k=>?_
 congr 1
 refine LW λx l=>?_
 unfold a8
 by_cases e:aH x=true
 .rw [Lv e,Lv e,h _<|i a k x l e]
 .rw [Lq e,Lq e]
def Jb:∀{B:ZY} {b:Str},b∈B->b∈aT B as:=by
 induction as with
 |nil=>exact λh=>h
 |cons a r c=>exact λh=>c<|qh h
def iA:∀{B:ZY},cu B->cu (aT B b):=by
 induction b with
 |nil=>exact λh=>h
 |cons a r c=>exact λh=>c<|iH h
def qw:∀{B:ZY},B.Nodup->(aT B as).Nodup:=by
 induction as with
 |nil=>exact λh=>h
 |cons a r b=>exact λh=>b<|xF h
def ni{d:ZW}(b:a∈d)(e:x∈a)(h:aH x=true):∀{B:ZY},x.name∈aT B d:=by
 induction d with
 |nil=>cases b
 |cons c r f=>
  intro B
  rcases Lw.mp b with rfl|b
  .exact Jb (as:=r) (B:=ai B a)<|md e h
  .exact f b
def sM:∀{B:ZY},b∈aT B as->b∈B\/∃a∈as,∃x∈a,aH x=true/\b=x.name:=by
 induction as with
 |nil=>exact λh=>.inl h
 |cons c r d=>
  intro B h
  rcases d h with z|⟨a,e,z⟩
  .rcases xl z with z|⟨x,f,z⟩
   .exact .inl z
   .exact .inr ⟨c,Lj,x,f,z⟩
  .exact .inr ⟨a,Lg _ e,z⟩
theorem zQ:∀(m:ZW) (done:ZW) (B:ZY) (j:List aF),cu B->(∀a∈done,∀x∈a,aH x=true->x.name∈B)->(∀a∈m,i6 a)->
  (∀S d,(S,d)∈j↔∃V,S=au V B/\fR b V done d)->∀S d,(S,d)∈fi b m j↔∃V,S=au V (aT B m)/\fR b V (done++m) d
 |[],done,B,j,_,_,_,h,S,d=>by
  rw [LV];exact h S d
 |a::r,done,B,j,o,u,v,h,S,d=>by
  have k:=zQ r (done++[a]) (ai B a) (j.flatMap<|ext b a) (iH o) (λc p x q e=>by
    rcases LI.mp p with z|z
    .exact qh (u c z x q e)
    .rw [LK.mp z] at q;exact md q e) (λc p=>v c<|Lg _ p) (λS d=>by
   rw [MQ]
   constructor
   .rintro ⟨⟨A,s⟩,C,E⟩
    obtain ⟨i,f,G,H,rfl⟩:=ol.mp E
    obtain ⟨V,rfl,l⟩:=(h A s).mp C
    obtain ⟨w,I,J,L⟩:=ip o H
    refine ⟨w,J,?_⟩
    have M:=JE u I l
    unfold fR at*
    rw [LU,LU,M]
    show _++[b[i]?]=_++[some<|a.map<|a8 w]
    rw [G,L]
   .rintro ⟨V,rfl,l⟩
    unfold fR at l
    rw [LU] at l
    obtain ⟨N,y,rfl,O,n⟩:=List.map_eq_append_iff.mp l
    obtain ⟨i,rfl,Q⟩:∃i,y=[i]/\b[i]?=some (a.map<|a8 V):=by
     cases y with
     |nil=>cases n
     |cons i t=>
      have n:b[i]?::t.map (λi=>b[i]?)=[some<|a.map<|a8 V]:=n
      obtain ⟨T,U⟩:=Nr n
      have:t=[]:=OZ.mp U
      exact ⟨i,by rw [this],T⟩
    refine ⟨(au V B,N),(h _ _).mpr ⟨V,rfl,O⟩,ol.mpr ⟨i,_,Q,?_,rfl⟩⟩
    have g:=v a Lj
    exact vh o g.1 g.2) S d
  rw [Mm] at k
  exact k
def lI{d:ZW}(g:∀a∈d,i6 a):(S,f)∈fi c d [([],[])]↔∃V,S=au V (aT [] d)/\fR c V d f:=by
 refine zQ d [] [] [([],[])] (λb i=>nomatch i) (λa j=>nomatch j) g (λS f=>?_) S f
 rw [LK]
 constructor
 .intro e
  obtain ⟨rfl,rfl⟩:=Qj e
  exact ⟨λ_=>.aq,rfl,rfl⟩
 .rintro ⟨V,rfl,h⟩
  have:f=[]:=OZ.mp h
  rw [this];rfl
theorem jJ  [DecidableEq c]:∀{l m:List c},l.Nodup->(∀x∈l,x∈m)->l.length<=m.length
 |[],m,_,_=>LP _
 |x::r,m,h,d=>by
  obtain ⟨g,i⟩:=Np.mp h
  have e:=d x Lj
  have a:=jJ (l:=r) (m:=m.erase x) i (λy f=>by
   have b:y≠x:=λz=>g (z▸f)
   exact (List.mem_erase_of_ne b).mpr<|d y<|Lg _ f)
  rw [List.length_erase_of_mem e] at a
  have:0<m.length:=List.length_pos_of_mem e
  rw [Ma]
  omega
def FP{f:d->g}{l:List d}(h:l.Nodup)(i:∀x∈l,∀y∈l,f x=f y->x=y):(l.map f).Nodup:=by
 unfold List.Nodup at*
 rw [List.pairwise_map]
 exact h.imp_of_mem λ{a b} j k c e=>c<|i a j b k e
def cG (pool:List D):List Str->List aP->List aP
 |[],ms=>ms
 |b::r,ms=>cG pool r (ms.flatMap λc=>pool.map λt=>c++[(b,t)])
theorem z6 {a:ZZ}:∀(B:ZY) (done:ZY) (d:List aP),(done++B).Nodup->(∀c,c∈d↔∃V,c=au V done/\∀b∈done,V b∈a)->∀c,c∈cG a B d↔∃V,c=au V (done++B)/\∀b∈done++B,V b∈a
 |[],done,d,_,h,c=>by rw [LV];exact h c
 |b::r,done,d,j,h,c=>by
  have k:((done++[b])++r).Nodup:=by rw [Mm];exact j
  have l:b∉done:=by
   rw [N3] at j
   exact λz=>j.2.2 b z b Lj rfl
  have f:=z6 r (done++[b]) (d.flatMap λc=>a.map λt=>c++[(b,t)]) k (λc=>by
   rw [MQ]
   constructor
   .rintro ⟨m,n,o⟩
    obtain ⟨t,p,rfl⟩:=LG.mp o
    obtain ⟨V,rfl,i⟩:=(h m).mp n
    refine ⟨λx=>if x=b then t else V x,?_,λx g=>?_⟩
    .unfold au
     rw [LU]
     congr 1
     .exact LW λx g=>by
       have:x≠b:=λz=>l (z▸g)
       simp [this]
     .simp
    .show (if x=b then t else V x)∈a
     by_cases e:x=b
     .rw [Lv e];exact p
     .rw [Lq e]
      rcases LI.mp g with z|z
      .exact i x z
      .exact absurd (LK.mp z) e
   .rintro ⟨V,rfl,i⟩
    refine ⟨au V done,(h _).mpr ⟨V,rfl,λx g=>i x<|Lu _ g⟩,LG.mpr ⟨V b,i b<|Lr _<|LK.mpr rfl,?_⟩⟩
    unfold au
    rw [LU]
    rfl) c
  rw [Mm] at f
  exact f
def vg{B:ZY}(d:B.Nodup):c∈cG a B [[]]↔∃V,c=au V B/\∀b∈B,V b∈a:=
 z6 B [] [[]] d (λc=>by
  rw [LK]
  constructor
  .rintro rfl;exact ⟨λ_=>.aq,rfl,λb e=>nomatch e⟩
  .rintro ⟨V,rfl,_⟩;rfl) c
theorem AS:∀{l:List d} {i j:Nat} {x:d},l.Nodup->l[i]?=some x->l[j]?=some x->i=j
 |[],i,_,_,_,h,_=>by simp at h
 |y::r,0,0,x,_,_,_=>rfl
 |y::r,0,j+1,x,c,a,b=>by
  have a:y=x:=LB a
  have b:r[j]?=some x:=b
  exact absurd (a▸Lp b) (Np.mp c).1
 |y::r,i+1,0,x,c,a,b=>by
  have b:y=x:=LB b
  have a:r[i]?=some x:=a
  exact absurd (b▸Lp a) (Np.mp c).1
 |y::r,i+1,j+1,x,c,a,b=>Mq (· +1)<|AS (l:=r) (Np.mp c).2 a b
def vZ{V:Str->D}(h:fR b V c d):∀a∈c,a.map (a8 V)∈b:=by
 intro a f
 have:some (a.map<|a8 V)∈d.map (λi=>b[i]?):=by rw [h];exact LG.mpr ⟨a,f,rfl⟩
 obtain ⟨i,_,e⟩:=LG.mp this
 exact Lp e
end FL
namespace FL
open PySem L2
theorem BH:∀(l:ZZ) (B C:ZY),(∀b∈C,b∈B\/b∈C)->ai (B++C.filter (λb=> !decide (b∈B))) l=B++(ai C l).filter (λb=> !decide (b∈B))
 |[],B,C,_=>rfl
 |x::r,B,C,h=>by
  show ai (ce (B++C.filter λb=> !decide (b∈B)) x) r=B++(ai (ce C x) r).filter _
  have e:ce (B++C.filter λb=> !decide (b∈B)) x=B++(ce C x).filter λb=> !decide (b∈B):=by
   unfold ce
   by_cases f:aH x=true
   .by_cases c:x.name∈B
    .rw [Lq (by simp [c])]
     by_cases a:x.name∈C
     .rw [Lq (by simp [a])]
     .rw [Lv (by simp [a,f]),MD]
      simp [c]
    .by_cases a:x.name∈C
     .rw [Lq (by simp [a,c]),Lq (by simp [a])]
     .rw [Lv (by simp [a,c,f]),Lv (by simp [a,f]),MD,Mm]
      simp [c]
   .have d:aH x=false:=by simpa using f
    rw [Lq (by simp [d]),Lq (by simp [d])]
  rw [e]
  exact BH r B (ce C x) λb g=>.inr g
def lu (l:ZZ)(B:ZY):ai B l=B++(ai [] l).filter (λb=> !decide (b∈B)):=by
 have:=BH l B [] λb a=>nomatch a
 rw [List.filter_nil,LV] at this
 exact this
def dm (B:List Str)(st:aP):List D:=(st.filter λp=>decide (p.1∈B)).map (·.2)
def restOf (B:List Str)(st:aP):aP:=st.filter λp=> !decide (p.1∈B)
def wz (U:Str->D)(C:ZY)(p:Str->Bool):(au U C).filter (λq=>p q.1)=au U (C.filter p):=by
 unfold au
 rw [Nb]
 rfl
def I0 (U:Str->D)(B C:ZY):au U (B++C)=au U B++au U C:=LU
def eB:cu []:=λb a=>nomatch a
def J4{V:Str->D}(k:cu B)(i:i6 a):bC a f (au V B)=(bC a f []).bind λst=>if dm B st=((ai [] a).filter λb=>decide (b∈B)).map V then some (au V B++restOf B st) else none:=by
 cases e:bC a f [] with
 |none=>
  show _=none
  cases l:bC a f (au V B) with
  |none=>rfl
  |some S=>
   obtain ⟨g,_,_,rfl⟩:=ip k l
   have:=vh (V:=g) (B:=[]) eB i.1 i.2
   rw [show au g []=[] from rfl,e] at this
   cases this
 |some st=>
  obtain ⟨U,_,rfl,rfl⟩:=ip (V:=λ_=>.aq) (B:=[]) eB e
  show _=if dm B (au U<|ai [] a)=_ then some (au V B++restOf B (au U<|ai [] a)) else none
  have r:dm B (au U<|ai [] a)=((ai [] a).filter λb=>decide<|b∈B).map U:=by
   unfold dm
   rw [wz U _ λb=>decide<|b∈B]
   unfold au
   rw [Mb]
   rfl
  have s:restOf B (au U<|ai [] a)=au U ((ai [] a).filter λb=> !decide (b∈B)):=wz U _ λb=> !decide (b∈B)
  rw [r,s]
  by_cases j:((ai [] a).filter λb=>decide<|b∈B).map U=((ai [] a).filter λb=>decide<|b∈B).map V
  .rw [Lv j]
   have m:∀b∈ai [] a,b∈B->U b=V b:=λb c n=>List.map_inj_left.mp j b<|Ly.mpr ⟨c,LH n⟩
   let g:Str->D:=λb=>if b∈B then V b else U b
   have o:a.map (a8 U)=a.map (a8 g):=LW λx p=>by
    unfold a8
    by_cases e:aH x=true
    .rw [Lv e,Lv e]
     have t:=md p e (B:=[])
     show U x.name=if x.name∈B then V x.name else U x.name
     by_cases z:x.name∈B
     .rw [Lv z];exact m _ t z
     .rw [Lq z]
    .rw [Lq e,Lq e]
   have u:au V B=au g B:=zr λb c=>by show V b=if b∈B then V b else U b;rw [Lv c]
   rw [o,u,vh k i.1 i.2,lu,I0]
   congr 2
   exact zr λb c=>by
    have:b∉B:=by simpa using (Ly.mp c).2
    show (if b∈B then V b else U b)=U b
    rw [Lq this]
  .rw [Lq j]
   cases l:bC a (a.map<|a8 U) (au V B) with
   |none=>rfl
   |some S=>
    obtain ⟨g,o,_,v⟩:=ip k l
    refine absurd ?_ j
    refine LW λb c=>?_
    obtain ⟨q,d⟩:=Ly.mp c
    have d:=LD d
    rcases xl q with z|⟨x,p,h,rfl⟩
    .cases z
    .have:=List.map_inj_left.mp v x p
     unfold a8 at this
     rw [Lv h,Lv h] at this
     rw [this,o _ d]
abbrev dg:=List D×(Nat×aP)
def ef (a:List D)(facts:List (List D))(B:List Str):List dg:=facts.zipIdx.filterMap λp=>(bC a p.1 []).map λst=>(dm B st,(p.2,restOf B st))
def mZ (of:List dg)(key:List D)(w:aF):List aF:=((of.filter λo=>decide (o.1=key)).map λo=>(w.1++o.2.2,w.2++[o.2.1]))
def u9{V:Str->D}(k:cu B)(m:i6 a):mZ (ef a c B) (((ai [] a).filter λb=>decide (b∈B)).map V) (au V B,d)=ext c a (au V B,d):=by
 unfold mZ ef ext
 show List.map (λo:dg=>(au V B++o.2.2,d++[o.2.1])) _=List.filterMap (λ(p:ZZ×Nat)=>(bC a p.1<|au V B).map λS=>(S,d++[p.2])) c.zipIdx
 generalize c.zipIdx=l
 induction l with
 |nil=>rfl
 |cons p r i=>
  have j:=J4 (f:=p.1) (V:=V) k m
  cases e:bC a p.1 [] with
  |none=>
   have g:bC a p.1 (au V B)=none:=by rw [j,e];rfl
   rw [Ob (f:=λ(p:ZZ×Nat)=>(bC a p.1 []).map λst=>(dm B st,(p.2,restOf B st))) (a:=p) (show Option.map _ (bC a p.1 [])=none by rw [e];rfl),Ob (f:=λ(p:ZZ×Nat)=>(bC a p.1<|au V B).map λS=>(S,d++[p.2])) (a:=p) (show Option.map _ (bC a p.1<|au V B)=none by rw [g];rfl)]
   exact i
  |some st=>
   rw [Pq (f:=λ(p:ZZ×Nat)=>(bC a p.1 []).map λst=>(dm B st,(p.2,restOf B st))) (a:=p) (b:=(dm B st,(p.2,restOf B st))) (show Option.map _ (bC a p.1 [])=_ by rw [e];rfl),Nh]
   by_cases h:dm B st=((ai [] a).filter λb=>decide<|b∈B).map V
   .have g:bC a p.1 (au V B)=some (au V B++restOf B st):=by rw [j,e];exact Lv h
    rw [Pq (f:=λ(p:ZZ×Nat)=>(bC a p.1<|au V B).map λS=>(S,d++[p.2])) (a:=p) (b:=(au V B++restOf B st,d++[p.2])) (show Option.map _ (bC a p.1<|au V B)=_ by rw [g];rfl),Lv<|LH h,Me,i]
   .have g:bC a p.1 (au V B)=none:=by rw [j,e];exact Lq h
    rw [Ob (f:=λ(p:ZZ×Nat)=>(bC a p.1<|au V B).map λS=>(S,d++[p.2])) (a:=p) (show Option.map _ (bC a p.1<|au V B)=none by rw [g];rfl),Lq (by simpa using h),i]
structure jm where
 atom:List D
 ok:aP->Bool
def nn (facts:List (List D))(s:jm)(w:aF):List aF:=(ext facts s.atom w).filter λw=>s.ok w.1
def eZ (facts:List (List D)):List jm->List aF->List aF
 |[],ws=>ws
 |s::r,ws=>eZ facts r (ws.flatMap (nn facts s))
theorem xL (b:ZW):∀(c:ZW),fi b c []=[]
 |[]=>rfl
 |a::r=>xL b r
theorem BP (b:ZW):∀(e:List jm) (c d:List aF),eZ b e (c++d)=eZ b e c++eZ b e d
 |[],_,_=>rfl
 |a::r,c,d=>by
  show eZ b r ((c++d).flatMap _)=eZ b r (c.flatMap _)++eZ b r (d.flatMap _)
  rw [Pe,BP b r]
theorem xH (b:ZW):∀(c:List jm),eZ b c []=[]
 |[]=>rfl
 |a::r=>xH b r
theorem ye (a:ZW)(b:List jm):∀c:List aF,eZ a b c=c.flatMap λw=>eZ a b [w]
 |[]=>xH a b
 |w::r=>by
  have:eZ a b (w::r)=eZ a b [w]++eZ a b r:=BP a b [w] r
  rw [this,ye a b r]
  rfl
theorem Bg (c:ZW)(p:aP->Bool):∀(z:ZW) (B:ZY) (j:List aF),cu B->(∀V g:Str->D,∀C,cu (B++C)->(∀b∈B,g b=V b)->p (au g (B++C))=p (au V B))->(∀w∈j,∃V,w.1=au V B)->fi c z (j.filter λw=>p w.1)=(fi c z j).filter λw=>p w.1
 |[],_,j,_,_,_=>rfl
 |a::r,B,j,n,s,o=>by
  show fi c r ((j.filter _).flatMap<|ext c a)=(fi c r<|j.flatMap<|ext c a).filter _
  have d:∀w∈j,∀x∈ext c a w,∃V g,w.1=au V B/\x.1=au g (ai B a)/\∀b∈B,g b=V b:=λw l x k=>by
   obtain ⟨V,e⟩:=o w l
   obtain ⟨S,L⟩:=x
   obtain ⟨i,f,_,A,_⟩:=ol.mp k
   rw [e] at A
   obtain ⟨g,E,G,_⟩:=ip n A
   exact ⟨V,g,e,G,E⟩
  have H:(j.filter λw=>p w.1).flatMap (ext c a)=(j.flatMap<|ext c a).filter λw=>p w.1:=by
   clear o
   revert d
   induction j with
   |nil=>exact λ_=>rfl
   |cons w t u=>
    intro d
    have u:=u λw o=>d w<|Lg _ o
    rw [Mv,MD,<-u,Nh]
    have m:∀x∈ext c a w,p x.1=p w.1:=λx k=>by
     obtain ⟨V,g,e,I,h⟩:=d w Lj x k
     rw [e,I,lu]
     exact s V g _ (by rw [<-lu];exact iH n) h
    by_cases q:p w.1=true
    .rw [Lv q,Mv]
     congr 1
     exact (Mp.mpr λx k=>by rw [m x k];exact q).symm
    .rw [Lq q]
     have:(ext c a w).filter (λw=>p w.1)=[]:=Nf.mpr λx k=>by rw [m x k];exact q
     rw [this,NM]
  rw [H]
  refine Bg c p r (ai B a) _ (iH n) (λV g C v h=>?_) λx k=>?_
  .have y:cu (B++(ai [] a).filter λb=> !decide (b∈B)):=by rw [<-lu];exact iH n
   rw [lu] at h v⊢
   rw [Mm] at v⊢
   rw [s V g _ v λb J=>h b<|Lu _ J,s V V _ y λb _=>rfl]
  .obtain ⟨w,l,k⟩:=MQ.mp k
   obtain ⟨V,g,_,e,_⟩:=d w l x k
   exact ⟨g,e⟩
theorem xG (a:ZW):∀(d:List jm) (B:ZY) (c:List aF),cu B->(∀w∈c,∃V,w.1=au V B)->
  (∀(i:Nat) (s:jm),d[i]?=some s->∀V g:Str->D,∀C,cu (aT B ((d.take (i+1)).map (·.atom))++C)->(∀b∈aT B ((d.take (i+1)).map (·.atom)),g b=V b)->s.ok (au g (aT B ((d.take (i+1)).map (·.atom))++C))=s.ok (au V (aT B ((d.take (i+1)).map (·.atom)))))->
  eZ a d c=(fi a (d.map (·.atom)) c).filter λw=>d.all λs=>s.ok w.1
 |[],_,c,_,_,_=>by
  show c=c.filter λw=>true
  exact (Mp.mpr λ_ _=>rfl).symm
 |s::r,B,c,j,p,n=>by
  show eZ a r (c.flatMap<|nn a s)=(fi a (r.map (·.atom))<|c.flatMap<|ext a s.atom).filter λw=>s.ok w.1&&r.all λs=>s.ok w.1
  have q:c.flatMap (nn a s)=(c.flatMap<|ext a s.atom).filter λw=>s.ok w.1:=by
   rw [List.filter_flatMap]
   rfl
  have h:∀x∈c.flatMap (ext a s.atom),∃V,x.1=au V (ai B s.atom):=λx h=>by
   obtain ⟨w,k,h⟩:=MQ.mp h
   obtain ⟨V,e⟩:=p w k
   obtain ⟨S,y⟩:=x
   obtain ⟨i,f,_,o,_⟩:=ol.mp h
   rw [e] at o
   obtain ⟨g,z,u,_⟩:=ip j o
   exact ⟨g,u⟩
  have l:=n 0 s rfl
  have l:∀V g:Str->D,∀C,cu (ai B s.atom++C)->(∀b∈ai B s.atom,g b=V b)->s.ok (au g<|ai B s.atom++C)=s.ok (au V<|ai B s.atom):=l
  rw [q,xG a r (ai B s.atom) _ (iH j) (λx m=>h x (Ly.mp m).1) λi t v=>n (i+1) t v,Bg a s.ok _ (ai B s.atom) _ (iH j) l h,Pf]
  exact M1 λw _=>Bool.and_comm _ _
end FL
namespace FL
open PySem L2
def mz:D->Prop
 |.str s=>s.length<=sizeLine/\∃c r,s.cps.toList=c::r
 |_=>True
def ue:List D->D->Prop:=λds d=>∃x,ds=[x]/\mz x/\d=.bl (aH x)
def JK{s:Str}(h:s.cps.toList=c::r):s.cps.getD 0 0=c:=by
 have:s.cps.getD 0 0=s.cps.toList.getD 0 0:=by simp
 rw [this,h];rfl
def nE:Option aP->D
 |some F=>.lst (pairD F)
 |none=>.aq
def yt:List D->D->Prop:=λds d=>∃A Fc ps,ds=[.tup A,.tup Fc,.lst (pairD ps)]/\(∀x∈A,x.sc=true/\mz x)/\(∀y∈Fc,y.sc=true)/\(∀p∈ps,p.2.sc=true)/\A.length<=100/\ps.length<=100/\A≠[]/\Fc≠[]/\d=nE (bC A Fc ps)
def Iw{j:Nat}(h:(kE A a)[j]?=some d):∃x y,A[j]?=some x/\a[j]?=some y/\d=.tup [x,y]/\(A.zip a).drop j=(x,y)::(A.zip a).drop (j+1):=by
 unfold kE at h
 rw [OD] at h
 cases b:A[j]? with
 |none=>rw [b] at h;cases h
 |some x=>
  cases c:a[j]? with
  |none=>rw [b,c] at h;cases h
  |some y=>
   rw [b,c] at h
   refine ⟨x,y,rfl,rfl,(LB h).symm,?_⟩
   have e:(A.zip a)[j]?=some (x,y):=by
    show (List.zipWith Prod.mk A a)[j]?=_
    rw [OD,b,c]
   obtain ⟨f,g⟩:=Li.mp e
   rw [Nk f,g]
structure dz (A:List D):Prop where
 sc:∀x∈A,x.sc=true/\mz x
 ne:A≠[]
 len:A.length<=100
def aK (A:List D):Bool:=decide (A.headD .aq=.str "less")||decide (A.headD .aq=.str "unlike")
def qF:List D->D->Prop:=λds d=>∃A,ds=[.tup A]/\dz A/\d=.bl (aK A)
def fA (B:List Str):D:=.lst (B.map D.str)
def nD:List D->D->Prop:=λds d=>∃A,ds=[.tup A]/\dz A/\d=fA (ai [] A)
def holdsD (r:Str)(a b:D):Bool:=if r="unlike" then !decide (a=b) else match a,b with
 |.int i,.int j=>decide (i<j)
 |_,_=>false
def holdsA:List D->Bool
 |[.str r,a,b]=>holdsD r a b
 |_=>false
def qU:List D->D->Prop:=λds d=>∃r a b,ds=[.tup [.str r,a,b]]/\a.sc=true/\b.sc=true/\d=.bl (holdsD r a b)
def cq (as:List (List D)):D:=.tup (as.map D.tup)
def ci (as:List (List D)):D:=.lst (as.map D.tup)
def um:List D->D->Prop:=λds d=>∃as,ds=[cq as]/\(∀a∈as,dz a)/\as.length<=100/\d=ci (as.filter λa=> !aK a)
def ph:List D->D->Prop:=λds d=>∃as,ds=[cq as]/\(∀a∈as,dz a)/\as.length<=100/\d=ci (as.filter aK)
def oX:List D->D->Prop:=λds d=>∃l ps,ds=[.tup l,.lst (pairD ps)]/\(∀x∈l,x.sc=true)/\(∀p∈ps,p.2.sc=true)/\l.length<=1000/\d=.tup (l.map (bY ps))
def dY (B:List Str):List (aJ×V):=B.map λb=>(Sum.inr b,V.bl true)
def FW (B:ZY)(n:Str):ca (dY B) (Sum.inr n) (V.bl true)=dY (if n∈B then B else B++[n]):=by
 have a:∀B:ZY,((dY B).any λc=>decide<|c.1=(Sum.inr n:aJ))=decide (n∈B):=by
  intro B
  induction B with
  |nil=>rfl
  |cons b r d=>
   show (decide ((Sum.inr b:aJ)=Sum.inr n)||(dY r).any λc=>decide<|c.1=(Sum.inr n:aJ))=_
   rw [d]
   have:decide ((Sum.inr b:aJ)=Sum.inr n)=decide (b=n):=by simp
   rw [this]
   by_cases e:b=n
   .simp [e]
   .have f:¬n=b:=λz=>e z.symm
    simp [e,f]
 unfold ca
 rw [a B]
 by_cases e:n∈B
 .rw [LH e,Lv rfl,Lv e]
  unfold dY
  rw [Mb]
  refine LW λb _=>?_
  show (if (Sum.inr b:aJ)=Sum.inr n then ((Sum.inr b:aJ),V.bl true) else (Sum.inr b,V.bl true))=(Sum.inr b,V.bl true)
  split<;>rfl
 .rw [LR e,Lq Ls,Lq e]
  unfold dY
  rw [LU]
  rfl
def Kn(h:aH x=true):ce B x=if x.name∈B then B else B++[x.name]:=by
 unfold ce
 by_cases e:x.name∈B
 .rw [Lq (by simp [e]),Lv e]
 .rw [Lv (by simp [e,h]),Lq e]
def uC(h:aH x=false):ce B x=B:=by unfold ce;rw [Lq (by simp [h])]
def Bc {l:ZZ}{j:Nat}{x:D}(h:l[j]?=some x):ai [] (l.take (j+1))=ce (ai [] (l.take j)) x:=by
 unfold ai
 rw [L0,h,MM]
 rfl
def jS (l:ZZ):∀B:ZY,(ai B l).length<=B.length+l.length:=by
 induction l with
 |nil=>intro B;exact Lo _
 |cons x r a=>
  intro B
  have b:=a<|ce B x
  have c:(ce B x).length<=B.length+1:=by
   unfold ce
   split
   .rw [LC];exact Lo _
   .omega
  show (ai (ce B x) r).length<=_
  rw [Ma]
  omega
section
variable {σ:St}{δ:Dn}{M:List Addr}{H:Hp}{ty tz:TE}{E:Ends}{K:PySem.W.Frag}
def vH(l:ap M H)(f:ax (but H M) σ δ)(k:i<δ.length)
  (q:∀p a c,(∀j:Nat,j≠i->a[j]?=σ[j]?)->a[i]?=some (some (.ref p))->p∉M->c p=some (.dK [])->ap (p::M) c->(∀b o,H b=some o->b≠p/\c b=some o)->ax (but c (p::M)) a (δ.set i none)->E.nx a c):dZ BU (cf i) E σ H:=λp d=>by
 have m:=f.len
 refine q p _ _ (λj h=>Lm<|Ml h) (Lx Z4) (l.fresh d) aN (l.upd.cons aN) (λb o e=>?_)<|uB f d
 have g:b≠p:=cU e d
 exact ⟨g,by rw [aA g];exact e⟩
def Cd{i:Nat}(l:ap M H)(s:ax (but H M) σ δ)(j:p∈M)(e:σ[i]?=some (some (.ref p)))(t:H p=some (.dK (dY B)))(J:B.length<1000)(h:ae ty (but H M) σ (.str n))(w:ae tz (but H M) σ (.bl true))
  (k:∀c,(∀b o,b≠p->H b=some o->c b=some o)->ap M c->c p=some (.dK (dY (if n∈B then B else B++[n])))->ax (but c M) σ δ->E.nx σ c):tq (aY i) ty tz E σ H:=by
 refine w M H (ab.refl _) l _ λv x a y=>⟨.ref p,e,h M x (a.but M) (l.same a) _ λu r g z=>?_⟩
 have m:=g _ _<|a _ _ t
 have A:=(fC (d:=.str n) rfl z).2
 have C:=y.jl
 have f:(dY B).length<sizeLine:=by unfold dY;rw [Ll];exact cp Z4
 refine ⟨p,_,rfl,by rw [A];exact gu.k (k:=Sum.inr n) m f,?_⟩
 have G:but (upd r p (.dK<|ca (dY B) (Sum.inr n) v)) M=but r M:=dw j
 refine k _ (λb o I q=>by rw [aA I];exact g _ _<|a _ _ q) (l.same<|a.trans g).upd ?_ ?_
 .rw [aN,C,FW]
 .rw [G];exact s.same<|a.trans g
end
theorem Cv:∀(B:ZY),az H (B.map V.str) (B.map D.str)
 |[]=>.nil
 |b::r=>.cons (.str b)<|Cv r
end FL
namespace FL
open PySem L2
section
variable {X:Cx}{x:Str}{e a b tg iter:Expr}{te ta tb:TE}{pos pos':Pos}{op:CmpOp}{r:R2}{wi:TI}{g:TG}{ts:TS}{body:List Stmt}
def bq (i:Nat)(c:X.N.Nodup)(d:X.N[i]?=some x:=by rfl)(f:Loc X.env.scope x:=by first|exact Or.inl rfl|exact Or.inr rfl)(h:X.fn x=true\/X.env.scope.names.lookup x=some .local:=by first|exact .inl rfl|exact .inr rfl|assumption):PG X (.Name x pos) (cf i):=D4 c d f h
def bj (i:Nat)(c:X.N.Nodup)(d:PE X e te)(f:X.N[i]?=some x:=by rfl)(h:Loc X.env.scope x:=by first|exact Or.inl rfl|exact Or.inr rfl)(j:swapsWith e (some (.Name x pos')) pos.line X.env=pure false:=by rfl)(k:X.fn x=true\/X.env.scope.names.lookup x=some .local:=by first|exact .inl rfl|exact .inr rfl|assumption):
  PS X (.Assign [.Name x pos'] e pos) (dZ te (cf i)):=AO c f h d j k
def jW (c:cH X (compareOp op) r)(d:PE X a ta)(f:PE X b tb)(h:behindInMarks op b=false:=by first|exact ym _|rfl):PE X (.Compare a [op] [b] pos) (bZ r ta tb):=KS c d f h
def cX (c:cH X (compareOp op) r)(d:PE X a ta)(f:PE X b tb)(h:behindInMarks op b=false:=by first|exact ym _|rfl):PT X (.Compare a [op] [b] pos) (sQ (bZ r ta tb)):=FR c d f h
end
def jP (x:Str):[x].Nodup:=by simp
end FL
namespace a7
open PySem L2 FL
def cg (i:Nat):Stmt:=PySem.Challenge.pw_factloom_k13_whole_any_order.main.body.getD i (.Pass ⟨0,0,0,0⟩)
abbrev qA:Stmt:=cg 3
abbrev qE:Stmt:=cg 4
abbrev sW:Stmt:=cg 5
abbrev qZ:Stmt:=cg 6
abbrev qK:Stmt:=cg 7
abbrev s_holds:Stmt:=cg 8
abbrev qQ:Stmt:=cg 15
abbrev qy:Stmt:=cg 16
abbrev qv:Stmt:=cg 17
abbrev sO:Stmt:=cg 18
abbrev sL:Stmt:=cg 19
abbrev sU:Stmt:=cg 21
abbrev tR:Stmt:=cg 22
abbrev qG:Stmt:=cg 23
abbrev qY:Stmt:=cg 27
abbrev sC:Stmt:=cg 28
abbrev tL:Stmt:=cg 29
abbrev t8:Stmt:=cg 31
abbrev sv:Stmt:=cg 32
abbrev qP:Stmt:=cg 33
abbrev rB:Stmt:=cg 34
abbrev sq:Stmt:=cg 35
abbrev tU:Stmt:=cg 36
abbrev tZ:Stmt:=cg 37
abbrev qt:Stmt:=cg 38
abbrev tm:Stmt:=cg 39
abbrev tI:Stmt:=cg 40
abbrev r9:Stmt:=cg 41
abbrev qM:Stmt:=cg 42
abbrev sD:Stmt:=cg 43
abbrev lA:Stmt:=cg 44
def h9:Stmt->Nat->Stmt
 |.ClassDef (body:=b) ..,j=>b.getD j (.Pass ⟨0,0,0,0⟩)
 |s,_=>s
abbrev mI:Stmt:=h9 (cg 20) 0
abbrev lW:Stmt:=h9 (cg 20) 1
abbrev lp:Stmt:=h9 (cg 20) 2
abbrev mn:Stmt:=h9 (cg 20) 3
abbrev lC:Stmt:=h9 (cg 24) 0
abbrev lL:Stmt:=h9 (cg 24) 1
abbrev mM:Stmt:=h9 (cg 24) 2
abbrev mw:Stmt:=h9 (cg 24) 3
abbrev mG:Stmt:=h9 (cg 24) 4
abbrev lO:Stmt:=h9 (cg 26) 0
abbrev mL:Stmt:=h9 (cg 26) 1
abbrev lU:Stmt:=h9 (cg 26) 2
section
variable {P:Program}{w:World}{K:PySem.W.Frag}{mg:Str->Option Value}{base:Heap}{f:Addr}{fd:FuncData}
def D9:bV ["part"] ["part"] (be qA):=⟨rfl,rfl,rfl,Z9,rfl,Z9,Z9⟩
def GR (F:aI K "is_blank" "is_blank" qA f fd)(B:Bl mg):bp P w K mg base bD 1 f fd ["part"] (bA ue):=by
 refine F.ok D9 (eI (n:=1) λi d j=>by obtain ⟨x,e,_⟩:=j;rw [e];rfl) λk A g s H p Q E t h=>?_
 obtain ⟨M,i,d,a,l,⟨x,rfl,m,rfl⟩,q⟩:=h
 refine ⟨_,(aE<|bE<|n9 (jg B (pv 0) B.str OE)<|pr<|Hv<|bG (pv 0) aO),?_⟩
 have E0:=gN l ["part"]
 cases x with
 |str s=>
  obtain ⟨o,c,r,e⟩:=m
  exact eA a ((fq (b:=true) (kA (d:=.str s)<|aG E0 rfl) λ_=>Hi<|Hy o (c:=c) (by rw [e];exact jr) (aG E0 rfl) av).eq (by show D.bl (true&&_)=D.bl (Txt.isupper _);rw [JK e,OL])) q
 |aq=>exact eA a (fq (b:=false) (c:=false) (kA (d:=.aq)<|aG E0 rfl) λz=>nomatch z) q
 |bl b=>exact eA a (fq (b:=false) (c:=false) (kA (d:=.bl b)<|aG E0 rfl) λz=>nomatch z) q
 |int b=>exact eA a (fq (b:=false) (c:=false) (kA (d:=.int b)<|aG E0 rfl) λz=>nomatch z) q
 |tup b=>exact eA a (fq (b:=false) (c:=false) (kA (d:=.tup b)<|aG E0 rfl) λz=>nomatch z) q
 |lst b=>exact eA a (fq (b:=false) (c:=false) (kA (d:=.lst b)<|aG E0 rfl) λz=>nomatch z) q
def Ay:bV ["atom","setting","things"] ["atom","setting"] (be qZ):=⟨rfl,rfl,rfl,Z9,rfl,Z9,Z9⟩
def CY (F:aI K "filled" "filled" qZ f fd)(B:Bl mg):bp P w K mg base bD 1 f fd ["atom","setting"] (bA oX):=by
 refine F.ok Ay (eI (n:=2) λz d C=>by obtain ⟨l,b,e,_⟩:=C;rw [e];rfl) λG A c s H I Q E t h=>?_
 obtain ⟨M,z,d,u,J,⟨l,b,rfl,L,x,N,rfl⟩,q⟩:=h
 have hu:=eC t
 have g:=fJ t
 refine ⟨_,(aD (bj 2 Ay.nd<|vR B<|pv 1)
   (aE<|bE<|sK B<|fh ["things","part"] [2] 1 (ck<|pv 0) (λ_ _ _ _ _=>(bq 1 (show (["things","part"]:ZY).Nodup from by decide+kernel))) (λ_ _ _ _ _=>iG) λ_ _ _ _ _=>(sT g (pv 0) (pv 1) (pv 1) ⟨rfl,rfl,rfl,rfl⟩))),?_⟩
 have E0:=gN J ["atom","setting","things"]
 obtain ⟨v,O,T⟩:=E0.get 1 _ rfl
 obtain ⟨a,U,rfl,Y,h2⟩:=T.dI
 refine ⟨.ref a,O,a,U,bK b,rfl,aQ.of (aw Y).2,rp x h2,λp y=>?_⟩
 have j:=c8 y (.dK<|cb []<|bK b)
 have k:=u.fresh y
 have E1:=(E0.same j).off 2<|some (.ref p)
 have m:but (upd H p (.dK<|cb []<|bK b)) M p=some (.dK<|cb []<|bK b):=by rw [bf k];exact aN
 have o:((L2.start ["atom","setting","things"] I).set 2<|some<|V.ref p)[2]?=some (some (.ref p)):=Lx (by rw [E0.len];show 2<3;decide)
 refine eA (u.same j) (qk<|aa ((gk (i:=1) (p:=λ_=>true) (f:=bY b) (jy<|aG E1 rfl) (λG' v d _ _ _=>jn) (λG' v d sG hd _ r=>z8 (a:=p) ?_ (sG _ _ m) (L d hd) x<|cA ?_ r)<|cp N).eq ?_) ag) λv H2 s2 r2=>q v H2 (j.trans s2) r2
 .simp [a5,o]
 .simp [a5]
 .rw [Mp.mpr λ_ _=>rfl]
def oN:bV ["atom","fact","setting","things","further","part","thing"] ["atom","fact","setting"] (be qK):=⟨rfl,rfl,rfl,Z9,rfl,Z9,Z9⟩
def J8 (F:aI K "matched" "matched" qK f fd)(B:Bl mg)(l:a6 P w K mg base 1 "is_blank" ["part"] (bA ue)):bp P w K mg base bD 2 f fd ["atom","fact","setting"] (bA yt):=by
 refine F.ok oN (eI (n:=3) λds d q0=>by obtain ⟨_,_,_,e,_⟩:=q0;rw [e];rfl) λch A bc s H vs Q E hr h=>?_
 obtain ⟨M,ds,d,lv,rs,⟨At,Fc,u,rfl,hA,ac,ao,bd,cl,nA,nF,rfl⟩,q⟩:=h
 have hu:=eC hr
 have af:=fJ hr
 refine ⟨_,(aD (cx (kQ (cX (jO (by exact hu)) (bG (pv 0) aO)<|bG (pv 1) aO)<|ng<|cX (jO (by exact hu)) (da B<|pv 0)<|da B<|pv 1).pt (aE<|bE vz) cM)
   (aD (bj 3 oN.nd<|vR B<|pv 2)
   (aD (bj 4 oN.nd<|Bw B<|pv 2)
   (aD (cO LM rfl (KQ B.zip<|ak (pv 0)<|ak (pv 1) ar) (ml rfl<|fb (bq 5 oN.nd)<|fb (bq 6 oN.nd) jM) (aE (cx (kG (dN<|bI l hr<|ak (pv 5) ar)<|kR<|jt<|ny (by exact af) (pv 5)<|pv 3).pt (aD (ly af (pv 3) (pv 5) (pv 6) rfl)
   (aE<|iZ (pv 4)<|eE<|ak (pv 5)<|ak (pv 6) ar))<|aE<|cx (cX (jO (by exact hu)) (sT af (pv 3) (pv 5) (pv 5) ⟨rfl,rfl,rfl,rfl⟩)<|pv 6) (aE<|bE vz) cM)))
   (aE<|bE<|pv 4))))),?_⟩
 have E0:=gN rs ["atom","fact","setting","things","further","part","thing"]
 obtain ⟨N,A',rfl⟩:=NX nA
 obtain ⟨O,F',rfl⟩:=NX nF
 have as:=gj (hA N Lj).1<|ac O Lj
 refine ij lv E0 (li (c7<|ti as.1 as.2 (cv (d:=N) jr (aG E0 rfl) av)<|cv (d:=O) jr (aG E0 rfl) av) λ_=>c7<|pf (nX<|aa (aG E0 rfl) ag)<|nX<|aa (aG E0 rfl) ag) (λe H1 s1 l1 E1=>?_) λe H1 s1 l1 E1=>nx ?_
 .have hm:nE (bC (N::A') (O::F') u)=.aq:=by
   unfold bC
   rw [Lq]
   rfl
   rintro ⟨z1,z2⟩
   have z1:N=O:=z1
   rw [z2,z1] at e
   simp at e
  rw [hm] at q
  exact q .aq H1 s1 .aq
 have v:N=O/\(N::A').length=(O::F').length:=by
  rw [NV] at e
  refine ⟨by simpa using e.1,?_⟩
  have:=e.2
  simp only [Bool.not_eq_false',NR] at this
  exact Int.ofNat.inj this
 have hm:nE (bC (N::A') (O::F') u)=nE (fz u<|(N::A').zip (O::F')):=by
  unfold bC
  rw [Lv]
  exact v
 rw [hm] at q
 have C:=v.2
 generalize N::A'=m at hA bd q C E1
 generalize O::F'=r at ac q C E1
 refine Jm (i:=3) (k:=2) l1 E1 Z8 rfl ao λp co H2 o2 i2 n2 h2 l2 k2 E2=>?_
 refine FX (i:=4) (k:=2) l2 E2 Z8 rfl λa bi bk H3 o3 i3 n3 h3 r3 l3 k3 E3=>?_
 have bl:bk[3]?=some (some (.ref p)):=(o3 3 Z1).trans i2
 obtain ⟨a0,bs⟩:=k3 _ _ h2
 have a1:ab H H2:=s1.trans λb o e=>(k2 b o e).2
 have bt:ab H H3:=a1.trans λb o e=>(k3 b o e).2
 have bx:H p=none:=none_of s1 k2
 have b0:H a=none:=none_of a1 k3
 refine gK (M:=a::p::M) (ds:=kE m r) (HR C<|aa (aG E3 rfl)<|aa (aG E3 rfl) ag) l3 λH4 s4=>?_
 refine ⟨λj g G=>∃Fr ws,fz u (m.zip r)=fz Fr ((m.zip r).drop j)/\(∀t∈Fr,t.2.sc=true)/\Fr.length<=u.length+j/\g[3]?=some (some (.ref p))/\g[4]?=some (some (.ref a))/\G p=some (.dK<|cb []<|bK Fr)/\G a=some (.lst ws)/\az (but G (a::p::M)) ws (pairD Fr)/\ab H G/\ap (a::p::M) G/\ab (but H4 (a::p::M)) (but G (a::p::M))/\ax (but G (a::p::M)) g [some (.tup m),some (.tup r),some (.lst<|pairD u),none,none,none,none],
  ⟨u,bi,rfl,ao,by omega,bl,i3,s4 _ _ bs,s4 _ _ h3,r3.mono<|s4.but _,bt.trans s4,l3.same s4,ab.refl _,E3.same s4⟩,λj g G q1=>by obtain ⟨_,_,_,_,_,_,_,_,_,_,_,x,y,_⟩:=q1;exact ⟨y,x⟩,?_,?_⟩
 .rintro j d x g G b6 hd ⟨Fr,ws,c,cJ,b7,j3,j4,hp,ha,ra,S0,l',S',E'⟩ L rx
  obtain ⟨x1,Y,ex,ey,rfl,aj⟩:=Iw hd
  have am:=hA x1<|Lp ex
  have an:=ac Y<|Lp ey
  have hj:j<m.length:=(Li.mp ex).1
  refine nZ rx λv1 v2 r1 r2=>?_
  have E5:ax (but b6 (a::p::M)) ((g.set 5<|some v1).set 6<|some v2) [some (.tup m),some (.tup r),some (.lst<|pairD u),none,none,some x1,some Y]:=((E'.same L).set 5 r1).set 6 r2
  have l5:=l'.same L
  have b3:((g.set 5<|some v1).set 6<|some v2)[3]?=some (some (.ref p)):=by rw [Lm Z1,Lm Z1];exact j3
  have b4:((g.set 5<|some v1).set 6<|some v2)[4]?=some (some (.ref a)):=by rw [Lm Z1,Lm Z1];exact j4
  have T:=L _ _ hp
  have a2:=L _ _ ha
  have a3:=ra.mono<|L.but (a::p::M)
  rw [aj] at c
  refine wI l5 E5 (G2 (TV.of l5<|dP<|bQ ⟨x1,rfl,am.2,rfl⟩<|aa (aG E5 rfl) ag) λ_=>IJ b3 T am.1 l5<|aG E5 rfl) (λe H6 U l6 E6=>?_) λe H6 U l6 E6=>?_
  .obtain ⟨n,rfl⟩:∃n,x1=.str n:=by
    cases x1 with
    |str n=>exact ⟨n,rfl⟩
    |_=>simp [aH] at e
   have I:fz u (m.zip r)=fz (Fr++[(n,Y)]) ((m.zip r).drop<|j+1):=by
    rw [c]
    show (fL Fr (.str n) Y).bind _=_
    unfold fL
    rw [Lv e]
    rfl
   refine z0 (n:=n) (y:=Y) l6 E6 Z8 b3 (U _ _ T) an Z4 (aG E6 rfl) (aG E6 rfl) λH7 k7 l7 h7 E7=>?_
   have a4:ab (but H6 (a::p::M)) (but H7 (a::p::M)):=lD Z8 k7
   refine tM l7 E7 (a:=a) Z8 b4 (k7 _ _ (Ml a0)<|U _ _ a2) (a3.mono<|(U.but _).trans a4) (by simp only [pairD,Ll];exact cp Z4) (aR<|aa (aG E7 rfl)<|aa (aG E7 rfl) ag) λv8 H8 k8 l8 h8 r8 E8=>?_
   have b8:ab (but H7 (a::p::M)) (but H8 (a::p::M)):=lD Z8 k8
   exact ⟨Fr++[(n,Y)],_,I,xc cJ an,by rw [LC,My];omega,b3,b4,k8 _ _ a0 h7,h8,by rw [DO];exact r8,mJ (mJ (S0.trans<|L.trans U) bx k7) b0 k8,l8,S'.trans<|((L.trans U).but _).trans<|a4.trans b8,(E8.drop 5).drop 6⟩
  .refine wI l6 E6 (DL b3 (U _ _ T) am.1 an cJ l6 (aG E6 rfl)<|aG E6 rfl) (λe2 H7 s7 l7 E7=>?_) (λe2 H7 s7 l7 E7=>nx ?_)
   .have I:fz u (m.zip r)=none:=by
     rw [c]
     show (fL Fr x1 Y).bind _=_
     unfold fL
     rw [e,Lq Ls,Lq (by simpa using e2)]
     rfl
    rw [I] at q
    exact q .aq H7 (S0.trans<|L.trans<|U.trans s7) .aq
   .have I:fz u (m.zip r)=fz Fr ((m.zip r).drop<|j+1):=by
     rw [c]
     show (fL Fr x1 Y).bind _=_
     unfold fL
     rw [e,Lq Ls,Lv (by simpa using e2)]
     rfl
    have J:=U.trans s7
    exact ⟨Fr,ws,I,cJ,by omega,b3,b4,J _ _ T,J _ _ a2,a3.mono<|J.but _,S0.trans<|L.trans J,l7,S'.trans<|(L.trans J).but _,(E7.drop 5).drop 6⟩
 .rintro g G ⟨Fr,ws,c,cJ,b7,j3,j4,hp,ha,ra,S0,l',S',E'⟩
  have kM:(m.zip r).drop (kE m r).length=[]:=OA (by simp [kE])
  rw [kM] at c
  rw [c] at q
  refine ⟨.ref a,j4,q (.ref a) G S0 ?_⟩
  have cd:a∉M:=λz=>n3<|Lg _ z
  exact lS cd ha (ra.mono (dR λb hb=>by
   rcases Lw.mp hb with rfl|hb
   .exact Lj
   .exact Lg _<|Lg _ hb))
def Fa:bV ["atom"] ["atom"] (be qE):=⟨rfl,rfl,rfl,Z9,rfl,Z9,Z9⟩
def C5(F:aI K "is_guard" "is_guard" qE f fd)(B:Bl mg)(g:mg "LESS"=some k/\RelV (.str "less") k)(c:mg "UNLIKE"=some l/\RelV (.str "unlike") l):bp P w K mg base bD 1 f fd ["atom"] (bA qF):=by
 refine F.ok Fa (eI (n:=1) λu d v=>by obtain ⟨x,e,_⟩:=v;rw [e];rfl) λy A j s H I Q E z h=>?_
 obtain ⟨M,u,d,C,G,⟨J,rfl,m,rfl⟩,q⟩:=h
 have o:=eC z
 refine ⟨_,(aE<|bE<|HC (jW (f9 (by exact o)) (bG (pv 0) aO)<|ua rfl g.1 g.2)<|pr<|jW (f9 (by exact o)) (bG (pv 0) aO)<|ua rfl c.1 c.2),?_⟩
 have E0:=gN G ["atom"]
 obtain ⟨i,L,rfl⟩:=NX m.ne
 have p:=(m.sc i Lj).1
 have r:=gj (a:=i) (b:=.str "less") p rfl
 have t:=gj (a:=i) (b:=.str "unlike") p rfl
 exact eA C (IC (oz r.1 r.2 (cv (d:=i) jr (aG E0 rfl) av) aM) λ_=>oz t.1 t.2 (cv (d:=i) jr (aG E0 rfl) av) aM) q
def vP:bV ["atom","found","part"] ["atom"] (be sW):=⟨rfl,rfl,rfl,Z9,rfl,Z9,Z9⟩
def He (F:aI K "blanks_in" "blanks_in" sW f fd)(B:Bl mg)(c:a6 P w K mg base 1 "is_blank" ["part"] (bA ue)):bp P w K mg base bD 2 f fd ["atom"] (bA nD):=by
 refine F.ok vP (eI (n:=1) λds d q0=>by obtain ⟨x,e,_⟩:=q0;rw [e];rfl) λaj A I s H vs Q E J h=>?_
 obtain ⟨M,ds,d,lv,rs,⟨k,rfl,hA,rfl⟩,q⟩:=h
 have hu:=eC J
 have L:=fJ J
 refine ⟨_,(aD (bj 1 vP.nd ro)
   (aD (cO LM rfl (ck<|pv 0) (bq 2 vP.nd)<|aE<|cx (dN<|bI c J<|ak (pv 2) ar) (aE<|ly L (pv 1) (pv 2) eh rfl) cM)
   (aE<|bE<|G8 B<|pv 1))),?_⟩
 have E0:=gN rs ["atom","found","part"]
 refine vH (i:=1) lv E0 Z8 λp am H1 o1 i1 n1 h1 l1 k1 E1=>?_
 have N:ab H H1:=λb o e=>(k1 b o e).2
 have O:H p=none:=none_of (ab.refl H) k1
 refine gK (M:=p::M) (ds:=k) (jy<|aG E1 rfl) l1 λH2 z=>?_
 refine ⟨λj g l=>g[1]?=some (some (.ref p))/\l p=some (.dK<|dY<|ai []<|k.take j)/\ab H l/\ap (p::M) l/\ab (but H2 (p::M)) (but l (p::M))/\ax (but l (p::M)) g [some (.tup k),none,none],
  ⟨i1,z _ _ h1,N.trans z,l1.same z,ab.refl _,E1.same z⟩,λj g l q1=>by obtain ⟨_,_,_,x,y,_⟩:=q1;exact ⟨y,x⟩,?_,?_⟩
 .rintro j d x g l T C ⟨U,t,u,l',Y,E'⟩ m rx
  have hx:=hA.sc d<|Lp C
  have hj:j<k.length:=(Li.mp C).1
  have E3:ax (but T (p::M)) (g.set 2<|some x) [some (.tup k),none,some d]:=(E'.same m).set 2 rx
  have b1:(g.set 2<|some x)[1]?=some (some (.ref p)):=(Lm Z1).trans U
  refine ij (l'.same m) E3 (dP<|bQ ⟨d,rfl,hx.2,rfl⟩<|aa (aG E3 rfl) ag) (λe H4 r l4 G=>?_) λe H4 r l4 G=>nx ?_
  .have ac:=jp e
   have v:=jS (k.take j) []
   rw [Nq,L9] at v
   refine Cd (n:=d.name) l4 G Z8 b1 (r _ _<|m _ _ t) (by have:=hA.len;omega) ((aG G rfl).eq ac) (jw (b:=true)) λH5 k5 l5 h5 E5=>?_
   have S5:ab (but H4 (p::M)) (but H5 (p::M)):=lD Z8 k5
   refine ⟨b1,?_,mJ (u.trans<|m.trans r) O k5,l5,Y.trans<|((m.trans r).but _).trans S5,E5.drop 2⟩
   rw [Bc C,Kn e]
   exact h5
  .refine ⟨b1,?_,u.trans<|m.trans r,l4,Y.trans<|(m.trans r).but _,G.drop 2⟩
   rw [Bc C,uC e]
   exact r _ _<|m _ _ t
 .rintro g l ⟨U,t,u,l',Y,E'⟩
  rw [LS<|Lo _] at t
  refine ⟨.ref p,U,p,_,rfl,.inl t,λa ha=>q (.ref a) _ (u.trans<|c8 ha _) ?_⟩
  have e1:(dY<|ai [] k).map (λkv=>kV kv.1)=(ai [] k).map V.str:=by
   unfold dY
   rw [Mb]
   rfl
  rw [e1]
  have af:a∉M:=(lv.same u).fresh ha
  refine .lst (vs:=(ai [] k).map V.str) ?_ (Cv _)
  rw [bf af]
  exact aN
def sc_holds:bV ["guard","first","second"] ["guard"] (be s_holds):=⟨rfl,rfl,rfl,Z9,rfl,Z9,Z9⟩
def ok_holds(F:aI K "holds" "holds" s_holds f fd)(B:Bl mg)(g:mg "UNLIKE"=some G/\RelV (.str "unlike") G):bp P w K mg base bD 1 f fd ["guard"] (bA qU):=by
 refine F.ok sc_holds (eI (n:=1) λds d q0=>by obtain ⟨_,_,_,e,_⟩:=q0;rw [e];rfl) λac A l s H vs Q E hr h=>?_
 obtain ⟨M,ds,d,lv,rs,⟨r,a,b,rfl,I,J,rfl⟩,q⟩:=h
 have L:=eC hr
 refine ⟨_,(aD (bj 1 sc_holds.nd<|bG (pv 0) aO)
   (aD (bj 2 sc_holds.nd<|bG (pv 0) aO)
   (aD (cx (cX (f9 (by exact L)) (bG (pv 0) aO)<|ua rfl g.1 g.2) (aE<|bE<|jW (jO (by exact L)) (pv 1)<|pv 2) cM)
   (aE<|bE<|n9 (jg B (pv 1) B.int OF)<|n9 (jg B (pv 2) B.int OF)<|pr<|jW m5 (pv 1)<|pv 2)))),?_⟩
 have E0:=gN rs ["guard","first","second"]
 refine xB lv E0 (cv (d:=a) rfl (aG E0 rfl) av) λaf H1 N l1 O=>?_
 refine xB l1 O (cv (d:=b) rfl (aG O rfl) av) λm H2 T l2 U=>?_
 have cJ:=gj I J
 refine ij l2 U (c7<|oz (d1:=.str r) (d2:=.str "unlike") rfl (LP _) (cv (d:=.str r) rfl (aG U rfl) av) aM) (λe Y o p k=>?_) λe Y o p k=>nx ?_
 .have t:r="unlike":=by simpa using e
  refine eA p (ti cJ.1 cJ.2 (aG k rfl)<|aG k rfl) λv u x y=>q v u (N.trans<|T.trans<|o.trans x) ?_
  unfold holdsD
  rw [Lv t]
  exact y
 .have t:¬r="unlike":=by simpa using e
  have C:ae (sw (cI (iX K)<|bn (aY 1)<|bn (tC (.ty "int")) bB)<|sw (cI (iX K)<|bn (aY 2)<|bn (tC (.ty "int")) bB)<|bZ (fS λi j=>.bl<|decide<|i<j) (aY 1)<|aY 2) (but Y M) m (.bl<|holdsD r a b):=by
   unfold holdsD
   rw [Lq t]
   cases a with
   |int i=>
    cases b with
    |int j=>exact fq (b:=true) (c:=decide<|i<j) (nW (d:=.int i)<|aG k rfl) λ_=>fq (b:=true) (nW (d:=.int j)<|aG k rfl) λ_=>mP (aG k rfl)<|aG k rfl
    |str j=>exact fq (b:=true) (c:=false) (nW (d:=.int i)<|aG k rfl) λ_=>fq (b:=false) (c:=false) (nW (d:=.str j)<|aG k rfl) λz=>nomatch z
    |_=>exact absurd J (by simp [D.sc])
   |str i=>exact (fq (b:=false) (c:=false) (nW (d:=.str i)<|aG k rfl) λz=>nomatch z)
   |_=>exact absurd I (by simp [D.sc])
  exact eA p C λv u x y=>q v u (N.trans<|T.trans<|o.trans x) y
def yi (p:D->Bool)(g:ZZ->Bool)(b:ZW)(h:∀a∈b,p (.tup a)=g a):((b.map D.tup).filter p).map (λd=>d)=(b.filter g).map D.tup:=by
 rw [OB,Nb]
 congr 1
 exact M1 h
def rh:D->Bool
 |.tup A=>aK A
 |_=>false
def Fm:bV ["body"] ["body"] (be qQ):=⟨rfl,rfl,rfl,Z9,rfl,Z9,Z9⟩
def JO (F:aI K "askers_in" "askers_in" qQ f fd)(B:Bl mg)(b:a6 P w K mg base 1 "is_guard" ["atom"] (bA qF)):bp P w K mg base bD 2 f fd ["body"] (bA um):=by
 refine F.ok Fm (eI (n:=1) λk d l=>by obtain ⟨x,e,_⟩:=l;rw [e];rfl) λm A c s H I Q E o h=>?_
 obtain ⟨M,k,d,t,u,⟨g,rfl,y,J,rfl⟩,q⟩:=h
 refine ⟨_,(aE<|bE<|fh ["atom"] [] 1 (ck<|pv 0) (λ_ _ _ _ _=>(bq 0<|jP _)) (λ_ _ _ _ _=>(iI<|gg<|dN<|iN b o<|ak (pv 0) ar)) λ_ _ _ _ _=>(pv 0)),?_⟩
 have E0:=gN u ["body"]
 refine eA t (ae.eq (gk (caps:=a5 [] 1) (i:=0) (p:=λd=> !rh d) (f:=λd=>d) (jy (ds:=g.map D.tup)<|aG E0 rfl) (λz v d C j r=>?_) (λz v d C j _ r=>cA ?_ r) (by rw [Ll];exact cp Z4)) ?_) q
 .obtain ⟨a,G,rfl⟩:=LG.mp j
  exact f6<|dP<|bQ (d:=.bl<|rh (.tup a)) ⟨a,rfl,y a G,rfl⟩<|aa (cA (by simp [a5]) r) ag
 .simp [a5]
 .rw [yi _ (λa=> !aK a) g λa _=>rfl]
  rfl
def F6:bV ["body"] ["body"] (be qy):=⟨rfl,rfl,rfl,Z9,rfl,Z9,Z9⟩
def Hk (F:aI K "guards_in" "guards_in" qy f fd)(B:Bl mg)(b:a6 P w K mg base 1 "is_guard" ["atom"] (bA qF)):bp P w K mg base bD 2 f fd ["body"] (bA ph):=by
 refine F.ok F6 (eI (n:=1) λk d l=>by obtain ⟨x,e,_⟩:=l;rw [e];rfl) λm A c s H I Q E o h=>?_
 obtain ⟨M,k,d,t,u,⟨g,rfl,y,J,rfl⟩,q⟩:=h
 refine ⟨_,(aE<|bE<|fh ["atom"] [] 1 (ck<|pv 0) (λ_ _ _ _ _=>(bq 0<|jP _)) (λ_ _ _ _ _=>(iI<|dN<|iN b o<|ak (pv 0) ar)) λ_ _ _ _ _=>(pv 0)),?_⟩
 have E0:=gN u ["body"]
 refine eA t (ae.eq (gk (caps:=a5 [] 1) (i:=0) (p:=rh) (f:=λd=>d) (jy (ds:=g.map D.tup)<|aG E0 rfl) (λz v d C j r=>?_) (λz v d C j _ r=>cA ?_ r) (by rw [Ll];exact cp Z4)) ?_) q
 .obtain ⟨a,G,rfl⟩:=LG.mp j
  exact dP<|bQ (d:=.bl<|rh (.tup a)) ⟨a,rfl,y a G,rfl⟩<|aa (cA (by simp [a5]) r) ag
 .simp [a5]
 .rw [yi _ aK g λa _=>rfl]
  rfl
end
end a7
namespace FL
open PySem L2
inductive Da where
 |d (x:D)
 |k (kvs:List (aJ×V))
def rP (H:Hp)(v:V):Da->Prop
 |.d x=>al H v x
 |.k kvs=>∃a,v=.ref a/\H a=some (.dK kvs)
inductive kS (H:Hp):List V->List Da->Prop
 |nil:kS H [] []
 |cons {v:V} {x:Da} {vs:List V} {xs:List Da}:rP H v x->kS H vs xs->kS H (v::vs) (x::xs)
theorem kS.length:∀{a:List V} {b:List Da},kS H a b->a.length=b.length
 |_,_,.nil=>rfl
 |_,_,.cons _ r=>Mq (· +1) r.length
def nJ (t:TA)(G:Hp)(σ:St)(xs:List Da):Prop:=∀M H,ab G (but H M)->ap M H->∀Q:List V->Hp->Prop,(∀vs H',ab H H'->kS (but H' M) vs xs->Q vs H')->t σ H Q
def jo (R:List Da->D->Prop):Sp:=λvs H Q _=>∃M xs d,ap M H/\kS (but H M) vs xs/\R xs d/\∀v H',ab H H'->al (but H' M) v d->Q v H'
section
variable {G:Hp}{σ:St}{ta:TE}{t:TA}{d:D}{xs:List Da}
def pN:nJ bB G σ []:=λM H s l Q k=>k [] H (ab.refl _) .nil
def pC (c:ae ta G σ d)(e:nJ t G σ xs):nJ (bn ta t) G σ (.d d::xs):=
 λM H s l Q k=>c M H s l _ λv f a g=>e M f (s.trans<|a.but M) (l.same a) _ λj h b i=>k _ h (a.trans b) (.cons (show rP _ v (.d d) from g.mono<|b.but M) i)
def pZ{i:Nat}(e:σ[i]?=some (some (.ref a)))(f:G a=some (.dK b))(g:nJ t G σ xs):nJ (bn (aY i) t) G σ (.k b::xs):=
 λM H s l Q k=>⟨.ref a,e,g M H s l _ λm h c j=>k _ h c (.cons ⟨a,rfl,(c.but M) _ _<|s _ _ f⟩ j)⟩
def oT{R:List Da->D->Prop}(b:R xs d)(h:nJ t G σ xs):ae (ii (jo R) [] E t) G σ d:=
 λM H s l Q k=>h M H s l _ λi j a c=>⟨M,xs,d,l.same a,by rw [LV];exact c,b,λv e f g=>k v e (a.trans f) g⟩
end
def uy{R:List Da->D->Prop}(c:∀a d,R a d->a.length=n):∀b H Q E,jo R b H Q E->b.length=n:=λb H Q E f=>by obtain ⟨M,a,d,l,r,e,k⟩:=f;rw [r.length];exact c a d e
def Seen:HO->Bool
 |.lst _=>true
 |.tup _=>true
 |_=>false
mutual
theorem al.eW {H:Hp}{M:List Addr}{a:Addr}{o:HO}(ha:H a=some o)(hs:Seen o=false):∀{v:V} {d:D},al (but H M) v d->al (but H (a::M)) v d
 |_,_,.aq=>.aq
 |_,_,.bl b=>.bl b
 |_,_,.int b=>.int b
 |_,_,.str b=>.str b
 |_,_,.tup (a:=c) h r=>by
  refine .tup ?_ (az.eW ha hs r)
  obtain ⟨h1,h2⟩:=aw h
  rw [bf]
  ·exact h2
  ·intro z
   rcases mem_cons.mp z with z|z
   ·rw [z,ha] at h2
    cases h2
    cases hs
   ·exact h1 z
 |_,_,.lst (a:=c) h r=>by
  refine .lst ?_ (az.eW ha hs r)
  obtain ⟨h1,h2⟩:=aw h
  rw [bf]
  ·exact h2
  ·intro z
   rcases mem_cons.mp z with z|z
   ·rw [z,ha] at h2
    cases h2
    cases hs
   ·exact h1 z
theorem az.eW {H:Hp}{M:List Addr}{a:Addr}{o:HO}(ha:H a=some o)(hs:Seen o=false):∀{vs:List V} {ds:List D},az (but H M) vs ds->az (but H (a::M)) vs ds
 |_,_,.nil=>.nil
 |_,_,.cons h r=>.cons (al.eW ha hs h) (az.eW ha hs r)
end
theorem ax.eW(h:ax (but H M) b c)(f:H a=some o)(g:Seen o=false):ax (but H (a::M)) b c:=⟨h.len,λi d q=>let ⟨v,e,r⟩:=h.get i d q;⟨v,e,al.eW f g r⟩⟩
def dJ (B:List Str):List (aJ×V):=B.zipIdx.map λp=>(Sum.inr p.1,V.int (p.2:Nat))
theorem AV:∀(B:ZY) (k:Nat) (n:Str),bm ((B.zipIdx k).map λp=>((Sum.inr p.1:aJ),V.int (p.2:Nat))) (Sum.inr n)=if n∈B then some (V.int ((k+B.idxOf n:Nat):Int)) else none
 |[],k,n=>by simp [bm]
 |b::r,k,n=>by
  rw [P2,Me]
  by_cases e:b=n
  .subst e
   rw [fY rfl,Lv Lj,List.idxOf_cons_self]
   rfl
  .have c:¬(Sum.inr b:aJ)=Sum.inr n:=λz=>e (PY z)
   rw [fW (by exact c),AV r (k+1) n]
   by_cases a:n∈r
   .have d:(b::r).idxOf n=r.idxOf n+1:=by rw [List.idxOf_cons,show (b==n)=false from by simpa using e];rfl
    rw [Lv a,Lv<|Lg _ a,d]
    congr 3
    omega
   .rw [Lq a,Lq (by
     intro z
     rcases Lw.mp z with z|z
     .exact e z.symm
     .exact a z)]
def slot_get (B:ZY)(n:Str):bm (dJ B) (Sum.inr n)=if n∈B then some (V.int (B.idxOf n:Nat)) else none:=by
 have:=AV B 0 n
 rw [N0] at this
 exact this
section
variable {G:Hp}{σ:St}{ty:TE}{a:Addr}{i:Nat}{B:List Str}{n:Str}
def BJ (e:σ[i]?=some (some (.ref a)))(c:G a=some (.dK (dJ B)))(h:ae ty G σ (.str n)):bJ (tB (oJ ty (aY i))) G σ (decide (n∈B)):=λM H s l Q k=>h M H s l _ λv f b g=>by
 have j:=b _ _ (aw<|s _ _ c).2
 refine ⟨.ref a,e,a,bm (dJ B)<|Sum.inr n,rfl,by rw [(fC (d:=.str n) rfl g).2];exact cT.k j,_,rfl,?_⟩
 have:(bm (dJ B)<|Sum.inr n).isSome=decide (n∈B):=by rw [slot_get];by_cases z:n∈B<;>simp [z]
 rw [this]
 exact k f b
def Aj (e:σ[i]?=some (some (.ref a)))(c:G a=some (.dK (dJ B)))(f:n∈B)(h:ae ty G σ (.str n)):ae (AL (aY i) ty) G σ (.int (B.idxOf n:Nat)):=λM H s l Q k=>⟨.ref a,e,h M H s l _ λv g b j=>by
 have m:=b _ _ (aw<|s _ _ c).2
 refine ⟨a,.int (B.idxOf n:Nat),rfl,?_,k _ g b (.int _)⟩
 have:some (V.int (B.idxOf n:Nat))=bm (dJ B) (Sum.inr n):=by rw [slot_get,Lv f]
 rw [this,(fC (d:=.str n) rfl j).2]
 exact cT.k m⟩
end
def cV (A:List D)(B:List Str):List Nat:=((ai [] A).filter λb=>decide (b∈B)).map B.idxOf
def uK:List Da->D->Prop:=λxs d=>∃A B,xs=[.d (.tup A),.k (dJ B)]/\dz A/\d=.lst ((cV A B).map λn=>D.int (n:Nat))
def cm (A:List D)(B:List Str):Bool:=decide ((cV A B).length=(ai [] A).length)
def Cm:List Da->D->Prop:=λxs d=>∃A B,xs=[.d (.tup A),.k (dJ B)]/\dz A/\d=.bl (cm A B)
inductive kJ (G:Hp):List V->Dn->Prop
 |nil:kJ G [] []
 |dat {v:V} {d:D} {vs:List V} {ds:Dn}:al G v d->kJ G vs ds->kJ G (v::vs) (some d::ds)
 |raw {v:V} {vs:List V} {ds:Dn}:kJ G vs ds->kJ G (v::vs) (none::ds)
theorem kJ.get:∀{a:List V} {b:Dn},kJ G a b->a.length=b.length/\∀(i:Nat) (d:D),b[i]?=some (some d)->∃v,a[i]?=some v/\al G v d
 |_,_,.nil=>⟨rfl,λi d q=>by simp at q⟩
 |_,_,.dat h t=>⟨Mq (· +1) t.get.1,λi d q=>match i,q with
  |0,q=>⟨_,rfl,by have:=LB<|LB q;rw [<-this];exact h⟩
  |i+1,q=>t.get.2 i d q⟩
 |_,_,.raw t=>⟨Mq (· +1) t.get.1,λi d q=>match i,q with
  |0,q=>by cases q
  |i+1,q=>t.get.2 i d q⟩
def fB {G:Hp}{vs:List V}{ds:Dn}(h:kJ G vs ds)(N:ZY):ax G (L2.start N vs) (ds++List.replicate (N.length-ds.length) none):=by
 obtain ⟨hl,hg⟩:=h.get
 refine ⟨by simp [L2.start,hl],λi d q=>?_⟩
 unfold L2.start
 by_cases hi:i<ds.length
 .rw [LO hi] at q
  obtain ⟨v,h1,h2⟩:=hg i d q
  exact ⟨v,by rw [LO (by simpa using (by omega:i<vs.length)),LA,h1];rfl,h2⟩
 .rw [LQ (L8 hi)] at q
  obtain ⟨h1,h2⟩:=Li.mp q
  simp at h2
end FL
namespace a7
open PySem L2 FL
section
variable {P:Program}{w:World}{K:PySem.W.Frag}{mg:Str->Option Value}{base:Heap}{f:Addr}{fd:FuncData}
def vT(h:kS H a [x,y]):∃v w,a=[v,w]/\rP H v x/\rP H w y:=by
 cases h with
 |cons h t=>cases t with
  |cons b c=>cases c;exact ⟨_,_,rfl,h,b⟩
def F9:bV ["atom","slots"] ["atom","slots"] (be sU):=⟨rfl,rfl,rfl,Z9,rfl,Z9,Z9⟩
def Em (F:aI K "slots_of" "slots_of" sU f fd)(B:Bl mg)(G_blanks_in:a6 P w K mg base 2 "blanks_in" ["atom"] (bA nD)):bp P w K mg base bD 3 f fd ["atom","slots"] (jo uK):=by
 refine F.ok F9 (uy (n:=2) λds d q0=>by obtain ⟨_,_,e,_⟩:=q0;rw [e];rfl) (λcdv A outer s H vs Q E hr h=>?_)
 obtain ⟨M,ds,d,lv,rs,⟨At,Bs,rfl,hA,rfl⟩,q⟩:=h
 have hu1:=fJ hr
 obtain ⟨v0,v1,rfl,r0,⟨a,rfl,ha⟩⟩:=vT rs
 have r0:al (but H M) v0 (.tup At):=r0
 refine ⟨_,(aE (bE (fh ["slots","blank"] [1] 1 (ck (bI G_blanks_in hr (ak (pv 0) ar))) (λ_ _ _ _ _=>(bq 1 (show (["slots","blank"]:ZY).Nodup from by decide+kernel))) (λ_ _ _ _ _=>(iI (jt (tY (by exact hu1) (pv 1) (pv 0))))) (λ_ _ _ _ _=>(CC (by exact hu1) (pv 0) (pv 1) (λ_ _=>rfl)))))),?_⟩
 have E0:ax (but H M) (L2.start ["atom","slots"] [v0,.ref a]) [some (.tup At),none]:=fB (.dat r0 (.raw .nil)) ["atom","slots"]
 have hlen:=jS At []
 rw [Nq] at hlen
 have hAl:=hA.len
 refine eA lv (ae.eq (gk (caps:=a5 [1] 1) (i:=1) (p:=λd=>decide (d.name∈Bs)) (f:=λd=>.int ((Bs.idxOf d.name:Nat):Int)) (dn (ds:=(ai [] At).map D.str) (bQ ⟨At,rfl,hA,rfl⟩ (aa (aG E0 rfl) ag))) (λG' v d sG hd r=>?_) (λG' v d sG hd hp r=>?_) (by rw [Ll];exact cp Z4)) ?_) q
 .obtain ⟨b,hb,rfl⟩:=LG.mp hd
  exact BJ (n:=b) (a:=a) (by simp [a5,L2.start]) (sG _ _ ha) (cA (by simp [a5]) r)
 .obtain ⟨b,hb,rfl⟩:=LG.mp hd
  exact Aj (n:=b) (a:=a) (by simp [a5,L2.start]) (sG _ _ ha) (LD hp) (cA (by simp [a5]) r)
 .unfold cV
  rw [Nb,Mb,Mb]
  rfl
def DH:bV ["guard","slots"] ["guard","slots"] (be tR):=⟨rfl,rfl,rfl,Z9,rfl,Z9,Z9⟩
def JI (F:aI K "is_ready" "is_ready" tR f fd)(B:Bl mg)(G_blanks_in:a6 P w K mg base 2 "blanks_in" ["atom"] (bA nD))(G_slots_of:a6 P w K mg base 3 "slots_of" ["atom","slots"] (jo uK)):bp P w K mg base bD 4 f fd ["guard","slots"] (jo Cm):=by
 refine F.ok DH (uy (n:=2) λds d q0=>by obtain ⟨_,_,e,_⟩:=q0;rw [e];rfl) (λcdv A outer s H vs Q E hr h=>?_)
 obtain ⟨M,ds,d,lv,rs,⟨At,Bs,rfl,hA,rfl⟩,q⟩:=h
 have hu:=eC hr
 have hu1:=fJ hr
 obtain ⟨v0,v1,rfl,r0,⟨a,rfl,ha⟩⟩:=vT rs
 have r0:al (but H M) v0 (.tup At):=r0
 refine ⟨_,(aE (bE (jW (f9 (by exact hu)) (da B (bI G_slots_of hr (ak (pv 0) (ak (pv 1) ar)))) (da B (bI G_blanks_in hr (ak (pv 0) ar)))))),?_⟩
 have E0:ax (but H M) (L2.start ["guard","slots"] [v0,.ref a]) [some (.tup At),none]:=fB (.dat r0 (.raw .nil)) ["guard","slots"]
 refine eA lv (ae.eq (jF (dX (aa (oT ⟨At,Bs,rfl,hA,rfl⟩ (pC (aG E0 rfl) (pZ (a:=a) rfl ha pN))) ag)) (dX (aa (bQ ⟨At,rfl,hA,rfl⟩ (aa (aG E0 rfl) ag)) ag))) ?_) q
 unfold cm
 rw [Ll,Ll]
 congr 1
 exact N4.mpr Int.ofNat_inj
end
end a7
namespace FL
open PySem L2
section
variable {G:Hp}{σ:St}{wi:TI}{tt:TT}{te:TE}{K:PySem.W.Frag}
def xU{caps:St->St}(ac:i≠j){ps:List (D×D)}{p:D×D->Bool}{f:D×D->D}(hw:Walk wi G σ (ps.map λq=>.tup [q.1,q.2]))
  (ht:∀t I L q,ab G t->q∈ps->al t I q.1->al t L q.2->bJ tt t (((caps σ).set i (some I)).set j (some L)) (p q))
  (he:∀t I L q,ab G t->q∈ps->p q=true->al t I q.1->al t L q.2->ae te t (((caps σ).set i (some I)).set j (some L)) (f q)) (hz:ps.length<sizeLine):
  ae (gH wi caps (na K 2 (jU (cf i) (jU (cf j) pH))) tt te) G σ (.lst ((ps.filter p).map f)):=λM H s l Q k=>hw M H s l _ λJ H1 s1 af B D hD=>by
 have lf:D∉M:=(l.same s1).fresh hD
 have aj:ab G (but H1 M):=s.trans<|s1.but M
 have am:(ps.map λq=>FL.D.tup [q.1,q.2]).length=ps.length:=Ll _
 refine ⟨λm n τ u=>n=ps.length-m/\m<=ps.length/\(∀v w,(τ.set i<|some v).set j (some w)=((caps σ).set i<|some v).set j (some w))/\ab H1 u/\∃h,u D=some (.lst h)/\az (but u (D::M)) h (((ps.take m).filter p).map f),
  ⟨ps.length,by simp,LP _,λ_ _=>rfl,c8 hD _,[],aN,by simpa using az.nil⟩,?_⟩
 rintro m n τ u ⟨rfl,hj,an,N,h,y,O⟩
 have hs:ab (but H1 M) (but u (D::M)):=gX hD N
 have hl:ap (D::M) u:=((l.same s1).same N).cons y
 by_cases C:m<ps.length
 .have hd:ps[m]?=some ps[m]:=Lk C
  have dr:(ps.map λq=>FL.D.tup [q.1,q.2])[m]?=some (.tup [ps[m].1,ps[m].2]):=by rw [LA,hd];rfl
  obtain ⟨go,gy⟩:=af m _ (D::M) u dr hs hl
  refine .inr ⟨go,λT d=>(∀v w,(T.set i<|some v).set j (some w)=((caps σ).set i<|some v).set j (some w))/\ab H1 d/\∃h,d D=some (.lst h)/\az (but d (D::M)) h (((ps.take<|m+1).filter p).map f),
   λT d q0=>by obtain ⟨a,b,c⟩:=q0;exact ⟨ps.length-(m+1),by omega,rfl,C,a,b,c⟩,λx d hy=>?_⟩
  obtain ⟨z,rx⟩:=gy x d hy
  have hm:ps[m]∈ps:=NE C
  have sG:ab G (but d (D::M)):=aj.trans<|hs.trans<|z.but _
  have U:=hl.same z
  refine nZ rx λY E r1 r2=>?_
  show tt ((τ.set i<|some Y).set j<|some E) d _
  rw [an Y E]
  have tk:(ps.take<|m+1).filter p=(ps.take m).filter p++(if p ps[m]=true then [ps[m]] else []):=by
   rw [L0,hd,MD]
   congr 1
   by_cases A:p ps[m]=true
   .simp [A]
   .simp [A]
  refine ht _ Y E _ sG hm r1 r2 (D::M) d (ab.refl _) U _ λH4 r=>?_
  have g:∀v w,((((caps σ).set i<|some Y).set j<|some E).set i<|some v).set j (some w)=((caps σ).set i<|some v).set j (some w):=λv w=>by
   rw [List.set_comm (some E) (some v)<|Ml ac,P8,P8]
  by_cases A:p ps[m]=true
  .rw [Lv A]
   refine he _ Y E _ (sG.trans<|r.but _) hm A (r1.mono<|r.but _) (r2.mono<|r.but _) (D::M) H4 (ab.refl _) (U.same r) _ λv H5 s5 r5=>?_
   have ao:H5 D=some (.lst h):=s5 _ _<|r _ _<|z _ _ y
   have as:=O.length
   have a0:(((ps.take m).filter p).map f).length<=m:=by
    rw [Ll]
    have:=LZ p<|ps.take m
    rw [L9] at this
    omega
   refine ⟨h,ao,by omega,g,?_,h++[v],aN,?_⟩
   .intro b o e
    rw [aA<|cU e hD]
    exact s5 _ _<|r _ _<|z _ _<|N _ _ e
   .rw [dw Lj,tk,Lv A,LU]
    exact (O.mono<|((z.trans r).trans s5).but _).snoc r5
  .rw [Lq A]
   refine ⟨g,N.trans<|z.trans r,h,r _ _<|z _ _ y,?_⟩
   rw [tk,Lq A,LV]
   exact O.mono<|(z.trans r).but _
 .have e:m=ps.length:=by omega
  subst e
  refine .inl ⟨?_,k _ u (s1.trans N)<|lS lf y ?_⟩
  .have:=B (D::M) u hs
   rw [am] at this
   exact this
  .rw [LS<|Lo _] at O
   exact O
def Im(h:ae a G σ d):ae (bZ (λx y H Q=>y=.aq/\Q (.bl (!decide (x=.aq))) H) a (tC .aq)) G σ (.bl (!decide (d=.aq))):=
 λM H s l Q k=>h M H s l _ λv b c e=>⟨rfl,by rw [ER e];exact k _ b c (.bl _)⟩
end
mutual
def D.fx:D->Bool
 |.lst _=>false
 |.tup l=>D.gw l
 |_=>true
def D.gw:List D->Bool
 |[]=>true
 |d::r=>D.fx d&&D.gw r
end
mutual
theorem al.qL {H:Hp}{M ls:List Addr}(hl:∀a∈ls,∃vs,H a=some (.lst vs)):∀{v:V} {d:D},d.fx=true->al (but H M) v d->al (but H (ls++M)) v d
 |_,_,_,.aq=>.aq
 |_,_,_,.bl b=>.bl b
 |_,_,_,.int b=>.int b
 |_,_,_,.str b=>.str b
 |_,_,hn,.tup (a:=c) h r=>by
  refine .tup ?_ (az.qL hl hn r)
  obtain ⟨h1,h2⟩:=aw h
  rw [bf]
  ·exact h2
  ·intro z
   rcases mem_append.mp z with z|z
   ·obtain ⟨vs,e⟩:=hl c z
    rw [e] at h2;cases h2
   ·exact h1 z
 |_,_,hn,.lst _ _=>by cases hn
theorem az.qL {H:Hp}{M ls:List Addr}(hl:∀a∈ls,∃vs,H a=some (.lst vs)):∀{vs:List V} {ds:List D},D.gw ds=true->az (but H M) vs ds->az (but H (ls++M)) vs ds
 |_,_,_,.nil=>.nil
 |_,_,hn,.cons h r=>by
  have hn':=Bool.and_eq_true_iff.mp hn
  exact .cons (al.qL hl hn'.1 h) (az.qL hl hn'.2 r)
end
end FL
namespace FL
open PySem L2
def mN (o:Nat×aP):D:=.tup [.int (o.1:Nat),.lst (pairD o.2)]
def eJ (of:List dg)(key:List D):List dg:=of.filter λo=>decide (o.1=key)
def hU (of:List dg)(key:List D):List D:=(eJ of key).map λo=>mN o.2
def bT (key:List D):List aJ:=key.map D.key
def bW (key:List D):Prop:=∀x∈key,x.sc=true
theorem pG:∀{a b:ZZ},bW a->bW b->bT a=bT b->a=b
 |[],[],_,_,_=>rfl
 |[],_::_,_,_,h=>by cases h
 |_::_,[],_,_,h=>by cases h
 |x::r,y::t,d,e,h=>by
  obtain ⟨f,g⟩:=Nr h
  rw [(wB (d x Lj)<|e y Lj).mp f,pG (λz c=>d z<|Lg _ c) (λz c=>e z<|Lg _ c) g]
theorem mj:∀{b:List V} {a:ZZ},bW a->az H b a->b=(bT a).map kV
 |_,[],_,.nil=>rfl
 |_,d::r,h,.cons c t=>by
  rw [(fC (h d Lj) c).2,mj (λx e=>h x<|Lg _ e) t]
  rfl
def nY (G:Hp)(p:Addr)(of:List dg):Prop:=∃kvs:List (List aJ×V),G p=some (.dT kvs)/\(kvs=[]↔of=[])/\∀key,bW key->(bm kvs (bT key)=none->eJ of key=[])/\∀v,bm kvs (bT key)=some v->al G v (.lst (hU of key))
theorem nY.mono(e:ab G c)(h:nY G p d):nY c p d:=by
 obtain ⟨b,i,j,f⟩:=h
 exact ⟨b,e _ _ i,j,λa g=>⟨(f a g).1,λv k=>((f a g).2 v k).mono e⟩⟩
def jv {H:Hp}{M M':ZX}(h:∀a,a∈M↔a∈M'):but H M=but H M':=by
 funext b
 unfold FL.but
 by_cases z:b∈M
 .rw [Lv z,Lv ((h b).mp z)]
 .rw [Lq z,Lq λq=>z ((h b).mpr q)]
structure eF (H:Hp)(M:List Addr)(p:Addr)(ls:List Addr)(of:List dg):Prop where
 kvs:∃kvs:List (List aJ×V),H p=some (.dT kvs)/\kvs.length<=of.length/\(kvs=[]↔of=[])/\
  (∀key,bW key->(bm kvs (bT key)=none->eJ of key=[])/\∀v,bm kvs (bT key)=some v->∃l vs,v=.ref l/\l∈ls/\H l=some (.lst vs)/\az (but H (ls++p::M)) vs (hU of key))/\
  ∀key key' l,bW key->bW key'->bm kvs (bT key)=some (.ref l)->bm kvs (bT key')=some (.ref l)->key=key'
 lists:∀l∈ls,∃vs,H l=some (.lst vs)
 apart:p∉ls
def eF.IQ(h:eF H M p b d)(e:∀a,a∈b++p::M↔a∈b++p::c):eF H c p b d:=by
 obtain ⟨k,l,a⟩:=h
 rw [jv e] at k
 exact ⟨k,l,a⟩
def eF.rep(h:eF H M p d e)(i:p∉M)(j:∀l∈d,l∉M):nY (but H M) p e:=by
 obtain ⟨c,k,_,m,f,_⟩:=h.kvs
 refine ⟨c,by rw [bf i];exact k,m,λa g=>⟨(f a g).1,λv n=>?_⟩⟩
 obtain ⟨l,t,rfl,o,q,r⟩:=(f a g).2 v n
 exact .lst (by rw [bf<|j l o];exact q)<|r.mono<|dR λb s=>Lr _<|Lg _ s
def Ad (b:List dg)(a:ZZ)(o:Nat×aP):eJ (b++[(a,o)]) a=eJ b a++[(a,o)]:=by
 unfold eJ;rw [MD];simp
def tV(c:List dg)(o:Nat×aP)(h:¬b=a):eJ (c++[(b,o)]) a=eJ c a:=by
 unfold eJ;rw [MD];simp [h]
def eF.same(h:eF H M p f g)(e:ab H d):eF d M p f g:=by
 obtain ⟨b,k,m,n,i,o⟩:=h.kvs
 refine ⟨⟨b,e _ _ k,m,n,λa j=>⟨(i a j).1,λv q=>?_⟩,o⟩,λl r=>let ⟨c,z⟩:=h.lists l r;⟨c,e _ _ z⟩,h.apart⟩
 obtain ⟨l,c,s,t,u,w⟩:=(i a j).2 v q
 exact ⟨l,c,s,t,e _ _ u,w.mono<|e.but _⟩
section
variable {σ:St}{M:List Addr}{H:Hp}{ty te:TE}{E:Ends}{K:PySem.W.Frag}
def KO{to:TE}(l:ap (g++p::M) H)(e:∀Q:VK,Q (.ref p) H->to σ H Q)(s:eF H M p g O)(hk:bW key)(hz:O.length<1000)
  (h:ae ty (but H (g++p::M)) σ (.tup key)) (h2:ae te (but H (g++p::M)) σ (mN o))
  (k:∀B H',(∀a∈B,a∈g\/H a=none)->(∀a∈g,a∈B)->(∀b u,b≠p->b∉g->H b=some u->H' b=some u)->ap (B++p::M) H'->eF H' M p B (O++[(key,o)])->E.nx σ H'):
  j6 (ma K "list" n0 (vw to ty (jG bB)) (bn te bB)) E σ H:=by
 obtain ⟨d,g1,gn,g2,g3,g4⟩:=s.kvs
 refine e _ ⟨p,rfl,.inr ⟨d,.inl g1⟩,h _ H (ab.refl _) l _ λkv H1 x rk=>⟨LP _,λf C=>?_⟩⟩
 have O1:=s.same x
 obtain ⟨b,bs,rfl,hb,bd⟩:=rk.eP
 have as:=(aw hb).2
 have bi:=mj hk bd
 rw [bi] at as
 have m:=c8 C (.lst [])
 have ac:=m _ _ as
 have I:(upd H1 f (.lst [])) p=some (.dT d):=m _ _<|x _ _ g1
 have n:p≠f:=λz=>by have:=x _ _ g1;rw [z,C] at this;cases this
 have a0:f∉g:=λz=>by
  obtain ⟨vs,q⟩:=s.lists f z
  have:=x _ _ q
  rw [C] at this;cases this
 have af:H f=none:=by
  cases q:H f with
  |none=>rfl
  |some u=>have:=x _ _ q;rw [C] at this;cases this
 have b0:∀v G,al G v (mN o)->al G v (mN o):=λ_ _ z=>z
 cases J:bm d (bT key) with
 |some v=>
  obtain ⟨y,vs,rfl,m1,m2,m3⟩:=(g3 key hk).2 v J
  have a3:(upd H1 f (.lst [])) y=some (.lst vs):=m _ _<|x _ _ m2
  refine ⟨.ref y,_,.inl ⟨by rw [<-J];exact cT.t I ac,rfl,_,I⟩,(show gM K "list" (.ref y) _ from .inl ⟨rfl,vs,aQ.of a3⟩),?_⟩
  have S1:ab H (upd H1 f (.lst [])):=x.trans m
  refine h2 _ _ (S1.but _) (l.same S1) _ λv T U r5=>⟨y,vs,v,rfl,rfl,U _ _ a3,?_,?_⟩
  .rw [m3.length]
   unfold hU
   rw [Ll]
   have:=LZ (λo=>decide<|o.1=key) O
   exact cp (by unfold eJ;omega)
  .have S5:ab H T:=S1.trans U
   have bk:y∈g++p::M:=Lu _ m1
   have eb:but (upd T y (.lst<|vs++[v])) (g++p::M)=but T (g++p::M):=dw bk
   have a4:y≠p:=λz=>s.apart<|z▸m1
   refine k g _ (λa r=>.inl r) (λa r=>r) (λb u hb bc q=>?_) (l.same S5).upd ⟨⟨d,?_,?_,?_,λc i=>⟨λL=>?_,λv' j=>?_⟩,g4⟩,λa r=>?_,s.apart⟩
   .rw [aA λz:b=y=>bc (by rw [z];exact m1)];exact S5 _ _ q
   .rw [aA<|Ml a4];exact S5 _ _ g1
   .rw [LC];omega
   .constructor
    .intro z;rw [z] at J;cases J
    .intro z;exact absurd z Z8
   .have ne:¬key=c:=λz=>by rw [<-z,J] at L;cases L
    rw [tV O o ne];exact (g3 c i).1 L
   .obtain ⟨N,Y,rfl,A,q2,q3⟩:=(g3 c i).2 v' j
    by_cases hl:N=y
    .subst hl
     have:key=c:=g4 key c N hk i J j
     subst this
     refine ⟨N,vs++[v],rfl,A,aN,?_⟩
     rw [eb]
     unfold hU
     rw [Ad,LU]
     exact (m3.mono<|S5.but _).snoc r5
    .have ne:¬key=c:=λz=>by subst z;rw [J] at j;cases j;exact hl rfl
     refine ⟨N,Y,rfl,A,by rw [aA hl];exact S5 _ _ q2,?_⟩
     rw [eb]
     unfold hU
     rw [tV O o ne]
     exact q3.mono<|S5.but _
   .obtain ⟨Y,q⟩:=s.lists a r
    by_cases hl:a=y
    .exact ⟨_,by rw [hl];exact aN⟩
    .exact ⟨Y,by rw [aA hl];exact S5 _ _ q⟩
 |none=>
  have aj:=(g3 key hk).1 J
  have am:d.length<sizeLine:=cp Z4
  refine ⟨.ref f,_,.inr ⟨by rw [<-J];exact cT.t I ac,rfl,gu.t I ac am⟩,?_⟩
  have an:(upd (upd H1 f (.lst [])) p (.dT<|ca d (bT key) (.ref f))) f=some (.lst []):=by rw [aA<|Ml n];exact aN
  refine ⟨(show gM K "list" (.ref f) _ from .inl ⟨rfl,[],aQ.of an⟩),?_⟩
  have pM:p∈g++p::M:=Lr _ Lj
  have SB:ab (but H (g++p::M)) (but (upd (upd H1 f (.lst [])) p (.dT<|ca d (bT key) (.ref f))) (f::(g++p::M))):=λb u q=>by
   obtain ⟨A,q2⟩:=aw q
   have ao:b≠f:=λz=>by rw [z,af] at q2;cases q2
   have bl:b≠p:=λz=>A<|z▸pM
   rw [bf (by simp only [Lw,Qh];exact ⟨ao,A⟩),aA bl]
   exact m _ _<|x _ _ q2
  have l4:ap (f::(g++p::M)) (upd (upd H1 f (.lst [])) p (.dT<|ca d (bT key) (.ref f))):=((l.same<|x.trans m).upd).cons an
  refine h2 _ _ SB l4 _ λv T U r5=>⟨f,[],v,rfl,rfl,U _ _ an,(show 0<sizeLine by decide),?_⟩
  have KH:∀b u,b≠p->H b=some u->(upd T f (.lst<|[]++[v])) b=some u:=λb u hb q=>by
   have ao:b≠f:=λz=>by rw [z,af] at q;cases q
   rw [aA ao]
   refine U _ _ ?_
   rw [aA hb]
   exact m _ _<|x _ _ q
  have eb:but (upd T f (.lst<|[]++[v])) (f::(g++p::M))=but T (f::(g++p::M)):=dw Lj
  have bt:ab (but H (g++p::M)) (but (upd T f (.lst<|[]++[v])) (f::(g++p::M))):=by rw [eb];exact SB.trans<|U.but _
  have eK:∀c,bW c->bm (ca d (bT key) (.ref f)) (bT c)=if c=key then some (.ref f) else bm d (bT c):=λc i=>by
   rw [uc]
   by_cases z:c=key
   .rw [Lv z,Lv (by rw [z])]
   .rw [Lq z,Lq λw=>z<|pG i hk w]
  refine k (f::g) _ (λa r=>?_) (λa r=>Lg _ r) (λb u hb bc q=>KH b u hb q) (l4.same U).upd ⟨⟨ca d (bT key) (.ref f),?_,?_,?_,λc i=>⟨λL=>?_,λv' j=>?_⟩,λk1 k2 N a1 a2 b1 b2=>?_⟩,λa r=>?_,?_⟩
  .rcases Lw.mp r with z|z
   .exact .inr (by rw [z];exact af)
   .exact .inl z
  .rw [aA n]
   refine U _ _ ?_
   exact aN
  .have:=nj d (bT key) (.ref f)
   rw [LC,My]
   omega
  .constructor
   .intro z
    have:=eK key hk
    rw [z,Lv rfl] at this
    cases this
   .intro z;exact absurd z Z8
  .rw [eK c i] at L
   by_cases z:c=key
   .rw [Lv z] at L;cases L
   .rw [Lq z] at L
    rw [tV O o λw=>z w.symm]
    exact (g3 c i).1 L
  .rw [eK c i] at j
   by_cases z:c=key
   .rw [Lv z] at j
    cases j
    refine ⟨f,_,rfl,Lj,aN,?_⟩
    rw [OO,eb,z]
    unfold hU
    rw [Ad,aj]
    exact .cons r5 .nil
   .rw [Lq z] at j
    obtain ⟨N,Y,rfl,A,q2,q3⟩:=(g3 c i).2 v' j
    refine ⟨N,Y,rfl,Lg _ A,KH _ _ (λw=>s.apart<|w▸A) q2,?_⟩
    unfold hU
    rw [tV O o λw=>z w.symm]
    exact q3.mono bt
  .rw [eK k1 a1] at b1
   rw [eK k2 a2] at b2
   have no:∀kk,bW kk->¬bm d (bT kk)=some (.ref f):=λkk bx z=>by
    obtain ⟨N,Y,q0,A,_⟩:=(g3 kk bx).2 _ z
    cases q0
    exact a0 A
   by_cases z1:k1=key
   .by_cases z2:k2=key
    .rw [z1,z2]
    .rw [Lv z1] at b1
     rw [Lq z2] at b2
     cases b1
     exact absurd b2<|no k2 a2
   .rw [Lq z1] at b1
    by_cases z2:k2=key
    .rw [Lv z2] at b2
     cases b2
     exact absurd b1<|no k1 a1
    .rw [Lq z2] at b2
     exact g4 k1 k2 N a1 a2 b1 b2
  .rcases Lw.mp r with z|z
   .exact ⟨_,by rw [z];exact aN⟩
   .obtain ⟨Y,q⟩:=s.lists a z
    exact ⟨Y,KH _ _ (λw=>s.apart<|w▸z) q⟩
  .intro z
   rcases Lw.mp z with z|z
   .exact n z
   .exact s.apart z
end
end FL
namespace L2
open PySem PySem.Spec PyProof.Rows
def KL (x d:Value):argsOk "max" ⟨[x],[("default",d)]⟩:=by unfold argsOk;kernel_rfl
def o0:Option Value->Array Value
 |none=> #[]
 |some v=> #[v,v]
section
variable {prog:Program}{w:World}{A:Around}{R:Result->Shared->Prop}{I:Addr}{fp wr:List Addr}{n:Nat}{P:Nat->Value->Prop}{St:Nat->Heap->Prop}
def J7 (W:Walks prog w A.in1 I fp wr n P St)(u:Nat->Nat->Bool)(J:CmpOf prog w A.in1 .Gt P u)(S:Addr)(y:S∉fp)(d:Value):
  ∀(k j:Nat) (s:Shared) (B:Option Value) (c:Nat),n-j=k->j<=n->St j s.heap->(B=none->j=0)->(∀l,B=some l->0<j/\P (argBest u (j-1)) l)->
  s.heap.get? S=some {cls:=.type "list",dict:=none,data:=.seq (o0 B) c,slots:= #[]}->
  (∀v C E,(n=0->v=d)->(0<n->P (argBest u (n-1)) v)->(∀b o,b∉wr->b≠S->s.heap.get? b=some o->C.get? b=some o)->R (.ok (.ret v)) {s with heap:=C,toks:=E})->
  codeAny (model prog w) A (.builtin "max.loop" ⟨[.ref I,.none,.ref S],[("default",d)]⟩) R s:=by
 have G:S∉wr:=λh=>y<|W.sub _ h
 have Y:(toString "max"++toString ".loop":String)="max.loop":=by decide
 intro k
 induction k with
 |zero=>
  intro j s B c hk hj p h0 h1 x H
  have ac:j=n:=by omega
  subst ac
  refine Oe F.entry_max_loop ?_
  rw [NT NB _]
  cases B with
  |none=>
   have z:=h0 rfl
   refine Lh<|Mw (items:=o0 none) (n:=c) (o:=_) x rfl ?_
   refine Lh<|NU<|W.done s _ _ p λC E a=>?_
   refine Lh<|Oj<|Lz ?_
   exact H d C E (λ_=>rfl) (λq=>by omega) λb o f _ e=>a b o f e
  |some l=>
   obtain ⟨z1,T⟩:=h1 l rfl
   refine Lh<|Mw (items:=o0<|some l) (n:=c) (o:=_) x rfl ?_
   refine Lh<|NU<|W.done s _ _ p λC E a=>?_
   have i:=a S _ G x
   refine Lh<|OR (hz:=show 2<=sizeLine from by decide) i rfl<|Lh<|NS<|Lz ?_
   exact H l _ E (λq=>by omega) (λ_=>T) λb o f g e=>(MT _ _<|Ml g).trans<|a b o f e
 |succ k ih=>
  intro j s B c hk hj p h0 h1 x H
  have r:j<n:=by omega
  refine Oe F.entry_max_loop ?_
  rw [NT NB _]
  cases B with
  |none=>
   have z:=h0 rfl
   subst z
   refine Lh<|Mw (items:=o0 none) (n:=c) (o:=_) x rfl ?_
   refine Lh<|NU<|W.item 0 s _ _ r p λv C E U m a=>?_
   have i:=a S _ G x
   refine Lh<|Lz<|Lh<|OR i rfl ?_
   rw [Y]
   refine Lz ⟨Oa NB _,ih 1 _ (some v) _ Z4 r (W.frame _ _ _ m λb f o e=>?_) (λq=>nomatch q) (λl q=>by cases q;exact ⟨by decide,U⟩) (NQ _ i rfl) λL M t N O Q=>?_⟩
   .exact (MT _ _ λq:S=b=>y (by rw [q];exact f)).trans e
   .exact H L M t N O λb o f g e=>Q b o f g<|(MT _ _<|Ml g).trans<|a b o f e
  |some l=>
   obtain ⟨z1,T⟩:=h1 l rfl
   refine Lh<|Mw (items:=o0<|some l) (n:=c) (o:=_) x rfl ?_
   refine Lh<|NU<|W.item j s _ _ r p λv C E U m a=>?_
   have i:=a S _ G x
   have ej:j=(j-1)+1:=by omega
   have nx:argBest u j=if u j (argBest u<|j-1) then j else argBest u (j-1):=by
    conv=>lhs;rw [ej]
    rw [argBest,<-ej]
   refine Lh<|Lz<|Lh<|NU<|MZ<|Lh<|J j (argBest u<|j-1) v l _ _ _ U T ?_
   refine Lh<|MZ<|MG ?_
   refine Lh<|NS<|Lz ?_
   cases f:u j (argBest u<|j-1) with
   |true=>
    rw [f,Lv rfl] at nx
    refine Lh<|OR (hz:=show 2<=sizeLine from by decide) i rfl<|Lh<|NS ?_
    rw [Y]
    refine Lz ⟨Oa NB _,ih (j+1) _ (some v) _ Z4 r (W.frame _ _ _ m λb f o e=>?_) (λq=>nomatch q) (λl q=>by cases q;exact ⟨by omega,by rw [Om,nx];exact U⟩) (NQ _ i rfl) λL M t N O Q=>?_⟩
    .exact (MT _ _ λq:S=b=>y (by rw [q];exact f)).trans e
    .exact H L M t N O λb o f g e=>Q b o f g<|(MT _ _<|Ml g).trans<|a b o f e
   |false=>
    rw [f,Lq Ls] at nx
    refine Lh<|NS ?_
    rw [Y]
    refine Lz ⟨Oa NB _,ih (j+1) _ (some l) c Z4 r m (λq=>nomatch q) (λl q=>by cases q;exact ⟨by omega,by rw [Om,nx];exact T⟩) i λL M t N O Q=>?_⟩
    exact H L M t N O λb o f g e=>Q b o f g<|a b o f e
end
section
variable {prog:Program}{w:World}{A:Around}{E:Value->Shared->Prop}{s:Shared}
def x9{Q:ZT}
  (h:wpAny (model prog w) A.in1 (pyIter x) (λr a=>∃I f j n P St g,r=.ref I/\Walks prog w A.in1 I f j n P St/\St 0 a.heap/\(∀b∈f,b<a.heap.objs.size)/\CmpOf prog w A.in1 .Gt P g/\
   ∀v i k,(n=0->v=d)->(0<n->P (argBest g (n-1)) v)->(∀b o,b∉j->a.heap.get? b=some o->i.get? b=some o)->Q v {a with heap:=i,toks:=k}) E s):
  wpAny (model prog w) A (call (.builtin "max") [x] [("default",d)]) Q E s:=by
 have t:(toString "max"++toString ".loop":String)="max.loop":=by decide
 refine kmk_tree F.kind_max F.plain_max F.entry_max (KL x d) ?_
 refine Lh<|P1 (show Builtin.Builtins.bindParams "max" ["key","default"] 0 ⟨[],[("default",d)]⟩=pure [none,some d] from rfl) ?_
 refine Lh<|Lz<|Lh<|MN h (λr a u=>?_) λ_ _ e=>e
 obtain ⟨I,f,j,n,P,St,g,rfl,W,l,m,c,y⟩:=u
 refine Lh<|MS ?_
 have p:a.heap.objs.size∉f:=λz=>MI _<|m _ z
 rw [t]
 refine Lz ⟨Oa NB _,J7 W g c a.heap.objs.size p d n 0 _ none 0 (Qd n) (LP n) (W.frame _ _ _ l λb _ o e=>Ln _ e) (λ_=>rfl) (λJ q=>nomatch q) (LJ _ rfl) λv i k B C G=>?_⟩
 exact y v i k B C λb o H e=>G b o H (LY<|LL e)<|Ln _ e
end
def fX (is:List Int)(n:Int):Int:=match is with
 |[]=>n
 |i::r=>r.foldl max i
theorem yD (f:Nat->Int):∀k,f (argBest (λi j=>decide (f i>f j)) k)=((List.range k).map λi=>f (i+1)).foldl max (f 0)
 |0=>rfl
 |k+1=>by
  have a:=yD f k
  rw [List.range_succ,LU,MM,<-a]
  show f (if decide (f (k+1)>f (argBest _ k))=true then k+1 else argBest _ k)=max (f<|argBest _ k) (f<|k+1)
  by_cases h:f (k+1)>f (argBest (λi j=>decide<|f i>f j) k)
  .rw [Lv<|LH h];omega
  .rw [Lq (by simpa using h)];omega
def Ku{is:List Int}(h:0<is.length):fX is n=is.getD (argBest (λi j=>decide (is.getD i 0>is.getD j 0)) (is.length-1)) 0:=by
 have:=yD (λi=>is.getD i 0)<|is.length-1
 rw [this]
 cases is with
 |nil=>simp at h
 |cons i r=>
  show r.foldl max i=_
  have e:(List.range<|(i::r).length-1).map (λk=>(i::r).getD (k+1) 0)=r:=by
   refine List.ext_getElem Z8 λk b a=>?_
   simp [List.getD,a]
  rw [e]
  rfl
section
variable {X:Cx}
def xJ (K:PySem.W.Frag)(x y:V)(H:Hp)(Q:VK):Prop:=∃a is n,x=.ref a/\y=.int n/\(aQ K H a (is.map V.int)\/br K H a (is.map V.int))/\Q (.int (fX is n)) H
def uH (K:PySem.W.Frag)(te td:TE):TE:=λσ H Q=>bn te bB σ H λvs H1=>bn td bB σ H1 λzs H2=>∃x y,vs=[x]/\zs=[y]/\xJ K x y H2 Q
def EL(T:X.calm=true)(I:Inv X l N H s)(U:RelV x u)(Y:RelV y v)(h:xJ X.K x y H Q):wpAny (model X.prog X.w) X.A (call (.builtin "max") [u] [("default",v)]) (EP X l N Q) X.xe s:=by
 obtain ⟨a,is,n,rfl,rfl,m,q⟩:=h
 cases U
 obtain ⟨r,rfl⟩:=Y
 have t:∀{c:List Value} (d:ba (is.map V.int) c) {P:Nat->Value->Prop},(∀i w,P i w↔c.toArray[i]?=some w)->CmpOf X.prog X.w X.A.in1 .Gt P (λi j=>decide<|is.getD i 0>is.getD j 0):=λ{c} d {P} hP=>CmpOf.ints_gt (λi=>is.getD i 0) λi w f=>by
  have f:=(hP i w).mp f
  have f:c[i]?=some w:=by simpa using f
  have hi:i<c.length:=(Li.mp f).1
  have B:=d.length
  rw [Ll] at B
  have k:(is.map V.int)[i]?=some (.int<|is.getD i 0):=by
   rw [LA,Lk Z4,List.getD,Lk Z4]
   rfl
  obtain ⟨w',C,E⟩:=d.get k
  rw [f] at C
  cases C
  exact E
 have done:∀{c:List Value} (d:ba (is.map V.int) c) {w:Value},(c.toArray.size=0->w=.int n r)->(0<c.toArray.size->c.toArray[argBest (λi j=>decide<|is.getD i 0>is.getD j 0)<|c.toArray.size-1]?=some w)->RelV (.int<|fX is n) w:=λ{c} d {w} h0 h1=>by
  have B:=d.length
  rw [Ll] at B
  by_cases z:is.length=0
  .have:is=[]:=MH z
   subst this
   rw [h0 (by rw [LF];exact B.symm)]
   exact ⟨r,rfl⟩
  .have f:=h1 (by simp;omega)
   have f:c[argBest (λi j=>decide<|is.getD i 0>is.getD j 0)<|is.length-1]?=some w:=by
    rw [LF,<-B] at f
    simpa using f
   have hi:=(Li.mp f).1
   have k:(is.map V.int)[argBest (λi j=>decide<|is.getD i 0>is.getD j 0)<|is.length-1]?=some (.int<|fX is n):=by
    rw [Ku Z4,LA,Lk Z4,List.getD,Lk Z4]
    rfl
   obtain ⟨w',C,E⟩:=d.get k
   rw [f] at C
   cases C
   exact E
 have O:X.A.in1.handled=none:=I.ok.hd T
 rcases m with m|m
 .obtain ⟨c,d,p,hz⟩:=I.list m
  have g:a<s.heap.objs.size:=by obtain ⟨_,e,_⟩:=p.isList;exact LL e
  refine x9<|M7 p.isList ?_
  refine ⟨s.heap.objs.size,_,_,c.toArray.size,_,_,_,rfl,Walks.list (A:=X.A.in1) O _ a (LY g) c.toArray,⟨⟨_,LJ _ rfl,rfl,rfl⟩,p.isList.push _⟩,λb k=>?_,t d λi w=>Iff.rfl,λw h' G J L M=>?_⟩
  .show b<(s.heap.push _).objs.size
   rw [MJ]
   simp only [Lw,L1,Mo] at k
   rcases k with rfl|rfl
   .exact MW _
   .exact No g
  .refine ⟨.int<|fX is n,H,I.kept (t':=G) λb o e=>M b o (λz=>?_)<|Ln _ e,done d J L,q⟩
   have:b=s.heap.objs.size:=by simpa using z
   exact absurd (LL e) (by rw [this];exact MI _)
 .obtain ⟨c,d,p,hz⟩:=I.tuple m
  have g:a<s.heap.objs.size:=by obtain ⟨_,e,_⟩:=p;exact LL e
  refine x9<|Og p ?_
  refine ⟨s.heap.objs.size,_,_,c.toArray.size,_,_,_,rfl,Walks.tuple (A:=X.A.in1) O _ a (LY g) c.toArray,⟨⟨_,LJ _ rfl,rfl,rfl⟩,p.push _⟩,λb k=>?_,t d λi w=>Iff.rfl,λw h' G J L M=>?_⟩
  .show b<(s.heap.push _).objs.size
   rw [MJ]
   simp only [Lw,L1,Mo] at k
   rcases k with rfl|rfl
   .exact MW _
   .exact No g
  .refine ⟨.int<|fX is n,H,I.kept (t':=G) λb o e=>M b o (λz=>?_)<|Ln _ e,done d J L,q⟩
   have:b=s.heap.objs.size:=by simpa using z
   exact absurd (LL e) (by rw [this];exact MI _)
def B8(n:X.mg "max"=none)(o:PE X e g)(q:PE X d i)(r:X.calm=true:=by rfl)(t:Gl X "max":=by rfl)(j:starEach [e] X.env=(false,eval e X.env)::starEach [] X.env:=by rfl)(f:starEach [] X.env=[]:=by rfl):
  PE X (.Call (.Name "max" p) [e] [⟨some "default",d,a⟩] c) (uH X.K g i):=by
 intro b s m H Q I h
 refine Ni<|je I t n PyProof.Rows.boot_max ?_ Z1 Z1
 have k:PA X [e] (bn g bB):=ak o ar j
 have l:PK X [⟨some "default",d,a⟩] (bn i bB):=Bk q AI
 refine PyProof.Rows.callWith_kw (aS (k c b s m H _ I h) λU w ⟨Y,z,A,B,C⟩=>?_) (by rw [j,f];rfl) (by rw [j,f];rfl)
 refine aS (l c b w m z _ A C) λws s2 E=>?_
 obtain ⟨zs,H2,G,J,x,y,L,M,N⟩:=E
 subst L M
 obtain ⟨u,rfl,O⟩:=Pu B
 obtain ⟨v,rfl,T⟩:=Pu J
 exact EL r G O T N
end
end L2
namespace FL
open PySem L2
section
variable {G:Hp}{σ:St}{ta tb:TE}{K:PySem.W.Frag}{is:List Int}{n:Int}
theorem u3:∀{H:Hp} {a:List V} {is:List Int},az H a (is.map D.int)->a=is.map V.int
 |H,_,[],.nil=>rfl
 |H,_,i::r,.cons q t=>by rw [q.dL,u3 t];rfl
def Df (d:ae ta G σ (.lst (is.map D.int)))(f:ae tb G σ (.int n)):ae (uH K ta tb) G σ (.int (fX is n)):=
 λM H s l Q k=>d M H s l _ λv g b h=>f M g (s.trans<|b.but M) (l.same b) _ λy i c j=>by
  obtain ⟨a,p,rfl,m,o⟩:=h.dI
  have e:=u3 o
  subst e
  exact ⟨.ref a,y,rfl,rfl,a,is,n,rfl,j.dL,.inl<|aQ.of<|c _ _ (aw m).2,k _ i (b.trans c) (.int _)⟩
def K5 (d:ae ta G σ (.tup (is.map D.int)))(f:ae tb G σ (.int n)):ae (uH K ta tb) G σ (.int (fX is n)):=
 λM H s l Q k=>d M H s l _ λv g b h=>f M g (s.trans<|b.but M) (l.same b) _ λy i c j=>by
  obtain ⟨a,p,rfl,m,o⟩:=h.eP
  have e:=u3 o
  subst e
  exact ⟨.ref a,y,rfl,rfl,a,is,n,rfl,j.dL,.inr<|br.of<|c _ _ (aw m).2,k _ i (b.trans c) (.int _)⟩
end
end FL
namespace L2
open PySem PySem.Spec PyProof.Rows
open AutoSeq1 (wpAny_loadPart')
abbrev mX (it:Addr)(n:Int):Obj:={cls:=.type "enumerate",data:=.fields #[.none,.bool false,.ref it,rawInt n,.none,.none]}
abbrev ln (l:Addr):Obj:={cls:=.type "list_iterator",data:=.fields #[.ref l,.int 0 0]}
set_option maxHeartbeats 2000000 in
def Kj (l:Addr)(a:Array Value)(k:Nat)(e:Option Addr)(m:Array (Option Value))(n:Int)(t:Tok)(q:Builtin.SmallTypes.fitsIndex n=true):
  Meets (Builtin.«enumerate.__new__» ⟨[.type "enumerate",.ref l],[("start",.int n t)]⟩) (λ_ R s=>s.heap.get? l=some {cls:=.type "list",dict:=e,data:=.seq a k,slots:=m}/\
   R (.ok (.ret (.ref (s.heap.push (ln l)).objs.size))) {s with heap:=(s.heap.push (ln l)).push (mX s.heap.objs.size n)}):=
 .of_wp λi w A R s h=>by
  obtain ⟨o,g,d,p,os⟩:=s
  obtain ⟨b,h⟩:=h
  have j:=sub_enumerate
  have f:Heap.IsList (Shared.heap ⟨o,g,d,p,os⟩) l a:=⟨_,b,rfl,k,rfl⟩
  wp_walk using wpAny_loadPart' b
  refine wpAny_stack_any λst=>Lz ?_
  split
  .rename_i c _ _ _ _ _
   cases (c==Value.type "enumerate")
   .wp_walk using wpAny_loadPart' b,M7 f
    exact ⟨_,rfl,h⟩
   .wp_walk using wpAny_loadPart' b,M7 f
    exact ⟨_,rfl,h⟩
  .wp_walk using wpAny_loadPart' b,M7 f
   exact ⟨_,rfl,h⟩
def CI (a b:Value):checkTypeCall "enumerate" ⟨[a],[("start",b)]⟩=pure ():=by kernel_rfl
def D7 (a b:Value):checkBuiltinCall "enumerate.__new__" ⟨[.type "enumerate",a],[("start",b)]⟩=pure ():=by kernel_rfl
def CZ (c a b:Value):argsOk "object.__init__" ⟨[c,a],[("start",b)]⟩:=by unfold argsOk;kernel_rfl
section
variable {prog:Program}{w:World}{A:Around}{E:Value->Shared->Prop}{s:Shared}
def DA:Meets (Builtin.«object.__init__» ⟨[c,a],[("start",b)]⟩) (λ_ R s=>s.TypeIs c "enumerate"/\R (.ok (.ret .none)) s):=by
 refine Meets.of_wp λd w A R s e=>?_
 obtain ⟨h,f⟩:=e
 have i:=Pg.init.lookup
 have j:=Pg.made
 have g:(some "enumerate.__new__" !=some "object.__new__")=true:=by decide
 repeat (any_goals (first|(assumption)|wp_step))
 exact ⟨_,rfl,f⟩
def IT{Q:ZT}(L:s.heap.IsList l a)(M:Builtin.SmallTypes.fitsIndex n=true)
  (h:∀i,IsEnum i (s.heap.objs.size+1) s.heap.objs.size n .none->i.IsListIter s.heap.objs.size l 0->i.objs.size=s.heap.objs.size+2->(∀b o,s.heap.get? b=some o->i.get? b=some o)->Q (.ref (s.heap.objs.size+1)) {s with heap:=i}):
  wpAny (model prog w) A (call (.type "enumerate") [.ref l] [("start",.int n t)]) Q E s:=by
 obtain ⟨⟨c,m,dt,N⟩,O,y,k,z⟩:=L
 simp only at y z
 subst y z
 have d:=Pg
 obtain ⟨c0,tl,B⟩:=d.mro
 have p:=d.made
 have C:=d.sub
 have T:=CI (.ref l) (.int n t)
 refine wpAny_call<|codeAny_of_tree ?_
 show wpAny _ _ (callAny (.type "enumerate") _) _ _ _
 refine Lz ⟨Code.quiet_builtin _ Z9,Oe F.entry_type_call ?_⟩
 rw [Around.under_plain (weight_type_call_type "enumerate" [.ref l] [("start",.int n t)])<|units_type_call_type "enumerate" [.ref l] [("start",.int n t)]]
 have h1:=d.notType
 have h2:=d.canCreate
 repeat (any_goals (first|(assumption)|wp_step))
 have g:=Kj l a k m N n t M
 have q:(s.heap.push<|ln l).objs.size=s.heap.objs.size+1:=MJ ..
 have G:IsEnum ((s.heap.push<|ln l).push<|mX s.heap.objs.size n) (s.heap.objs.size+1) s.heap.objs.size n .none:=by
  have:=LJ (s.heap.push<|ln l) (o:=mX s.heap.objs.size n) rfl
  rw [q] at this
  exact this
 refine Ou (codeAny_call_builtin d.plain F.entry_enumerate_new<|P1 (D7 _ _)<|g prog w A.in1 (wants (λj H=>j=.ref (s.heap.objs.size+1)/\H={s with heap:=(s.heap.push<|ln l).push (mX s.heap.objs.size n)}) E) s ⟨O,⟨by rw [q],rfl⟩⟩) λr H u=>?_
 cases r with
 |error e=>exact u
 |ok U=>
  cases U with
  |ret j=>
   obtain ⟨rfl,rfl⟩:=u
   have I:({s with heap:=(s.heap.push<|ln l).push (mX s.heap.objs.size n)}:Shared).TypeIs (.ref<|s.heap.objs.size+1) "enumerate":=⟨_,G,rfl⟩
   have Y:=d.init.lookup
   have ac:=d.init.bind (.ref<|s.heap.objs.size+1)
   repeat (any_goals (first|(assumption)|wp_step))
   refine Ou (codeAny_call_builtin d.init.plain F.entry_object_init<|d.init.check _ _ _ _ _ _ _ _ I (CZ _ _ _)<|DA prog w A.in1 (wants (λr J=>r=.none/\J={s with heap:=(s.heap.push<|ln l).push (mX s.heap.objs.size n)}) E) _ ⟨I,rfl,rfl⟩) λr2 J f=>?_
   cases r2 with
   |error e=>exact f
   |ok v=>
    cases v with
    |ret r=>
     obtain ⟨rfl,rfl⟩:=f
     repeat (any_goals (first|(assumption)|wp_step))
     exact h _ G ⟨_,Ln _<|LJ _ rfl,rfl,rfl⟩ (by rw [MJ,q]) λb o x=>Ln _<|Ln _ x
    |_=>exact f.elim
  |_=>exact u.elim
end
end L2
namespace L2
open PySem PySem.Spec PyProof.Rows
def EQ {prog:Program}{w:World}{A:Around}{it:Addr}{fp:ZX}{m:Nat}{P:Nat->Value->Prop}{St:Nat->Heap->Prop}(D:Draws prog w A it fp m P St)(n:Nat):
  Draws prog w A it fp (n+m) (λi v=>P (i-n) v) (λi h=>n<=i/\St (i-n) h) where
 live:=λ_ h st=>D.live _ h st.2
 frame:=λ_ h h' st k=>⟨st.1,D.frame _ h h' st.2 k⟩
 item:=λi s Q E hi st k=>D.item (i-n) s Q E (by have:=st.1;omega) st.2 λx h' tk hx hst sb=>by
  have e:i+1-n=i-n+1:=by have:=st.1;omega
  exact k x h' tk hx ⟨by have:=st.1;omega,by rw [e];exact hst⟩ sb
 done:=λs Q E st k=>D.done s Q E (by have:=st.2;rwa [NC] at this) k
def Dx {prog:Program}{w:World}{A:Around}(hh:A.handled=none)(it l:Addr)(hne:l≠it)(items:Array Value)(i:Nat)(hi:items[i]?=none):
  Draws prog w A it [it,l] i (λ_ _=>True) (λj h=>j=i/\h.IsListIter it l i/\h.IsList l items) where
 live:=λ_ _ st=>let ⟨o,ho,_⟩:=st.2.1;⟨o,ho⟩
 frame:=λ_ _ _ st k=>⟨st.1,st.2.1.at λo e=>k it Z8 o e,st.2.2.at λo e=>k l Z8 o e⟩
 item:=λj s Q E hj st k=>by have:=st.1;omega
 done:=λs Q E st k=>wpAny_nextOf_list_end hh st.2.1 st.2.2 hi k
def zN (K:PySem.W.Frag)(a:Addr)(n:Nat):It:=
 ⟨λi H=>∃xs x,aQ K H a xs/\xs[i]?=some x,
  λi H v H'=>∃T x,H T=none/\v=.ref T/\H'=upd H T (.tup [.int ((n+i:Nat):Int),x])/\∀xs,aQ K H a xs->xs[i]?=some x,
  λi H=>∃xs,aQ K H a xs/\xs.length<=i⟩
def IS {P:Program}{w:World}{K:W.Frag}{es:List Expr}{kk:Nat}{tp:Pos}{e it a:Addr}(n:Nat)(hne:e≠it)(hea:e≠a)(hai:a≠it):
  iF P w K (.Tuple es kk tp) (zN K a n) [e,it] e (λi h=>(∃old,IsEnum h e it ((n+i:Nat):Int) old)/\h.IsListIter it a i) where
 mem:=by simp
 obj:=λi h q0 q hq=>by
  obtain ⟨⟨old,he⟩,⟨o1,e1,_,d1⟩⟩:=q0
  simp only [Lw,L1,Mo] at hq
  rcases hq with rfl|rfl
  .exact ⟨_,he,λv z=>nomatch z⟩
  .exact ⟨_,e1,λv z=>by rw [d1] at z;cases z⟩
 keep:=λi h h' q1 k=>by obtain ⟨⟨old,he⟩,⟨o1,e1,r1⟩⟩:=q1;exact ⟨⟨old,k _ Z8 _ he⟩,⟨o1,k _ Z8 _ e1,r1⟩⟩
 item:=by
  intro X hP hw hK hc i pins s σ H E I hf st hg
  subst hP hw hK
  obtain ⟨xs,x,hq,hx⟩:=hg
  obtain ⟨its,rv,p,hz⟩:=I.list hq
  obtain ⟨u,hu,ru⟩:=rv.get hx
  obtain ⟨⟨old,he⟩,hit⟩:=st
  have hi:i<its.toArray.size:=by have:=(Li.mp hu).1;simpa using this
  have D:=EQ (Draws.list (prog:=X.prog) (w:=X.w) (A:=X.A.in1) (I.ok.hd hc) it a hai its.toArray) n
  refine wpAny_pyNext_enum_itemD (i:=n+i) D he ⟨Mr _ _,by rw [NC];exact ⟨hit,p.isList⟩⟩ Z4 hne (by simp [hne,hea]) λu' h' tk hu' heo st' hT hzz kp=>?_
  have euu:u'=u:=by
   have h1:its.toArray[n+i-n]?=some u':=hu'
   rw [NC] at h1
   have h2:its[i]?=some u':=by simpa using h1
   rw [hu] at h2
   exact (LB h2).symm
  subst euu
  have hit':h'.IsListIter it a (i+1):=by
   have:=st'.2.1
   rw [show n+i+1-n=i+1 by omega] at this
   exact this
  refine ⟨_,rfl,?_⟩
  refine Pd (s:={s with heap:=h',toks:=tk+1}) heo λh2' he2 sb=>?_
  have hTe:s.heap.objs.size≠e:=NF<|LL he
  have hT2:h2'.get? s.heap.objs.size=some {cls:=.type "tuple",data:=.seq #[.int ((n+i:Nat):Int) tk,u']}:=(sb.2 _ hTe).trans hT
  have kp2:∀c o,c∉[e,it]->s.heap.get? c=some o->h2'.get? c=some o:=λc o hc e'=>(sb.2 c λq=>hc (by simp [q])).trans<|kp c o (λq=>hc (by simp [q])) (λq=>hc (by simp [q])) e'
  have hTn:H s.heap.objs.size=none:=I.ay.fresh<|Lo _
  refine ⟨.ref s.heap.objs.size,upd H s.heap.objs.size (.tup [.int ((n+i:Nat):Int),x]),I.ub (t':=tk+1) hf (Lo _) kp2 ⟨by show 2<=sizeLine;decide,[.int ((n+i:Nat):Int) tk,u'],.cons ⟨_,rfl⟩ (.cons ru .nil),⟨_,hT2,rfl,_,rfl⟩⟩,rfl,⟨_,x,hTn,rfl,rfl,λys hy=>by rw [I.ql hy hq];exact hx⟩,⟨⟨u',by have:=he2;rw [show ((n+i:Nat):Int)+1=((n+(i+1):Nat):Int) by omega] at this;exact this⟩,hit'.extBut sb.extBut<|Ml hne⟩,λb' hb=>?_⟩
  obtain ⟨ob,e',_⟩:∃ob,s.heap.get? b'=some ob/\True:=by
   simp only [Lw,L1,Mo] at hb
   obtain ⟨o1,e1,_⟩:=hit
   rcases hb with rfl|rfl
   .exact ⟨_,he,trivial⟩
   .exact ⟨_,e1,trivial⟩
  rw [aA<|LY<|LL e']
  exact (hf b' hb).1
 done:=by
  intro X hP hw hK hc i pins s σ H E I hf st hg
  subst hP hw hK
  obtain ⟨xs,hq,hx⟩:=hg
  obtain ⟨its,rv,p,hz⟩:=I.list hq
  obtain ⟨⟨old,he⟩,hit⟩:=st
  have hl:=rv.length
  exact wpAny_pyNext_enum_endD (Dx (prog:=X.prog) (w:=X.w) (A:=X.A.in1) (I.ok.hd hc) it a hai its.toArray i (by simp;omega)) he ⟨rfl,hit,p.isList⟩ λh' eb=>⟨rfl,I.uh (t':=s.toks) hf λc o hcc e=>eb c o (λq=>hcc (by simp [q])) e⟩
 self:=λA i s Q E st h=>let ⟨⟨_,he⟩,_⟩:=st;Oy he h
def HK 
  (h:wpAny M A (spliced (backTo c (starEach (e::b9) b))) (λl g=>wpAny M A (evalAll ((backToKw c (keywordEach d b)).map (·.2)))
   (λm k=>wpAny M A (call (.type T) l (((backToKw c (keywordEach d b)).filterMap (·.1)).zip m)) Q E k) E g) E s)
  (n:backTo c (starEach (e::b9) b)=(false,eval e b)::backTo c (starEach b9 b)) (i:(backTo c (starEach (e::b9) b)).any (·.1)=false)
  (f:(backToKw c (keywordEach d b)).all (·.1.isSome)=true:=by rfl) (j:(backToKw c (keywordEach d b)).any (·.1.isNone)=false:=by rfl):
  wpAny M A (callWith c (.type T) [] (backTo c (starEach (e::b9) b)) (backToKw c (keywordEach d b))) Q E s:=by
 have o:wpAny M A (evalArgs (.type T) true (backTo c<|starEach (e::b9) b)<|backToKw c<|keywordEach d b) (λa g=>wpAny M A (call (.type T) a.pos a.kw) Q E g) E s:=by
  rw [n] at h⊢
  exact evalArgs_kwB f h
 unfold callWith
 refine Lh<|MZ<|MN o (λa g q=>Lh<|Pn ?_) λ_ _ z=>z
 simp only [i,j,Pp]
 refine Lh<|Lz<|Lh<|MN q (λr k p=>Lh<|MZ<|wpAny_point<|Lz p) λ_ _ z=>z
section
variable {X:Cx}
def Cr (K:PySem.W.Frag)(te tb:TE):TI:=λσ H R=>bn te bB σ H λvs H1=>bn tb bB σ H1 λzs H2=>∃a n,vs=[.ref a]/\zs=[.int ((n:Nat):Int)]/\n<2^62/\(∃xs,aQ K H2 a xs)/\R (zN K a n) H2
def C2(N:X.mg "enumerate"=none)(O:PE X a o)(Q:PE X b r)(T:Gl X "enumerate":=by rfl)(t:starEach [a] X.env=(false,eval a X.env)::starEach [] X.env:=by rfl)(j:starEach [] X.env=[]:=by rfl):
  PI X (.Tuple J L M) (.Call (.Name "enumerate" p) [a] [⟨some "start",b,f⟩] i) (Cr X.K o r):=by
 intro d s w H R I h
 have x:PA X [a] (bn o bB):=ak O ar t
 have y:PK X [⟨some "start",b,f⟩] (bn r bB):=Bk Q AI
 refine Ni<|je I T N O4 ?_ Z1 Z1
 refine HK (aS (x i d s w H _ I h) λus U ⟨vs,Y,I1,r1,q1⟩=>?_) (by rw [t,j];rfl) (by rw [t,j];rfl)
 refine aS (y i d U w Y _ I1 q1) λws g q0=>?_
 obtain ⟨zs,z,m,rz,a,n,e1,e2,hn,⟨xs,hq⟩,q⟩:=q0
 subst e1 e2
 obtain ⟨u,rfl,ru⟩:=Pu r1
 obtain ⟨v,rfl,A⟩:=Pu rz
 cases ru
 obtain ⟨tk,rfl⟩:=A
 obtain ⟨ac,A,B,af⟩:=m.list hq
 have k:a<g.heap.objs.size:=by obtain ⟨_,e,_⟩:=B.isList;exact LL e
 refine IT B.isList (by unfold Builtin.SmallTypes.fitsIndex;simp;omega) λC E g2 hz kp=>?_
 have I3:Inv X d w z {g with heap:=C}:=m.kept (t':=g.toks) kp
 refine Oy (s:={g with heap:=C}) E ?_
 refine ⟨g.heap.objs.size+1,[g.heap.objs.size+1,g.heap.objs.size],_,_,z,rfl,I3,IS n (Nat.succ_ne_self _) (NF<|No k)<|LY k,⟨⟨_,E⟩,g2⟩,λc G=>?_,q⟩
 have l:g.heap.objs.size<=c:=by
  simp only [Lw,L1,Mo] at G
  rcases G with rfl|rfl
  .exact Mr _ _
  .exact Lo _
 exact m.gL l<|m.ay.fresh l
end
end L2
namespace FL
open PySem L2
def kN (n:Nat)(xs:List D):List D:=xs.zipIdx.map λp=>.tup [.int ((n+p.2:Nat):Int),p.1]
def GK{j:Nat}(h:(kN n a)[j]?=some d):∃x,a[j]?=some x/\d=.tup [.int ((n+j:Nat):Int),x]:=by
 unfold kN at h
 rw [LA,P4] at h
 cases e:a[j]? with
 |none=>rw [e] at h;cases h
 |some x=>rw [e] at h;exact ⟨x,rfl,by have:=LB h;rw [<-this];simp⟩
def EJ{K:W.Frag}(C:n<2^62)(h:ae r G m (.lst w))(E:ae t G m (.int ((n:Nat):Int))):Walk (Cr K r t) G m (kN n w):=λM H s l R k=>h M H s l _ λv I o J=>E M I (s.trans<|o.but M) (l.same o) _ λz L p N=>by
 obtain ⟨a,c,rfl,b,f⟩:=J.dI
 have b:=p.but M _ _ b
 have f:=f.mono<|p.but M
 refine ⟨a,n,rfl,by rw [N.dL],C,⟨c,aQ.of (aw b).2⟩,k _ L (o.trans p) (λj d O Q U g q=>?_) λO Q g=>?_⟩
 .have i:=(aw<|g _ _ b).2
  obtain ⟨x,Y,rfl⟩:=GK U
  obtain ⟨u,y,ru⟩:=f.get Y
  refine ⟨⟨c,u,aQ.of i,y⟩,λv ac q0=>?_⟩
  obtain ⟨T,x',A,e,eH,hy⟩:=q0
  have B:=hy c<|aQ.of i
  rw [y] at B
  cases B
  subst e eH
  refine ⟨c8 A _,?_⟩
  exact mU q A (.cons (.int _) (.cons (ru.mono g) .nil))
 .have i:=(aw<|g _ _ b).2
  refine ⟨c,aQ.of i,?_⟩
  rw [f.length]
  simp [kN]
end FL
namespace L2
open PySem PySem.Spec PyProof.Rows
section
variable {X:Cx}{pins:List (Addr×Obj)}{σ:List (Option V)}{H H':Hp}{s:Shared}{h':Heap}
def Inv.K4{ch:ZX}(I:Inv X pins σ H s)
  (f:∀b∈ch,(b∈X.ex\/X.s₀.heap.get? b=none)/\b≠X.env.locals/\(∀x c,X.env.cells.lookup x=some c->c≠b)/\∀p∈X.pn++pins,p.1≠b)
  (keep:∀b o,b≠X.env.locals->b∉X.fs->b∉ch->s.heap.get? b=some o->H b=none->h'.get? b=some o)
  (y:∀b o,b≠X.env.locals->b∈X.fs->b∉ch->s.heap.get? b=some o->H b=none->∃O,h'.get? b=some {o with slots:=O}) (free:∀b o,b∉ch->s.heap.get? b=some o->H b=none->H' b=none)
  (B:∀b o,b∉ch->s.heap.get? b=some o->∃G,h'.get? b=some G)
  (iu:∀b A,H b=some (.tup A)->H' b=some (.tup A)) (ie:∀b o u,H b=some (.cL o u)->H' b=some (.cL o u)) (iC:∀b N,H b=some (.jz N)->∃J,H' b=some (.jz (N++J)))
  (ns:∀m,s.heap.Ns X.env.locals m->h'.Ns X.env.locals m) (ay:cS X.prog X.w H' h') (hg:AllBare g'):
  Inv X pins σ H' {s with heap:=h',gens:=g',drawn:=d',toks:=t'}:=by
 have L:∀b o,X.s₀.heap.get? b=some o->b≠X.env.locals:=λb o e=>LY<|L4 (LL e) I.ok.above
 have j:∀b o,X.s₀.heap.get? b=some o->b∉X.ex->b∉ch:=λb o e a C=>by
  rcases (f b C).1 with z|z
  .exact a z
  .rw [z] at e;cases e
 have g:∀x c,X.env.cells.lookup x=some c->∀v,s.heap.IsCell c v->h'.IsCell c v:=λx c e v q0=>by
  obtain ⟨o,E,Q⟩:=q0
  have h:c∉ch:=λz=>(f c z).2.2.1 x c e rfl
  by_cases U:c∈X.fs
  .obtain ⟨O,q⟩:=y c o (I.jX x c e) U h E (I.gO x c e)
   exact ⟨_,q,Q⟩
  .exact ⟨o,keep c o (I.jX x c e) U h E<|I.gO x c e,Q⟩
 refine ⟨I.ok,I.os,hg,⟨λb o e n C a=>?_,λb o e n C a=>?_,λb o e n a=>?_,λb o e a=>?_,λb A e=>iu b A<|I.base.iu b A e,λb o A e=>ie b o A<|I.base.ie b o A e,λb N e=>?_⟩,?_,λx c e=>?_,?_,λx c e=>?_,λp Y=>?_,ay,I.len⟩
 .exact keep b o (L b o e) C (j b o e a) (I.base.keep b o e n C a)<|I.base.free b o e n a
 .obtain ⟨O,t⟩:=I.base.slot b o e n C a
  obtain ⟨T,M⟩:=y b _ (L b o e) C (j b o e a) t<|I.base.free b o e n a
  exact ⟨T,M⟩
 .obtain ⟨G,t⟩:=I.base.there b o e a
  exact free b G (j b o e a) t<|I.base.free b o e n a
 .obtain ⟨G,t⟩:=I.base.there b o e a
  exact B b G (j b o e a) t
 .obtain ⟨m1,t⟩:=I.base.iC b N e
  obtain ⟨m2,M⟩:=iC b _ t
  exact ⟨m1++m2,by rw [M,Array.append_assoc]⟩
 .obtain ⟨m,hn,hl⟩:=I.loc
  refine ⟨m,ns m hn,λi x v t M e3=>?_⟩
  obtain ⟨u,r,l⟩:=hl i x v t M e3
  refine ⟨u,r,?_⟩
  rcases l with l|⟨k,c,e,z⟩
  .exact .inl l
  .exact .inr ⟨k,c,e,g x c e _ z⟩
 .obtain ⟨v,z⟩:=I.cell x c e
  exact ⟨v,g x c e v z⟩
 .obtain ⟨m,⟨o,_,_,E,_⟩,_⟩:=I.loc
  exact free _ o (λz=>(f _ z).2.1 rfl) E I.free
 .obtain ⟨v,o,E,Q⟩:=I.cell x c e
  exact free c o (λz=>(f c z).2.2.1 x c e rfl) E<|I.gO x c e
 .obtain ⟨e,n,ne,nf,d⟩:=I.pin p Y
  have h:p.1∉ch:=λz=>(f p.1 z).2.2.2 p Y rfl
  exact ⟨keep p.1 p.2 ne nf h e n,free p.1 p.2 h e n,ne,nf,d⟩
end
section
variable {X:Cx}{σ:St}{H:Hp}{s:Shared}{ea T:Addr}{cls fl:Value}{E:Value->St->Hp->Prop}
end
section
variable {P:Program}{w:World}{K:PySem.W.Frag}{mg:Str->Option Value}{base:Heap}
end
section
variable {X:Cx}{st:Stmt}{b9:List Stmt}{t u:TS}
end
section
variable {P:Program}{w:World}{K:PySem.W.Frag}{mg:Str->Option Value}{base:Heap}
end
end L2
namespace L2
open PySem PySem.Spec PyProof.Rows
section
variable {X:Cx}{pins:List (Addr×Obj)}{σ:St}{H:Hp}{s:Shared}
def Inv.freeze(I:Inv X pins σ H s)(e:H p=some (.dK a))(h:s.heap.get? p=some o):Inv X pins σ (upd H p (.cL o (.dK a))) s:=by
 have d:∀b u,H b=some u->u≠.dK a->b≠p:=λb u q i z=>by rw [z,e] at q;exact i (LB q).symm
 refine I.K4 (h':=s.heap) (g':=s.gens) (d':=s.drawn) (t':=s.toks) (ch:=[]) (λb f=>nomatch f) (λb o _ _ _ q _=>q) (λb o _ _ _ q _=>⟨o.slots,q⟩) (λb o _ _ n=>?_) (λb o _ q=>⟨o,q⟩)
  (λb g q=>by rw [aA<|d b _ q (by intro z;cases z)];exact q) (λb o u q=>by rw [aA<|d b _ q (by intro z;cases z)];exact q) (λb k q=>⟨#[],by rw [aA<|d b _ q (by intro z;cases z),q];simp⟩) (λm j=>j) (λb u q=>?_) I.bare
 .rw [aA λz=>by rw [z,e] at n;cases n];exact n
 .by_cases f:b=p
  .subst f
   rw [aN] at q
   cases q
   refine ⟨h,?_⟩
   exact (I.ay b _ e).jE (λc v _ q=>q) (λc q=>by rw [aA<|d c _ q (by intro z;cases z)];exact q) λc g q=>by rw [aA<|d c _ q (by intro z;cases z)];exact q
  .rw [aA f] at q
   exact (I.ay b u q).jE (λc v _ q=>q) (λc q=>by rw [aA<|d c _ q (by intro z;cases z)];exact q) λc g q=>by rw [aA<|d c _ q (by intro z;cases z)];exact q
def yb (te:TE):TE:=λσ H Q=>te σ H λx H1=>∃p kvs,x=.ref p/\H1 p=some (.dK kvs)/\∀o,Q x (upd H1 p (.cL o (.dK kvs)))
def Hc(h:PE X e d):PE X e (yb d):=by
 intro a s i H Q I j
 refine aS (h a s i H _ I j) λu k l=>?_
 obtain ⟨x,m,f,n,p,b,y,g,q⟩:=l
 obtain ⟨_,_,z,_,r⟩:=(show bS X.prog X.w m k.heap p (.dK b) from f.ay p _ g)
 obtain ⟨t,c⟩:=r.dictAt
 obtain ⟨o,A,v,_⟩:=c
 exact ⟨x,_,f.freeze g v,n,q o⟩
def HE {b:Type}{c:List (b×V)}{d:List (b×Value)}(h:KV c d):∀{i:Nat} {p:b×V},c[i]?=some p->∃q,d[i]?=some q/\p.1=q.1/\RelV p.2 q.2:=by
 unfold KV at h
 induction h with
 |nil=>intro i p e;cases e
 |cons a t f=>
  intro i p e
  cases i with
  |zero=>cases e;exact ⟨_,rfl,a⟩
  |succ i=>exact f e
def AT (d:Addr)(o:Obj)(kvs:List (aJ×V)):It:=
 ⟨λi H=>i<kvs.length/\H d=some (.cL o (.dK kvs)),λi H x H'=>H'=H/\(kvs[i]?).map (·.2)=some x,λi H=>kvs.length<=i/\H d=some (.cL o (.dK kvs))⟩
def ut(I:Inv X pins σ H s)(e:H d=some (.cL o (.dK a)))(j:o.data=.dict i g):∃f,KV a f/\s.heap.DictAt (dq X.prog X.w) d f g:=by
 obtain ⟨k,_,_,f,bw,l⟩:=(show bS X.prog X.w H s.heap d (.cL o (.dK a)) from I.ay d _ e)
 obtain ⟨m,b⟩:=l.dictAt
 obtain ⟨p,n,c,q,h,r⟩:=id b
 rw [k] at c
 cases c
 rw [j] at h
 cases h
 exact ⟨f,bw,b⟩
end
def DP {P:Program}{w:World}{K:W.Frag}{tg:Expr}(d it:Addr)(o:Obj)(kvs:List (aJ×V))(ep:Nat)(es:Array DictEntry)(hd:o.data=.dict es ep):iF P w K tg (AT d o kvs) [it] it (λi h=>h.IsValIter it d i kvs.length ep) where
 mem:=by simp
 obj:=λi h st b hb=>by
  have e:b=it:=by simpa using hb
  subst e
  obtain ⟨o,e,c,d⟩:=st
  exact ⟨o,e,λv z=>by rw [d] at z;cases z⟩
 keep:=λi h h' st k=>let ⟨o,e,r⟩:=st;⟨o,k it Z8 o e,r⟩
 item:=by
  intro X hP hw hK hc i pins s σ H E I hf st hg
  subst hP hw hK
  obtain ⟨hi,hH⟩:=hg
  obtain ⟨vs,bw,hat⟩:=ut I hH hd
  have hl:=bw.length
  have hx:kvs[i]?=some kvs[i]:=Lk hi
  obtain ⟨q,hq,rq⟩:=HE bw hx
  obtain ⟨f0,f1,f2,f3,f4,f5⟩:=hf it Z8
  rw [hl] at st
  refine wpAny_pyNext_values_item (k:=q.1) (v:=q.2) st hat hq λh' st' sb=>?_
  have I1:Inv X pins σ H {s with heap:=h'}:=I.turned (t':=s.toks) (λb o hb e=>(sb.2 b hb).trans e) f0 f1 f3 f4 f5
  obtain ⟨o',e',c',d'⟩:=id st'
  rw [<-hl] at st'
  exact ⟨q.2,rfl,nc (s:={s with heap:=h'}) e' c' d' Z1 ⟨kvs[i].2,H,I1,rq.2,⟨rfl,by rw [hx];rfl⟩,st',λb hb=>(hf b hb).1⟩⟩
 done:=by
  intro X hP hw hK hc i pins s σ H E I hf st hg
  subst hP hw hK
  obtain ⟨hi,hH⟩:=hg
  obtain ⟨vs,bw,hat⟩:=ut I hH hd
  have hl:=bw.length
  obtain ⟨f0,f1,f2,f3,f4,f5⟩:=hf it Z8
  rw [hl] at st
  exact wpAny_pyNext_values_end (I.ok.hd hc) st hat (Mh Z4) λh' eb=>⟨rfl,I.turned (t':=s.toks) (λb o hb e=>eb b o hb e) f0 f1 f3 f4 f5⟩
 self:=λ_ _ _ _ _ st h=>wpAny_pyIter_valiter st h
abbrev pL (p d:Addr):HO:=.ext λh=>h.IsValuesView p d
section
variable {X:Cx}
def zl:V->List V->Hp->VK->Prop:=λx xs H Q=>∃d kvs,x=.ref d/\xs=[]/\Rd H d (.dK kvs)/\∀p,H p=none->Q (.ref p) (upd H p (pL p d))
def Lb:sS X "dict.values" zl:=by
 intro a s y H x A v B Q I f g h
 obtain ⟨d,i,rfl,rfl,e,q⟩:=h
 cases f
 cases g
 obtain ⟨z,j,l,bw,c⟩:=gY I.ay e
 refine NH Pr c.typeIs PySem.F.entry_dict_values (PySem.F.args_dict_values_1 _) (meets_dict_values (dq X.prog X.w) d j) ⟨⟨l,c⟩,?_⟩
 have m:H s.heap.objs.size=none:=I.ay.fresh<|Lo _
 refine ⟨.ref s.heap.objs.size,upd H s.heap.objs.size<|pL s.heap.objs.size d,I.laid (t':=s.toks) (λb u q=>Ln _ q) (Lo _) ?_,rfl,q _ m⟩
 have n:(s.heap.push {cls:=.type "dict_values",data:=.fields #[.ref d]}).IsValuesView s.heap.objs.size d:=⟨_,LJ _ rfl,rfl,rfl⟩
 exact ⟨n,⟨_,LJ _ rfl⟩,λC E p k=>by obtain ⟨o,r,t⟩:=p;exact ⟨o,k o r,t⟩⟩
def BS (to:TE):TE:=λσ H Q=>to σ H λx H1=>(∃d,x=.ref d/\rN H1 d)/\zl x [] H1 Q
def GJ{a b:Pos}(k:PE X o g)(e:attributeBase o "values" X.env (eval o X.env)=eval o X.env:=by rfl)(f:(a.endLine==b.line)=true:=by rfl):PE X (.Call (.Attribute o "values" a) [] [] b) (BS g):=by
 intro c s i H Q I h
 refine wpAny_Call_method0_late e f<|aS (k c s i H _ I h) λv l m=>?_
 obtain ⟨x,n,j,p,⟨d,q,r⟩,t⟩:=m
 subst q
 cases p
 obtain ⟨u,w,_⟩:=vp j r
 exact ⟨"dict","dict.values",Op,Pr,PySem.F.type_dict_values,u,w,Nd rfl<|PySem.evalArgs_none<|Lb c l i n (.ref d) [] (.ref d) [] Q j rfl .nil t⟩
def zq (tl:TE):TI:=λσ H R=>tl σ H λx H1=>∃p d o kvs,x=.ref p/\H1 p=some (pL p d)/\H1 d=some (.cL o (.dK kvs))/\R (AT d o kvs) H1
def GQ(B:PE X l r):PI X A l (zq r):=by
 intro f s C H R I h
 refine aS (B f s C H _ I h) λv a E=>?_
 obtain ⟨x,m,c,t,G⟩:=E
 obtain ⟨p,d,o,g,e,J,u,q⟩:=G
 subst e
 cases t
 obtain ⟨L,_,_⟩:=(show bS X.prog X.w m a.heap p (pL p d) from c.ay p _ J)
 obtain ⟨M,_,_,N,y,O⟩:=(show bS X.prog X.w m a.heap d (.cL o (.dK g)) from c.ay d _ u)
 obtain ⟨Q,i⟩:=O.dictAt
 obtain ⟨Y,T,j,t,z,r3⟩:=id i
 rw [M] at j
 cases j
 obtain ⟨vs,bw,n⟩:=ut c u z
 have k:=bw.length
 refine wpAny_pyIter_values L n ?_
 refine ⟨a.heap.objs.size,[a.heap.objs.size],_,_,m,rfl,c.kept (t':=a.toks) λb o e=>Ln _ e,DP d _ o g Q T z,⟨_,LJ _ rfl,rfl,by rw [k];rfl⟩,λb U=>?_,q⟩
 have e:b=a.heap.objs.size:=by simpa using U
 subst e
 exact c.gL (Lo _)<|c.ay.fresh<|Lo _
end
end L2
namespace FL
open PySem L2
def mv (t:TE)(G:Hp)(σ:St)(a:Addr):Prop:=∀M H,ab G (but H M)->ap M H->∀Q:VK,(∀H',ab H H'->Q (.ref a) H')->t σ H Q
def Hr{i:Nat}(e:b[i]?=some (some (.ref a))):mv (aY i) G b a:=λM H s l Q k=>⟨.ref a,e,k H<|ab.refl _⟩
def F2{is:List Int}(z:mv t G r d)(h:G d=some (.cL o (.dK a)))(u:a.map (·.2)=is.map V.int):Walk (zq (BS t)) G r (is.map D.int):=λM H s l R k=>z M H s l _ λw f=>by
 have i:=(aw<|(s.trans<|f.but M) _ _ h).2
 refine ⟨⟨d,rfl,.inl ⟨a,.inr ⟨o,i⟩⟩⟩,d,a,rfl,rfl,.inr ⟨o,i⟩,λp A=>?_⟩
 have g:ab w (upd w p<|pL p d):=c8 A _
 have y:a.length=is.length:=by have:=Mq List.length u;simpa using this
 refine ⟨p,d,o,a,rfl,aN,g _ _ i,k _ _ (f.trans g) (λj x B C c m E=>?_) λB C m=>?_⟩
 .have b:=(aw<|m _ _<|(s.trans<|(f.trans g).but M) _ _ h).2
  have I:j<is.length:=by have:=(Li.mp c).1;simpa using this
  refine ⟨⟨by omega,b⟩,λv J L=>?_⟩
  obtain ⟨N,O⟩:=L
  subst N
  refine ⟨ab.refl _,?_⟩
  have q:(a.map (·.2))[j]?=some v:=by rw [LA];exact O
  rw [u,LA] at q
  rw [LA] at c
  cases e:is[j]? with
  |none=>rw [e] at c;cases c
  |some n=>
   rw [e] at q c
   cases q
   cases c
   exact .int n
 .have b:=(aw<|m _ _<|(s.trans<|(f.trans g).but M) _ _ h).2
  exact ⟨by simp;omega,b⟩
end FL
namespace FL
open PySem PySem.Spec PyProof.Rows L2
section
variable {X:Cx}{C:Addr}
def C3(q:PE X o j)(c:dk X.K C)(h:d7 X.prog X.w X.K X.mg X.base n C m p i)(r:cK k X.A)(e:n<=k:=by decide)
  (s:eval (.Call (.Attribute o m a) [] [] d) X.env=(do
   let l<-eval o X.env
   standAt a.atName
   let (f,first)<-holding [l] (getMethod l m g)
   callWith d f first (backTo d (starEach [] X.env)) (backToKw d (keywordEach [] X.env))):=by rfl):
  PE X (.Call (.Attribute o m a) [] [] d) (kj C m i [] E0 j bB):=by
 obtain ⟨f,t,F,b,M⟩:=h.ex
 exact CP (pl:=g) q c M (F.mono e) r b .nil qN s
end
end FL
namespace FL
open PySem L2
def nK (wi:TI)(G:Hp)(σ:St)(n:Nat)(R:Nat->Hp->V->Prop):Prop:=∀M H,ab G (but H M)->ap M H->∀S:It->Hp->Prop,
 (∀J H1,ab H H1->(∀(j:Nat) M' H',j<n->ab (but H1 M) (but H' M')->ap M' H'->J.go j H'/\∀x H'',J.nl j H' x H''->ab H' H''/\R j (but H'' M') x)->(∀M' H',ab (but H1 M) (but H' M')->J.stop n H')->S J H1)->wi σ H S
def HB (ds:List D):Nat->Hp->V->Prop:=λj G x=>∃d,ds[j]?=some d/\al G x d
def CU (us:List V):Nat->Hp->V->Prop:=λj _ x=>us[j]?=some x
def zx (us:List V):Nat->Hp->V->Prop:=λj G x=>∃T v,x=.ref T/\G T=some (.tup [.int (j:Nat),v])/\us[j]?=some v
section
variable {G:Hp}{σ:St}{wi:TI}{te:TE}{K:PySem.W.Frag}{a:Addr}{us:List V}
def J6(h:Walk wi G σ c):nK wi G σ c.length (HB c):=λM H s l S k=>h M H s l S λJ g i d b=>k J g i (λj m n f o r=>by
 obtain ⟨t,u⟩:=d j _ m n (Lk f) o r
 exact ⟨t,λx e v=>let ⟨p,q⟩:=u x e v;⟨p,_,Lk f,q⟩⟩) b
def vI (h:mv te G σ a)(g:G a=some (.lst us)):nK (λσ H R=>jT K te σ H R\/mh K te σ H R) G σ us.length (CU us):=λM H s l S k=>.inl (h M H s l _ λi d=>by
 have b:=(s.trans<|d.but M) _ _ g
 refine ⟨a,rfl,⟨us,aQ.of (aw b).2⟩,k _ i d (λj m n o c r=>?_) λm n c=>?_⟩
 .have f:=(aw<|c _ _ b).2
  refine ⟨⟨us,us[j],aQ.of f,Lk o⟩,λx p ⟨e,q⟩=>?_⟩
  subst e
  exact ⟨ab.refl _,q us<|aQ.of f⟩
 .exact ⟨us,aQ.of (aw<|c _ _ b).2,Lo _⟩)
def xE (h:mv te G σ a)(i:G a=some (.lst us)):nK (yX K (bn te bB)) G σ us.length (zx us):=λM H s l S k=>h M H s l _ λm d=>by
 have b:=(s.trans<|d.but M) _ _ i
 refine ⟨a,rfl,⟨us,aQ.of (aw b).2⟩,k _ m d (λj n o p c q=>?_) λn o c=>?_⟩
 .have f:=(aw<|c _ _ b).2
  refine ⟨⟨us,us[j],aQ.of f,Lk p⟩,λv r ⟨T,t,g,e,u,w⟩=>?_⟩
  subst e u
  refine ⟨c8 g _,T,t,rfl,?_,w us<|aQ.of f⟩
  rw [bf<|q.fresh g,aN]
 .exact ⟨us,aQ.of (aw<|c _ _ b).2,Lo _⟩
def rJ{g:TG}{E:Ends}(y:nK wi (but H M) σ n R)(l:ap M H)
  (k:∀q,ab H q->∃Pv:Nat->ZX->St->Hp->Prop,Pv 0 M σ q/\(∀j d b c,Pv j d b c->ab (but q M) (but c d)/\ap d c)/\
   (∀(j:Nat) d x b c f,j<n->Pv j d b c->ab c f->R j (but f d) x->g x b f λr v=>u {E with nx:=λσ H=>∃M,Pv (j+1) M σ H,ct:=λσ H=>∃M,Pv (j+1) M σ H,bk:=E.nx} r v)/\∀d b c,Pv n d b c->E.nx b c):
  lK wi g u E σ H:=y M H (ab.refl _) l _ λJ q z t h=>by
 obtain ⟨Pv,A,B,i,s⟩:=k q z
 refine ⟨λj m b c=>m=n-j/\j<=n/\∃d,Pv j d b c,⟨n,by simp,LP _,M,A⟩,?_⟩
 rintro j m b c ⟨rfl,U,d,p⟩
 obtain ⟨w,C⟩:=B j d b c p
 by_cases o:j<n
 .obtain ⟨I,L⟩:=t j d c o w C
  refine .inr ⟨I,λσ H=>∃M,Pv (j+1) M σ H,λr v N=>⟨n-(j+1),by omega,rfl,o,N⟩,λx f O=>?_⟩
  obtain ⟨Q,T⟩:=L x f O
  exact i j d x b c f o p Q T
 .have e:j=n:=by omega
  subst e
  exact .inl ⟨h d c w,s d b c p⟩
def tQ(m:Nat):(List.range (m+1)).filter p=(List.range m).filter p++(if p m=true then [m] else []):=by
 rw [List.range_succ,MD]
 congr 1
 by_cases b:p m=true
 .simp [b]
 .simp [b]
def Hw{caps:St->St}{p:Nat->Bool}{f:Nat->D}(hw:nK wi G σ n R)(hR:∀j G h v,ab G h->R j G v->R j h v)
  (ht:∀h v j,ab G h->j<n->R j h v->bJ T h ((caps σ).set i (some v)) (p j))
  (he:∀h v j,ab G h->j<n->p j=true->R j h v->ae te h ((caps σ).set i (some v)) (f j)) (hz:n<sizeLine):
  ae (gH wi caps (cf i) T te) G σ (.lst (((List.range n).filter p).map f)):=λM H s l Q k=>hw M H s l _ λJ I L U z D N=>by
 have lf:D∉M:=(l.same L).fresh N
 have Y:ab G (but I M):=s.trans<|L.but M
 refine ⟨λj m τ r=>m=n-j/\j<=n/\(∀v,τ.set i (some v)=(caps σ).set i (some v))/\ab I r/\∃q,r D=some (.lst q)/\az (but r (D::M)) q (((List.range j).filter p).map f),
  ⟨n,by simp,LP _,λ_=>rfl,c8 N _,[],aN,by simpa using az.nil⟩,?_⟩
 rintro j m τ r ⟨rfl,hj,ac,A,q,t,O⟩
 have hs:ab (but I M) (but r (D::M)):=gX N A
 have hl:ap (D::M) r:=((l.same L).same A).cons t
 by_cases u:j<n
 .obtain ⟨go,gy⟩:=U j (D::M) r u hs hl
  refine .inr ⟨go,λB d=>(∀v,B.set i (some v)=(caps σ).set i (some v))/\ab I d/\∃q,d D=some (.lst q)/\az (but d (D::M)) q (((List.range<|j+1).filter p).map f),
   λB d q0=>by obtain ⟨a,b,c⟩:=q0;exact ⟨n-(j+1),by omega,rfl,u,a,b,c⟩,λx d hy=>?_⟩
  obtain ⟨y,rx⟩:=gy x d hy
  have sG:ab G (but d (D::M)):=Y.trans<|hs.trans<|y.but _
  have C:=hl.same y
  show T (τ.set i<|some x) d _
  rw [ac x]
  refine ht _ x _ sG u rx (D::M) d (ab.refl _) C _ λH4 w=>?_
  have g:∀v,((caps σ).set i<|some x).set i (some v)=(caps σ).set i (some v):=λv=>by rw [P8]
  by_cases E:p j=true
  .rw [Lv E]
   refine he _ x _ (sG.trans<|w.but _) u E (hR _ _ _ _ (w.but _) rx) (D::M) H4 (ab.refl _) (C.same w) _ λv H5 s5 r5=>?_
   have af:H5 D=some (.lst q):=s5 _ _<|w _ _<|y _ _ t
   have aj:=O.length
   have am:(((List.range j).filter p).map f).length<=j:=by
    rw [Ll]
    have:=LZ p<|List.range j
    rw [N5] at this
    omega
   refine ⟨q,af,by omega,g,?_,q++[v],aN,?_⟩
   .intro b o e
    rw [aA<|cU e N]
    exact s5 _ _<|w _ _<|y _ _<|A _ _ e
   .rw [dw Lj,tQ,Lv E,LU]
    exact (O.mono<|((y.trans w).trans s5).but _).snoc r5
  .rw [Lq E]
   refine ⟨g,A.trans<|y.trans w,q,w _ _<|y _ _ t,?_⟩
   rw [tQ,Lq E,LV]
   exact O.mono<|(y.trans w).but _
 .have e:j=n:=by omega
  subst e
  exact .inl ⟨z (D::M) r hs,k _ r (L.trans A)<|lS lf t O⟩
def Ej{caps:St->St}(ac:i≠j){p:Nat->Bool}{f:Nat->D}(hw:nK wi G σ n (zx us))
  (ht:∀B v m,ab G B->us[m]?=some v->bJ tt B (((caps σ).set i (some (.int (m:Nat)))).set j (some v)) (p m))
  (he:∀B v m,ab G B->us[m]?=some v->p m=true->ae te B (((caps σ).set i (some (.int (m:Nat)))).set j (some v)) (f m)) (hz:n<sizeLine):
  ae (gH wi caps (na K 2 (jU (cf i) (jU (cf j) pH))) tt te) G σ (.lst (((List.range n).filter p).map f)):=λM H s l Q k=>hw M H s l _ λJ O U af A D Y=>by
 have lf:D∉M:=(l.same U).fresh Y
 have aj:ab G (but O M):=s.trans<|U.but M
 refine ⟨λm q τ r=>q=n-m/\m<=n/\(∀v w,(τ.set i<|some v).set j (some w)=((caps σ).set i<|some v).set j (some w))/\ab O r/\∃h,r D=some (.lst h)/\az (but r (D::M)) h (((List.range m).filter p).map f),
  ⟨n,by simp,LP _,λ_ _=>rfl,c8 Y _,[],aN,by simpa using az.nil⟩,?_⟩
 rintro m q τ r ⟨rfl,hj,am,C,h,t,ry⟩
 have hs:ab (but O M) (but r (D::M)):=gX Y C
 have hl:ap (D::M) r:=((l.same U).same C).cons t
 by_cases E:m<n
 .obtain ⟨go,gy⟩:=af m (D::M) r E hs hl
  refine .inr ⟨go,λI d=>(∀v w,(I.set i<|some v).set j (some w)=((caps σ).set i<|some v).set j (some w))/\ab O d/\∃h,d D=some (.lst h)/\az (but d (D::M)) h (((List.range<|m+1).filter p).map f),
   λI d q0=>by obtain ⟨a,b,c⟩:=q0;exact ⟨n-(m+1),by omega,rfl,E,a,b,c⟩,λx d hy=>?_⟩
  obtain ⟨u,T,y,rfl,hT,hv⟩:=gy x d hy
  have sG:ab G (but d (D::M)):=aj.trans<|hs.trans<|u.but _
  have L:=hl.same u
  refine ⟨T,_,rfl,br.of (aw hT).2,rfl,.int (m:Nat),[y],rfl,y,[],rfl,rfl,?_⟩
  show tt ((τ.set i<|some (.int (m:Nat))).set j<|some y) d _
  rw [am (.int (m:Nat)) y]
  refine ht _ y _ sG hv (D::M) d (ab.refl _) L _ λH4 z=>?_
  have g:∀v w,((((caps σ).set i<|some (.int (m:Nat))).set j<|some y).set i<|some v).set j (some w)=((caps σ).set i<|some v).set j (some w):=λv w=>by
   rw [List.set_comm (some y) (some v)<|Ml ac,P8,P8]
  by_cases N:p m=true
  .rw [Lv N]
   refine he _ y _ (sG.trans<|z.but _) hv N (D::M) H4 (ab.refl _) (L.same z) _ λv H5 s5 r5=>?_
   have an:H5 D=some (.lst h):=s5 _ _<|z _ _<|u _ _ t
   have ao:=ry.length
   have as:(((List.range m).filter p).map f).length<=m:=by
    rw [Ll]
    have:=LZ p<|List.range m
    rw [N5] at this
    omega
   refine ⟨h,an,by omega,g,?_,h++[v],aN,?_⟩
   .intro b o e
    rw [aA<|cU e Y]
    exact s5 _ _<|z _ _<|u _ _<|C _ _ e
   .rw [dw Lj,tQ,Lv N,LU]
    exact (ry.mono<|((u.trans z).trans s5).but _).snoc r5
  .rw [Lq N]
   refine ⟨g,C.trans<|u.trans z,h,z _ _<|u _ _ t,?_⟩
   rw [tQ,Lq N,LV]
   exact ry.mono<|(u.trans z).but _
 .have e:m=n:=by omega
  subst e
  exact .inl ⟨A (D::M) r hs,k _ r (U.trans C)<|lS lf t ry⟩
end
end FL
namespace FL
open PySem L2
def zi{u:TS}{D:Ends}(h:t {D with nx:=u D} a H):nq t u D a H:=h
def yl{K:W.Frag}{g:TE}{D:Ends}(h:ae i (but H M) b d)(l:ap M H)(k:∀v c,ab H c->al (but c M) v d->g b c λx j=>∃a C m e,x=.ref a/\j a=some (.ins C m e)/\dk K C/\bO K C f/\e.length<1000/\D.nx b (upd j a (.ins C m (cN f v e)))):Br K g i f D b H:=h M H (ab.refl _) l _ k
def iy (f:List D):Prop:=f≠[]/\bW f
structure bg where
 cB:List D
 shared:List (Str×Nat)
 gs:List (List D×List Nat)
 of:List dg
 newest:Int
def k9 (g:List D×List Nat):D:=.tup [.tup g.1,.lst (g.2.map λn=>D.int (n:Nat))]
def fH (sh:List (Str×Nat)):List (aJ×V):=sh.map λp=>(Sum.inr p.1,V.int (p.2:Nat))
abbrev iY (v0:V)(sa:Addr)(v2:V)(ao:Addr)(n:Int):List (Str×V):=[("asker",v0),("shared",.ref sa),("guards",v2),("offers",.ref ao),("newest",.int n)]
def kb (C:Addr)(G:Hp)(v:V)(s:bg):Prop:=∃a dx v0 sa v2 ao oS,v=.ref a/\G a=some (.ins C dx (iY v0 sa v2 ao s.newest))/\al G v0 (.tup s.cB)/\G sa=some (.cL oS (.dK (fH s.shared)))/\al G v2 (.lst (s.gs.map k9))/\nY G ao s.of
theorem kb.mono(e:ab G b)(h:kb C G v s):kb C b v s:=by
 obtain ⟨a,c,d,f,g,i,j,k,l,m,n,o,p⟩:=h
 exact ⟨a,c,d,f,g,i,j,k,e _ _ l,m.mono e,e _ _ n,o.mono e,p.mono e⟩
structure ky (K:PySem.W.Frag)(C:Addr):Prop where
 cl:dk K C
 nA:bO K C "asker"
 nS:bO K C "shared"
 nG:bO K C "guards"
 nO:bO K C "offers"
 nN:bO K C "newest"
structure gU (C:Addr)(H:Hp)(Z:List Addr)(a:Addr)(os:List Addr)(s:bg):Prop where
 at_:∃dx v0 sa v2 ao ls oS,os=a::ao::ls/\H a=some (.ins C dx (iY v0 sa v2 ao s.newest))/\al (but H Z) v0 (.tup s.cB)/\but H Z sa=some (.cL oS (.dK (fH s.shared)))/\al (but H Z) v2 (.lst (s.gs.map k9))/\eF H Z ao ls s.of
def eF.weak{M:ZX}(h:eF H Z p c d)(g:∀x∈M,x∈Z):eF H M p c d:=by
 obtain ⟨b,i,j,k,e,m⟩:=h.kvs
 refine ⟨⟨b,i,j,k,λa f=>⟨(e a f).1,λv n=>?_⟩,m⟩,h.lists,h.apart⟩
 obtain ⟨l,o,q,r,s,t⟩:=(e a f).2 v n
 refine ⟨l,o,q,r,s,t.mono<|dR λx u=>?_⟩
 rcases LI.mp u with z|z
 .exact Lu _ z
 .rcases Lw.mp z with z|z
  .rw [z];exact Lr _ Lj
  .exact Lr _<|Lg _<|g x z
def sV{Z b:ZX}(c:p∈Z)(d:∀x∈b,x∈Z):∀a,a∈b++p::Z↔a∈Z:=λa=>by
 constructor
 .intro h
  rcases LI.mp h with z|z
  .exact d a z
  .rcases Lw.mp z with z|z
   .rw [z];exact c
   .exact z
 .intro h
  exact Lr _<|Lg _ h
def eF.frame{e:Hp}{Z':ZX}(h:eF H Z p a m)(s:p∈Z)(d:∀x∈a,x∈Z)(f:p∈Z')(g:∀x∈a,x∈Z')(k:∀b u,b∈p::a->H b=some u->e b=some u)(S:ab (but H Z) (but e Z')):eF e Z' p a m:=by
 obtain ⟨i,t,w,y,n,A⟩:=h.kvs
 refine ⟨⟨i,k _ _ Lj t,w,y,λc o=>⟨(n c o).1,λv B=>?_⟩,A⟩,λl d=>?_,h.apart⟩
 .obtain ⟨l,j,C,q,E,r⟩:=(n c o).2 v B
  refine ⟨l,j,C,q,k _ _ (Lg _ q) E,?_⟩
  rw [jv<|sV s d] at r
  rw [jv<|sV f g]
  exact r.mono S
 .obtain ⟨j,z⟩:=h.lists l d
  exact ⟨j,k _ _ (Lg _ d) z⟩
theorem gU.rep{M:ZX}{os:ZX}(h:gU C H Z a os s)(c:∀x∈M,x∈Z)(b:∀x∈os,x∉M):kb C (but H M) (.ref a) s:=by
 obtain ⟨e,f,g,i,d,r,j,rfl,k,m,n,o,p⟩:=h.at_
 have S:ab (but H Z) (but H M):=dR c
 refine ⟨a,e,f,g,i,d,j,rfl,?_,m.mono S,S _ _ n,o.mono S,(p.weak c).rep (b d Z8) λl q=>b l (by simp [q])⟩
 rw [bf<|b a Z8];exact k
theorem gU.frame{d:Hp}{Z':ZX}{os:ZX}(h:gU C H Z a os s)(f:∀x∈os,x∈Z)(c:∀x∈os,x∈Z')(k:∀b u,b∈os->H b=some u->d b=some u)(S:ab (but H Z) (but d Z')):gU C d Z' a os s:=by
 obtain ⟨g,i,j,l,m,n,o,rfl,p,r,t,v,w⟩:=h.at_
 exact ⟨⟨g,i,j,l,m,n,o,rfl,k _ _ Z8 p,r.mono S,S _ _ t,v.mono S,w.frame (f _ Z8) (λx e=>f _ (by simp [e])) (c _ Z8) (λx e=>c _ (by simp [e])) (λb u y q=>k b u (Lg _ y) q) S⟩⟩
theorem gU.mono{os:ZX}(h:gU C H Z a os s)(e:ab H b):gU C b Z a os s:=by
 obtain ⟨c,d,f,g,i,j,k,rfl,l,m,n,o,p⟩:=h.at_
 exact ⟨⟨c,d,f,g,i,j,k,rfl,e _ _ l,m.mono<|e.but Z,(e.but Z) _ _ n,o.mono<|e.but Z,p.same e⟩⟩
def xg {H d:Hp}{Z os a:ZX}(h:∀x∈a,x∈os\/H x=none)(i:∀x∈os,x∈Z)(k:∀b u,b∉os->H b=some u->d b=some u):ab (but H Z) (but d (a++Z)):=λb u e=>by
 obtain ⟨f,c⟩:=aw e
 have g:b∉os:=λz=>f<|i b z
 rw [bf]
 .exact k b u g c
 .intro z
  rcases LI.mp z with z|z
  .rcases h b z with w|w
   .exact g w
   .rw [w] at c;cases c
  .exact f z
def eY (s:bg):List Str:=s.shared.map (·.1)
def cD (s:bg)(n:Nat)(g:List D):bg:=match bC s.cB g [] with
 |some st=>{s with of:=s.of++[(dm (eY s) st,(n,restOf (eY s) st))],newest:=n}
 |none=>s
def kB:upd (upd H x o) x a=upd H x a:=by
 funext b
 by_cases e:b=x
 .subst e;rw [aN,aN]
 .rw [aA e,aA e,aA e]
def D8(h:p≠x):upd (upd (upd H x o) p d) x c=upd (upd H p d) x c:=by
 funext b
 by_cases e:b=x
 .subst e;rw [aN,aN]
 .rw [aA e,aA e]
  by_cases a:b=p
  .subst a;rw [aN,aN]
  .rw [aA a,aA a,aA e]
def BX (C:Addr):Sp:=λvs H Q _=>∃x dx v1 v2 v3,vs=[.ref x,v1,v2,v3]/\H x=some (.ins C dx [])/\
 ∀p,H p=none->p≠x->Q .aq (upd (upd H p (.dT [])) x (.ins C dx [("asker",v1),("shared",v2),("guards",v3),("offers",.ref p),("newest",.int (-1))]))
def zo (C:Addr):Sp:=λvs H Q _=>∃Z os s a n g v2,vs=[.ref a,.int ((n:Nat):Int),v2]/\ap Z H/\gU C H Z a os s/\(∀x∈os,x∈Z)/\al (but H Z) v2 (.tup g)/\dz s.cB/\iy g/\s.of.length<1000/\
 ∀os' H',(∀x∈os',x∈os\/H x=none)->(∀x∈os,x∈os')->(∀b u,b∉os->H b=some u->H' b=some u)->ap (os'++Z) H'->gU C H' (os'++Z) a os' (cD s n g)->Q .aq H'
section
variable {K:PySem.W.Frag}{G:Hp}{σ:St}{ty:TE}{i:Nat}{a C dx sa:Addr}{fs:List (Str×V)}{oS:Obj}{sh:List (Str×Nat)}{n:Str}
def gz(T:dk K C)(n:bO K C x)(e:σ[i]?=some (some (.ref a)))(b:G a=some (.ins C dx fs))(c:fs.lookup x=some v)(r:al G v d):ae (kz K (aY i) x) G σ d:=
 λM H s l Q k=>⟨.ref a,e,a,C,dx,fs,v,rfl,(aw<|s _ _ b).2,T,n,c,k v H (ab.refl _)<|r.mono s⟩
def kL(T:dk K C)(n:bO K C x)(e:σ[i]?=some (some (.ref a)))(c:G a=some (.ins C dx fs))(d:fs.lookup x=some (.ref b)):mv (kz K (aY i) x) G σ b:=
 λM H s l Q k=>⟨.ref a,e,a,C,dx,fs,.ref b,rfl,(aw<|s _ _ c).2,T,n,d,k H<|ab.refl _⟩
theorem wJ:∀(sh:List (Str×Nat)) (n:Str),(bm (fH sh) (Sum.inr n)).isSome=decide (n∈sh.map (·.1))
 |[],n=>rfl
 |p::r,n=>by
  show (bm ((Sum.inr p.1,V.int (p.2:Nat))::fH r)<|Sum.inr n).isSome=_
  by_cases e:p.1=n
  .subst e
   rw [fY rfl]
   simp
  .have b:¬(Sum.inr p.1:aJ)=Sum.inr n:=λz=>e (PY z)
   have c:¬n=p.1:=λz=>e z.symm
   rw [fW (by exact b),wJ r n]
   simp [c]
def Fe (T:dk K C)(f:bO K C "shared")(e:σ[i]?=some (some (.ref a)))(g:G a=some (.ins C dx fs))(j:fs.lookup ("shared":Str)=some (.ref sa))(m:G sa=some (.cL oS (.dK (fH sh))))(h:ae ty G σ (.str n)):bJ (tB (oJ ty (kz K (aY i) "shared"))) G σ (decide (n∈sh.map (·.1))):=λM H s l Q k=>h M H s l _ λv o b p=>by
 have q:=b _ _ (aw<|s _ _ g).2
 have c:=b _ _ (aw<|s _ _ m).2
 refine ⟨.ref a,e,a,C,dx,fs,.ref sa,rfl,q,T,f,j,sa,bm (fH sh)<|Sum.inr n,rfl,.inl ⟨fH sh,Sum.inr n,.inr ⟨oS,c⟩,(fC (d:=.str n) rfl p).2,rfl⟩,_,rfl,?_⟩
 rw [wJ]
 exact k o b
def F4 (T:dk K C)(f:bO K C "shared")(e:σ[i]?=some (some (.ref a)))(g:G a=some (.ins C dx fs))(j:fs.lookup ("shared":Str)=some (.ref sa))(m:G sa=some (.cL oS (.dK (fH sh))))(h:ae ty G σ (.str n)):bJ (tB (nz ty (kz K (aY i) "shared"))) G σ (!decide (n∈sh.map (·.1))):=λM H s l Q k=>h M H s l _ λv o b p=>by
 have q:=b _ _ (aw<|s _ _ g).2
 have c:=b _ _ (aw<|s _ _ m).2
 refine ⟨.ref a,e,a,C,dx,fs,.ref sa,rfl,q,T,f,j,sa,bm (fH sh)<|Sum.inr n,rfl,.inl ⟨fH sh,Sum.inr n,.inr ⟨oS,c⟩,(fC (d:=.str n) rfl p).2,rfl⟩,_,rfl,?_⟩
 rw [wJ]
 exact k o b
end
theorem wD:∀(L:List (D×D)) (F G:aP),fz F L=some G->(∀t∈F,t.2.sc=true)->(∀p∈L,p.2.sc=true)->∀t∈G,t.2.sc=true
 |[],F,G,h,a,_=>by
  have:F=G:=LB h
  rw [<-this];exact a
 |p::r,F,G,h,a,b=>by
  have h:(fL F p.1 p.2).bind (λf=>fz f r)=some G:=h
  unfold fL at h
  have c:∀q∈r,q.2.sc=true:=λq g=>b q<|Lg _ g
  by_cases e:(aH p.1&& !eM F p.1)=true
  .rw [Lv e] at h
   exact wD r _ G h (xc a<|b p Lj) c
  .rw [Lq e] at h
   by_cases d:bY F p.1=p.2
   .rw [Lv d] at h
    exact wD r F G h a c
   .rw [Lq d] at h;cases h
def B6{st:aP}(h:bC A g S=some st)(a:∀t∈S,t.2.sc=true)(b:bW g):∀t∈st,t.2.sc=true:=by
 unfold bC at h
 by_cases z:A.headD .aq=g.headD .aq/\A.length=g.length
 .rw [Lv z] at h
  exact wD _ S st h a λp c=>b _ (OQ c).2
 .rw [Lq z] at h;cases h
def yU{st:aP}(h:bC A g []=some st):st.length<=A.length:=by
 obtain ⟨U,_,rfl,_⟩:=ip (V:=λ_=>.aq) (B:=[]) eB h
 unfold au
 rw [Ll]
 have:=jS A []
 rw [Nq] at this
 omega
def iS (st:aP):List (D×D):=st.map λq=>(.str q.1,q.2)
def Bh (st:aP):(iS st).map (λq=>D.tup [q.1,q.2])=pairD st:=by
 unfold iS pairD
 rw [Mb]
 rfl
def IZ (st:aP)(a:ZY):((iS st).filter λq=>decide (q.1.name∈a)).map (λq=>q.2)=dm a st:=by
 unfold iS dm
 rw [Nb,Mb]
 rfl
def Ih (st:aP)(a:ZY):((iS st).filter λq=> !decide (q.1.name∈a)).map (λq=>D.tup [q.1,q.2])=pairD (restOf a st):=by
 unfold iS restOf pairD
 rw [Nb,Mb]
 rfl
def Hf {st:aP}(h:∀t∈st,t.2.sc=true)(b:ZY):bW (dm b st):=λx a=>by
 unfold dm at a
 obtain ⟨t,c,rfl⟩:=LG.mp a
 exact h t (Ly.mp c).1
end FL
namespace FL
open PySem L2
def Cn (p:Str×D):D:=.tup [.str p.1,p.2]
def ee (S:aP)(is:List Nat):aP:=is.map λi=>S.getD i (("":Str),.aq)
def eV (S:aP)(gs:List (List D×List Nat)):Bool:=gs.all λg=>holdsA (g.1.map (bY (ee S g.2)))
def t5 (n:Nat)(g:List D×List Nat):Prop:=(∃r a b,g.1=[.str r,a,b]/\a.sc=true/\b.sc=true/\aH (.str r)=false)/\(∀i∈g.2,i<n)/\g.2.length<=100
def vG (C:Addr):Sp:=λvs H Q _=>∃M st S v0 v1,vs=[v0,v1]/\ap M H/\kb C (but H M) v0 st/\al (but H M) v1 (.lst (pairD S))/\(∀p∈S,p.2.sc=true/\aH (.str p.1)=true)/\(∀g∈st.gs,t5 S.length g)/\∀H',ab H H'->Q (.bl (eV S st.gs)) H'
def yA {S:aP}{is:List Nat}(h:∀p∈S,p.2.sc=true/\aH (.str p.1)=true)(a:∀i∈is,i<S.length):∀p∈ee S is,p.2.sc=true/\aH (.str p.1)=true:=λp b=>by
 obtain ⟨i,c,rfl⟩:=LG.mp b
 have:=a i c
 rw [List.getD,Lk this]
 exact h _<|NE this
def cQ (w:aF):D:=.tup [.lst (pairD w.1),.tup (w.2.map λn=>D.int (n:Nat))]
def fG (S:aP)(is:List Nat):List D:=(ee S is).map (·.2)
def jb (ps:aP):Prop:=∀p∈ps,p.2.sc=true/\aH (.str p.1)=true
def gi (st:bg):List Nat:=st.shared.map (·.2)
structure j8 (n:Nat)(st:bg):Prop where
 sh:∀i∈gi st,i<n
 shl:st.shared.length<=100
 of:∀o∈st.of,jb o.2.2/\o.2.2.length<=100/\∀g∈st.gs,t5 (n+o.2.2.length) g
 wX:st.of.length<=900
abbrev fk (w:aF)(o:dg):aF:=(w.1++o.2.2,w.2++[o.2.1])
def fresh (lo:Int)(o:dg):Bool:=decide (lo<=((o.2.1:Nat):Int))
def ff (st:bg)(w:aF)(lo:Int):List aF:=(((eJ st.of (fG w.1 (gi st))).reverse.takeWhile (fresh lo)).map (fk w)).filter λx=>eV x.1 st.gs
def vY (C:Addr):Sp:=λvs H Q _=>∃M st w0 lo v0 v1,vs=[v0,v1,.int lo]/\ap M H/\kb C (but H M) v0 st/\al (but H M) v1 (cQ w0)/\jb w0.1/\w0.1.length<=500/\w0.2.length<=500/\j8 w0.1.length st/\∀v H',ab H H'->al (but H' M) v (.lst ((ff st w0 lo).map cQ))->Q v H'
def Fq{is:List Nat}(a:jb S)(b:∀i∈is,i<S.length):bW (fG S is):=λx c=>by
 obtain ⟨p,d,rfl⟩:=LG.mp c
 exact (yA a b p d).1
theorem zF{p:a->Bool}:∀{l:List a} {j:Nat} {y:a},(∀x∈l.take j,p x=true)->l[j]?=some y->p y=false->l.takeWhile p=l.take j
 |[],j,y,_,h,_=>by simp at h
 |x::r,0,y,_,h,b=>by
  simp at h
  subst h
  rw [Nx,b];simp
 |x::r,j+1,y,c,h,b=>by
  have d:p x=true:=c x Z8
  rw [Nx,d]
  show x::r.takeWhile p=x::r.take j
  rw [zF (l:=r) (j:=j) (λz e=>c z (by simp [e])) (by simpa using h) b]
theorem oO{p:a->Bool}:∀{l:List a},(∀x∈l,p x=true)->l.takeWhile p=l
 |[],_=>rfl
 |x::r,b=>by
  rw [Nx,b x Z8]
  show x::r.takeWhile p=_
  rw [oO λz c=>b z (by simp [c])]
section
variable {K:PySem.W.Frag}{G:Hp}{σ:St}{ty:TE}{i:Nat}{a C dx:Addr}{fs:List (Str×V)}{ao:Addr}{of:List dg}{key:List D}
def GC (T:dk K C)(n:bO K C "offers")(e:σ[i]?=some (some (.ref a)))(u:G a=some (.ins C dx fs))(w:fs.lookup ("offers":Str)=some (V.ref ao))(x:nY G ao of)(m:bW key)(h:ae ty G σ (.tup key)):
  ae (px (kz K (aY i) "offers") ty (jG bB)) G σ (.lst (hU of key)):=λM H s l Q k=>by
 obtain ⟨d,y,E,p⟩:=x
 have z:=(aw<|s _ _ u).2
 have q:=(aw<|s _ _ y).2
 refine ⟨.ref a,e,a,C,dx,fs,.ref ao,rfl,z,T,n,w,ao,rfl,.inr ⟨d,.inl q⟩,h M H s l _ λI J f A=>⟨LP _,λL g=>?_⟩⟩
 obtain ⟨b,N,rfl,B,o⟩:=A.eP
 have j:=(aw B).2
 rw [mj m o] at j
 have c:=c8 g (.lst [])
 have dr:=c _ _<|f _ _ q
 refine ⟨bm d<|bT key,cT.t dr<|c _ _ j,?_⟩
 cases r:bm d (bT key) with
 |none=>
  have:hU of key=[]:=by unfold hU;rw [(p key m).1 r];rfl
  rw [this] at k
  exact k _ _ (f.trans c)<|mV (l.same f) g .nil
 |some v=>exact k _ _ (f.trans c)<|((p key m).2 v r).mono<|s.trans<|(f.trans c).but M
def JJ {st:bg}{S:aP}{j:Nat}(e:σ[i]?=some (some (.ref a)))(hst:kb C G (.ref a) st)(hS:jb S)(hg:∀g∈st.gs,t5 S.length g)(h:ae (aY j) G σ (.lst (pairD S))):
  bJ (tB (kj C "allows" (vG C) [] L2.E0 (aY i) (bn (aY j) bB))) G σ (eV S st.gs):=λM H s l Q k=>by
 obtain ⟨a',dx',v0,sa,v2,ao',oS,e1,g1,g2,g3,g4,g5⟩:=id hst
 cases e1
 refine ⟨.ref a,e,a,dx',_,rfl,(aw (s _ _ g1)).2,rfl,h M H s l _ λv H1 s1 r1=>?_⟩
 exact ⟨M,st,S,.ref a,v,rfl,l.same s1,hst.mono (s.trans (s1.but M)),r1,hS,hg,λH2 s2=>⟨_,rfl,k H2 (s1.trans s2)⟩⟩
end
end FL
namespace FL
open PySem L2
def wY {a:List (aJ×V)}{k:aJ}{v:V}(h:bm a k=none):ca a k v=a++[(k,v)]:=by
 unfold ca
 rw [jI,h]
 rfl
theorem zY:∀(b:aP) (a:List (aJ×V)),(b.map (·.1)).Nodup->(∀p∈b,bm a (Sum.inr p.1)=none)->cb a (bK b)=a++bK b
 |[],a,_,_=>by rw [show bK []=[] from rfl,LV];rfl
 |p::r,a,c,d=>by
  rw [Me,Np] at c
  show cb (ca a (Sum.inr p.1) p.2.toV) (bK r)=_
  rw [wY<|d p Z8,zY r _ c.2 ?_,Mm]
  .rfl
  .intro x e
   have f:¬(Sum.inr x.1:aJ)=Sum.inr p.1:=λz=>c.1 (by rw [<-PY z];exact LG.mpr ⟨x,e,rfl⟩)
   rw [<-wY (d p Z8),uc,Lq f]
   exact d x (by simp [e])
section
variable {σ:St}{δ:Dn}{M:List Addr}{H:Hp}{te:TE}{E:Ends}{K:PySem.W.Frag}
def Ko(l:ap M H)(n:ax (but H M) σ δ)(B:i<δ.length)(h:ae te (but H M) σ (.lst (pairD ps)))(s:∀p∈ps,p.2.sc=true)(t:(ps.map (·.1)).Nodup)
  (k:∀p o b d,(∀j:Nat,j≠i->b[j]?=σ[j]?)->b[i]?=some (some (.ref p))->H p=none->p∉M->d p=some (.cL o (.dK (bK ps)))->ab H d->ap M d->ax (but d M) b (δ.set i none)->E.nx b d):
  dZ (yb (cI (λw H Q=>∃a g e,w=[.ref a]/\aQ K H a g/\Pairs K H g e/\∀p,H p=none->Q (.ref p) (upd H p (.dK (cb [] e)))) (bn te bB))) (cf i) E σ H:=
 h M H (ab.refl _) l _ λv r f x=>by
  obtain ⟨a,g,rfl,y,z⟩:=x.dI
  refine ⟨a,g,bK ps,rfl,aQ.of (aw y).2,rp s z,λp c=>⟨p,_,rfl,aN,λo=>?_⟩⟩
  rw [kB,zY ps [] t λp _=>rfl,NM]
  have C:=n.len
  have m:ab r (upd r p (.cL o (.dK<|bK ps))):=c8 c _
  refine k p o _ _ (λj A=>Lm<|Ml A) (Lx Z4) ?_ ((l.same f).fresh c) aN (f.trans m) ((l.same f).same m)<|(n.same<|f.trans m).off i _
  cases q:H p with
  |none=>rfl
  |some u=>rw [f _ _ q] at c;cases c
end
theorem vQ{H:Hp}:∀{os:ZX},(∀x∈os,∃o,H x=some o/\Seen o=false)->al (but H M) v d->al (but H (os++M)) v d
 |[],_,r=>r
 |x::os,h,r=>by
  obtain ⟨o,a,b⟩:=h x Z8
  exact al.eW (M:=os++M) a b<|vQ (λy c=>h y (by simp [c])) r
structure pz (C:Addr)(G:Hp)(us:List V)(ss:List bg):Prop where
 len:us.length=ss.length
 get:∀(j:Nat) s,ss[j]?=some s->∃v,us[j]?=some v/\kb C G v s
theorem pz.mono(h:pz C G d f)(e:ab G c):pz C c d f:=⟨h.len,λj s q=>let ⟨v,a,b⟩:=h.get j s q;⟨v,a,b.mono e⟩⟩
structure d6 (C:Addr)(H:Hp)(Z:List Addr)(us:List V)(oss:List (List Addr))(ss:List bg):Prop where
 l1:us.length=ss.length
 l2:oss.length=ss.length
 get:∀(j:Nat) s,ss[j]?=some s->∃a os,us[j]?=some (.ref a)/\oss[j]?=some os/\gU C H Z a os s/\∀x∈os,x∈Z
 apart:∀(i j:Nat) oi oj,i≠j->oss[i]?=some oi->oss[j]?=some oj->∀x∈oi,x∉oj
theorem d6.mono(h:d6 C H Z d b f)(e:ab H c):d6 C c Z d b f:=⟨h.l1,h.l2,λj s q=>let ⟨a,os,g,i,k,l⟩:=h.get j s q;⟨a,os,g,i,k.mono e,l⟩,h.apart⟩
theorem d6.rep{M:ZX}(h:d6 C H Z c b d)(e:∀x∈M,x∈Z)(f:∀os∈b,∀x∈os,x∉M):pz C (but H M) c d:=⟨h.l1,λj s q=>by
 obtain ⟨a,os,g,i,k,l⟩:=h.get j s q
 exact ⟨_,g,k.rep e<|f os<|Lp i⟩⟩
theorem d6.frame{d:Hp}{Z':ZX}(h:d6 C H Z g c i)(l:∀x∈Z,x∈Z')(k:∀b u,(∃os∈c,b∈os)->H b=some u->d b=some u)(S:ab (but H Z) (but d Z')):d6 C d Z' g c i:=⟨h.l1,h.l2,λj s q=>by
 obtain ⟨a,os,n,m,o,e⟩:=h.get j s q
 exact ⟨a,os,n,m,o.frame e (λx f=>l x<|e x f) (λb u p=>k b u ⟨os,Lp m,p⟩) S,λx f=>l x<|e x f⟩,h.apart⟩
def d6.A9{d:Hp}{e:ZX}(h:d6 C H Z g c i)(l:∀os∈c,∀x∈os,x∈e)(k:∀b u,(∃os∈c,b∈os)->H b=some u->d b=some u)(S:ab (but H Z) (but d e)):d6 C d e g c i:=⟨h.l1,h.l2,λj s q=>by
 obtain ⟨a,os,n,m,o,p⟩:=h.get j s q
 have f:=Lp m
 exact ⟨a,os,n,m,o.frame p (l os f) (λb u r=>k b u ⟨os,f,r⟩) S,l os f⟩,h.apart⟩
theorem eF.eW(h:eF H Z p c e)(i:H x=some o)(j:Seen o=false):eF H (x::Z) p c e:=by
 obtain ⟨d,k,m,n,f,q⟩:=h.kvs
 refine ⟨⟨d,k,m,n,λb g=>⟨(f b g).1,λv r=>?_⟩,q⟩,h.lists,h.apart⟩
 obtain ⟨l,s,t,u,w,y⟩:=(f b g).2 v r
 refine ⟨l,s,t,u,w,?_⟩
 have A:=az.eW i j y
 rwa [jv (M':=c++p::x::Z) λa=>by
  simp only [Lw,LI]
  constructor
  .rintro (z|z|z|z)
   .exact .inr (.inr (.inl z))
   .exact .inl z
   .exact .inr (.inl z)
   .exact .inr (.inr (.inr z))
  .rintro (z|z|z|z)
   .exact .inr (.inl z)
   .exact .inr (.inr (.inl z))
   .exact .inl z
   .exact .inr (.inr (.inr z))] at A
theorem d6.eW(h:d6 C H Z g b i)(d:H x=some (.ins k c l))(e:Seen (.ins k c l)=false):d6 C H (x::Z) g b i:=⟨h.l1,h.l2,λj s q=>by
 obtain ⟨a,os,n,o,p,r⟩:=h.get j s q
 refine ⟨a,os,n,o,?_,λy t=>Lg _<|r y t⟩
 obtain ⟨u,v,m,w,A,B,E,G,I,J,L,M,N⟩:=p.at_
 refine ⟨⟨u,v,m,w,A,B,E,G,I,al.eW d e J,?_,al.eW d e M,N.eW d e⟩⟩
 obtain ⟨O,f⟩:=aw L
 have Q:m≠x:=λz=>by rw [z,d] at f;cases f
 rw [bf (by simp only [Lw,Qh];exact ⟨Q,O⟩)]
 exact f,h.apart⟩
def d6.put{G:Hp}{j:Nat}{os c:ZX}(h:d6 C H Z I f y)(l:ap Z H)(Y:y[j]?=some s)(ha:I[j]?=some (.ref a))(J:f[j]?=some os)
  (n:∀x∈c,x∈os\/H x=none) (k:∀b u,b∉os->H b=some u->G b=some u) (L:∀x∈os,x∈Z) (A:gU C G (c++Z) a c Q):d6 C G (c++Z) I (f.set j c) (y.set j Q):=by
 have S:=xg n L k
 have M:=(Li.mp Y).1
 have ac:=h.l2
 have o:j<f.length:=by omega
 refine ⟨by rw [MU];exact h.l1,by rw [MU,MU];exact h.l2,λi t q=>?_,λi m T r g v p x d=>?_⟩
 .by_cases e:j=i
  .subst e
   rw [Lx M] at q
   cases q
   exact ⟨a,c,ha,Lx o,A,λx d=>Lu _ d⟩
  .rw [Lm e] at q
   obtain ⟨a2,N,h1,B,h3,E⟩:=h.get i t q
   refine ⟨a2,N,h1,by rw [Lm e];exact B,h3.frame E (λx d=>Lr _<|E x d) (λb u hb=>k b u λz=>h.apart j i os N e J B b z hb) S,λx d=>Lr _<|E x d⟩
 .have fu:∀{m:Nat} {r:ZX} {x:Addr},f[m]?=some r->x∈r->x∈Z:=λ{m r x} q d=>by
   have hm:=(Li.mp q).1
   have O:m<y.length:=by omega
   obtain ⟨_,N,_,B,_,E⟩:=h.get m y[m]<|Lk O
   rw [q] at B
   cases B
   exact E x d
  by_cases e:j=i
  .subst e
   rw [Lx o] at v
   cases v
   rw [Lm g] at p
   rcases n x d with z|z
   .exact h.apart j m os r g J p x z
   .intro w
    exact l x (fu p w) z
  .rw [Lm e] at v
   by_cases U:j=m
   .subst U
    rw [Lx o] at p
    cases p
    intro w
    rcases n x w with z|z
    .exact h.apart i j T os g v J x d z
    .exact l x (fu v d) z
   .rw [Lm U] at p
    exact h.apart i m T r g v p x d
def oW (C:Addr)(G:Hp)(v:V)(os:List Addr)(s:bg):Prop:=∃a dx v0 sa v2 ao oS,v=.ref a/\os=[a,ao]/\G a=some (.ins C dx (iY v0 sa v2 ao s.newest))/\al G v0 (.tup s.cB)/\G sa=some (.cL oS (.dK (fH s.shared)))/\al G v2 (.lst (s.gs.map k9))/\G ao=some (.dT [])/\s.of=[]
theorem oW.mono{os:ZX}(e:ab G b)(h:oW C G v os s):oW C b v os s:=by
 obtain ⟨a,c,d,f,g,i,j,k,l,m,n,o,p,q,r⟩:=h
 exact ⟨a,c,d,f,g,i,j,k,l,e _ _ m,n.mono e,e _ _ o,p.mono e,e _ _ q,r⟩
structure ge (C:Addr)(G:Hp)(us:List V)(oss:List (List Addr))(ss:List bg):Prop where
 l1:us.length=ss.length
 l2:oss.length=ss.length
 get:∀(j:Nat) s,ss[j]?=some s->∃v os,us[j]?=some v/\oss[j]?=some os/\oW C G v os s
 apart:∀(i j:Nat) oi oj,i≠j->oss[i]?=some oi->oss[j]?=some oj->∀x∈oi,x∉oj
def ge.nil:ge C G [] [] []:=⟨rfl,rfl,λj s q=>by simp at q,λi j a b _ q=>by simp at q⟩
theorem ge.mono(h:ge C G c a d)(e:ab G b):ge C b c a d:=⟨h.l1,h.l2,λj s q=>let ⟨v,os,f,g,i⟩:=h.get j s q;⟨v,os,f,g,i.mono e⟩,h.apart⟩
def ge.seen(h:ge C G i b c){j:Nat}{os:ZX}(e:b[j]?=some os):∀x∈os,∃o,G x=some o/\Seen o=false:=λx f=>by
 have p:=(Li.mp e).1
 have q:=h.l2
 have d:j<c.length:=by omega
 obtain ⟨v,r,_,g,a,s,t,u,w,k,y,A,l,m,B,E,H,n,I⟩:=h.get j c[j]<|Lk d
 rw [e] at g
 cases g
 rw [l] at f
 rcases Lw.mp f with z|z
 .rw [z];exact ⟨_,m,rfl⟩
 .have:x=k:=by simpa using z
  rw [this];exact ⟨_,n,rfl⟩
def ge.snoc{os:ZX}(h:ge C G u c A)(J:oW C G v os s)(B:∀o∈c,∀x∈o,x∉os):ge C G (u++[v]) (c++[os]) (A++[s]):=by
 have f:=h.l1
 have g:=h.l2
 have a:∀{p:Type} {l:List p} {x y:p} {j:Nat},(l++[x])[j]?=some y->(j<l.length/\l[j]?=some y)\/(j=l.length/\y=x):=λ{p l x y j} q=>by
  by_cases r:j<l.length
  .rw [LO r] at q;exact .inl ⟨r,q⟩
  .rw [LQ<|L8 r] at q
   have:j-l.length=0:=by
    have:=(Li.mp q).1
    simp at this
    exact this
   rw [this] at q
   exact .inr ⟨by omega,by simpa using q.symm⟩
 refine ⟨by simp [f],by simp [g],λj t q=>?_,λi j E H k L I x m=>?_⟩
 .rcases a q with ⟨d,b⟩|⟨d,b⟩
  .obtain ⟨w,M,N,O,Q⟩:=h.get j t b
   exact ⟨w,M,by rw [LO Z4];exact N,by rw [LO Z4];exact O,Q⟩
  .subst b
   refine ⟨v,os,?_,?_,J⟩
   .rw [d,<-f,LQ<|Lo _];simp
   .rw [d,<-g,LQ<|Lo _];simp
 .rcases a L with ⟨d,b⟩|⟨d,b⟩
  .rcases a I with ⟨n,e⟩|⟨n,e⟩
   .exact h.apart i j E H k b e x m
   .rw [e];exact B E (Lp b) x m
  .rcases a I with ⟨n,e⟩|⟨n,e⟩
   .rw [b] at m
    exact λz=>B H (Lp e) x z m
   .exact absurd (d.trans n.symm) k
def ge.own(h:ge C (but H M) y b g):d6 C H (b.flatten++M) y b g:=by
 have c:∀x∈b.flatten,∃o,H x=some o/\Seen o=false:=λx e=>by
  obtain ⟨os,G,e⟩:=Mc.mp e
  obtain ⟨j,I⟩:=Mf.mp G
  obtain ⟨o,m,k⟩:=h.seen I x e
  exact ⟨o,(aw m).2,k⟩
 refine ⟨h.l1,h.l2,λj s q=>?_,h.apart⟩
 obtain ⟨v,os,m,k,a,J,L,A,N,O,Q,rfl,T,U,Y,q5,q6,q7,q8⟩:=h.get j s q
 have n:∀x∈os,x∈b.flatten++M:=λx e=>Lu _<|Mc.mpr ⟨os,Lp k,e⟩
 refine ⟨a,os,m,k,⟨⟨J,L,A,N,O,[],Q,T,(aw U).2,vQ c Y,?_,vQ c q6,?_⟩⟩,n⟩
 .obtain ⟨r1,d⟩:=aw q5
  rw [bf]
  .exact d
  .intro z
   rcases LI.mp z with z|z
   .obtain ⟨ac,p,f⟩:=Mc.mp z
    obtain ⟨i,B⟩:=Mf.mp p
    have r:i<g.length:=by have:=(Li.mp B).1;have:=h.l2;omega
    obtain ⟨v',o2,_,E,a',af,aj,am,an,t,as,e1,e2,e3,e4,e5,e6,e7,e8⟩:=h.get i g[i]<|Lk r
    rw [B] at E
    cases E
    rw [e2] at f
    rcases Lw.mp f with w|w
    .rw [w] at d;rw [(aw e3).2] at d;cases d
    .have w:A=t:=by simpa using w
     rw [w,(aw e7).2] at d;cases d
   .exact r1 z
 .rw [q8]
  exact ⟨⟨[],(aw q7).2,Lo _,⟨λ_=>rfl,λ_=>rfl⟩,λa0 hk=>⟨λ_=>rfl,λv u=>by simp [bm] at u⟩,λ_ _ _ _ _ u=>by simp [bm] at u⟩,(λl hl=>nomatch hl),(λz=>nomatch z)⟩
def jc (a:List D)(B:List Str):List (Str×Nat):=((ai [] a).filter λb=>decide (b∈B)).map λb=>(b,B.idxOf b)
def mW (a:List D)(B:List Str)(W:List (List D)):bg:=⟨a,jc a B,(W.filter λg=>cm g (ai B a)).map λg=>(g,cV g (ai B a)),[],-1⟩
def cF:List (List D)->List Str->List (List D)->List bg
 |[],_,_=>[]
 |a::r,B,W=>mW a B W::cF r (ai B a) (W.filter λg=> !cm g (ai B a))
def Ks (B:ZY)(n:Str)(h:n∉B):ca (dJ B) (Sum.inr n) (V.int (B.length:Nat))=dJ (B++[n]):=by
 have a:=slot_get B n
 rw [Lq h] at a
 unfold ca
 rw [jI,a]
 show dJ B++_=_
 unfold dJ
 rw [List.zipIdx_append,LU,N0]
 rfl
def zu (B:ZY):(dJ B).length=B.length:=by unfold dJ;rw [Ll,Ph]
def IY{E:Ends}{i:Nat}(l:ap M H)(y:ax (but H M) f w)(s:p∈M)(e:f[i]?=some (some (.ref p)))(t:H p=some (.dK (dJ B)))(z:B.length<sizeLine)(h:ae x (but H M) f (.str n))
  (k:∀g,(∀b o,b≠p->H b=some o->g b=some o)->ap M g->g p=some (.dK (dJ (if n∈B then B else B++[n])))->ax (but g M) f w->E.nx f g):j6 (vw (aY i) x (cI pS (bn (aY i) bB))) E f H:=by
 refine ⟨.ref p,e,p,rfl,.inl ⟨_,.inl t⟩,h M H (ab.refl _) l _ λv m c A=>⟨.ref p,e,.inl ⟨p,dJ B,rfl,.inl<|c _ _ t,?_⟩⟩⟩
 have a:=c _ _ t
 have u:=(fC (d:=.str n) rfl A).2
 have r:=slot_get B n
 by_cases j:n∈B
 .rw [Lv j] at r
  refine ⟨_,m,.inl ⟨by rw [u,<-r];exact cT.k a,rfl,_,a⟩,k m (λb o _ q=>c _ _ q) (l.same c) (by rw [Lv j];exact a)<|y.same c⟩
 .rw [Lq j] at r
  refine ⟨_,_,.inr ⟨by rw [u,<-r];exact cT.k a,rfl,by rw [u];exact gu.k (k:=Sum.inr n) a (by rw [zu];exact z)⟩,?_⟩
  have C:but (upd m p (.dK<|ca (dJ B) (Sum.inr n) (.int ((dJ B).length:Nat)))) M=but m M:=dw s
  refine k _ (λb o G q=>by rw [aA G];exact c _ _ q) (l.same c).upd ?_ (by rw [C];exact y.same c)
  rw [aN,zu,Ks B n j,Lq j]
section
variable {H:Hp}{M:List Addr}{b p:Addr}{σ:St}{δ:Dn}{kvs:List (aJ×V)}
def uu:ab (but H (b::p::M)) (but H (b::M)):=dR λx a=>by
 rcases Lw.mp a with z|z
 .rw [z];exact Lj
 .exact Lg _<|Lg _ z
def Hd:ab (but H (p::b::M)) (but H (b::p::M)):=dR λx a=>by
 rcases Lw.mp a with z|z
 .rw [z];exact Lg _ Lj
 .rcases Lw.mp z with z|z
  .rw [z];exact Lj
  .exact Lg _<|Lg _ z
def zJ (h:ax (but H (b::M)) σ δ)(a:H p=some (.dK kvs)):ax (but H (b::p::M)) σ δ:=(h.eW a rfl).mono Hd
end
def DN{a L:ZY}{k:Nat}(f:L.Nodup)(h:L[k]?=some n):(if n∈a++(L.take k).filter (λx=> !decide (x∈a)) then a++(L.take k).filter (λx=> !decide (x∈a)) else a++(L.take k).filter (λx=> !decide (x∈a))++[n])=a++(L.take (k+1)).filter (λx=> !decide (x∈a)):=by
 have d:n∉L.take k:=λz=>by
  obtain ⟨i,e⟩:=Mf.mp z
  have b:i<k:=by
   have:=(Li.mp e).1
   rw [L9] at this
   omega
  rw [N7 b] at e
  exact LY b<|AS f e h
 rw [L0,h,MD]
 by_cases c:n∈a
 .rw [Lv<|Lu _ c]
  simp [c]
 .rw [Lq (by
   intro z
   rcases LI.mp z with z|z
   .exact c z
   .exact d (Ly.mp z).1),Mm]
  simp [c]
def c6 (g:List D):Bool:= !((ai [] g).map D.str).isEmpty
def oR (as:List (List D)):Prop:=(∀a∈as,dz a)/\as.length<=100
def eG (as:List (List D)):List bg:=cF (as.filter λa=> !aK a) [] ((as.filter aK).filter c6)
def yV (C:Addr):Sp:=λvs H Q _=>∃M as v0,vs=[v0]/\ap M H/\al (but H M) v0 (cq as)/\oR as/\
 ∀p us oss H',ab H H'->but H' M p=some (.lst us)->ge C (but H' M) us oss (eG as)->(∀os∈oss,∀x∈os,H x=none)->H p=none->Q (.ref p) H'
def qg (q:D->Bool)(r:ZZ->Bool)(F:D->D)(c:ZZ->D)(b:ZW)(h:∀a∈b,q (.tup a)=r a)(d:∀a∈b,F (.tup a)=c a):((b.map D.tup).filter q).map F=(b.filter r).map c:=by
 rw [Nb,Mb]
 have e:b.filter (q∘D.tup)=b.filter r:=M1 h
 rw [e]
 exact LW λa f=>d a (Ly.mp f).1
def rE (r:List D->Bool):D->Bool
 |.tup a=>r a
 |_=>false
def Bb (r:List D->D):D->D
 |.tup a=>r a
 |_=>.aq
end FL
namespace FL
open PySem L2
structure bN where
 steps:List bg
 fo:Bool
 taken:Nat
 fresh:Nat
 last:Int
abbrev iE (sl:Addr)(b:Bool)(t f l:Int):List (Str×V):=[("steps",.ref sl),("is_barred",.bl b),("taken_in",.int t),("fresh",.int f),("last_fresh_step",.int l)]
structure kU (K:PySem.W.Frag)(C:Addr):Prop where
 cl:dk K C
 nS:bO K C "steps"
 nB:bO K C "is_barred"
 nT:bO K C "taken_in"
 nF:bO K C "fresh"
 nL:bO K C "last_fresh_step"
def gI (C CL:Addr)(H:Hp)(Z:List Addr)(a:Addr)(oss:List (List Addr))(lm:bN):Prop:=∃dx sl us,H a=some (.ins CL dx (iE sl lm.fo lm.taken lm.fresh lm.last))/\but H Z sl=some (.lst us)/\d6 C H Z us oss lm.steps/\a∈Z/\∀os∈oss,a∉os
def iJ (C CL:Addr)(G:Hp)(v:V)(lm:bN):Prop:=∃a dx sl us,v=.ref a/\G a=some (.ins CL dx (iE sl lm.fo lm.taken lm.fresh lm.last))/\G sl=some (.lst us)/\pz C G us lm.steps
theorem iJ.mono(h:iJ C b G v d)(e:ab G c):iJ C b c v d:=by
 obtain ⟨a,f,g,i,j,k,l,m⟩:=h
 exact ⟨a,f,g,i,j,e _ _ k,e _ _ l,m.mono e⟩
theorem gI.rep{M:ZX}(h:gI C c H Z a b d)(e:∀x∈M,x∈Z)(f:a∉M)(g:∀os∈b,∀x∈os,x∉M):iJ C c (but H M) (.ref a) d:=by
 obtain ⟨i,j,k,l,m,n,o,p⟩:=h
 exact ⟨a,i,j,k,rfl,by rw [bf f];exact l,(dR e) _ _ m,n.rep e g⟩
def lj (as:List (List D)):Bool:= !((as.filter aK).filter λg=> !c6 g).all holdsA
def bL (as:List (List D)):bN:=⟨eG as,lj as,0,0,-1⟩
def rM (as:List (List D)):Prop:=∀g∈as,aK g=true->∃r a b,g=[.str r,a,b]
def vv (C CL:Addr):Sp:=λvs H Q _=>∃M as x dx v1,vs=[.ref x,v1]/\H x=some (.ins CL dx [])/\ap M H/\al (but H M) v1 (cq as)/\oR as/\rM as/\
 ∀oss H',(∀b u,b≠x->H b=some u->H' b=some u)->(∀os∈oss,∀y∈os,H y=none)->ap (oss.flatten++x::M) H'->gI C CL H' (oss.flatten++x::M) x oss (bL as)->Q .aq H'
def bX (s:bg)(n:Nat)(facts:List (List D)):bg:=(facts.zipIdx n).foldl (λs p=>cD s p.2 p.1) s
def IA {s:bg}{n j:Nat}{a:ZW}{g:ZZ}(h:a[j]?=some g):bX s n (a.take (j+1))=cD (bX s n (a.take j)) (n+j) g:=by
 have c:j<a.length:=(Li.mp h).1
 unfold bX
 rw [L0,h,List.zipIdx_append,MM]
 have b:(a.take j).length=j:=by rw [L9];omega
 rw [b]
 rfl
def GG (s:bg)(n:Nat)(g:ZZ):(cD s n g).of.length<=s.of.length+1:=by
 unfold cD
 split
 .simp
 .omega
def Ic (s:bg)(n:Nat)(g:ZZ):(cD s n g).cB=s.cB:=by
 unfold cD
 split<;>rfl
theorem uM (n:Nat)(s:bg):∀(l:List (ZZ×Nat)) (s:bg),((l.foldl (λs p=>cD s p.2 p.1) s).of.length<=s.of.length+l.length)/\(l.foldl (λs p=>cD s p.2 p.1) s).cB=s.cB
 |[],s=>⟨Lo _,rfl⟩
 |p::r,s=>by
  obtain ⟨b,a⟩:=uM n s r<|cD s p.2 p.1
  have c:=GG s p.2 p.1
  refine ⟨?_,?_⟩
  .show (r.foldl _<|cD s p.2 p.1).of.length<=_
   rw [Ma]
   omega
  .show (r.foldl _<|cD s p.2 p.1).cB=_
   rw [a,Ic]
def Ck (s:bg)(n:Nat)(a:ZW):(bX s n a).of.length<=s.of.length+a.length:=by
 have:=(uM n s (a.zipIdx n) s).1
 rw [Ph] at this
 exact this
def Jh (s:bg)(n:Nat)(a:ZW):(bX s n a).cB=s.cB:=(uM n s (a.zipIdx n) s).2
def jN (ss:List bg)(n:Nat):Int:=fX (((List.range ss.length).filter λj=>decide ((n:Int)<=(ss.getD j ⟨[],[],[],[],-1⟩).newest)).map λj=>((j:Nat):Int)) (-1)
def bR (lm:bN)(facts:List (List D)):bN:=⟨lm.steps.map λs=>bX s lm.taken facts,lm.fo,lm.taken+facts.length,lm.taken,jN (lm.steps.map λs=>bX s lm.taken facts) lm.taken⟩
def zO (C CL:Addr):Sp:=λvs H Q _=>∃Z oss lm facts a v1,vs=[.ref a,v1]/\ap Z H/\gI C CL H Z a oss lm/\al (but H Z) v1 (.lst (facts.map D.tup))/\(∀g∈facts,iy g)/\(∀s∈lm.steps,dz s.cB/\s.of.length+facts.length<1000)/\lm.steps.length<=100/\lm.taken+facts.length<2^60/\
 ∀oss' H',(∀os∈oss',∀x∈os,(∃o∈oss,x∈o)\/H x=none)->(∀b u,b≠a->(∀os∈oss,b∉os)->H b=some u->H' b=some u)->ap (oss'.flatten++Z) H'->gI C CL H' (oss'.flatten++Z) a oss' (bR lm facts)->Q .aq H'
structure iq (C:Addr)(us:List V)(H2:Hp)(Z2:List Addr)(oss:List (List Addr))(H':Hp)(Z':List Addr)(oss':List (List Addr))(ss':List bg):Prop where
 st:d6 C H' Z' us oss' ss'
 own:∀os∈oss',∀x∈os,(∃o∈oss,x∈o)\/H2 x=none
 keep:∀b u,(∀os∈oss,b∉os)->H2 b=some u->H' b=some u
 live:ap Z' H'
 sub:∀x∈Z2,x∈Z'
 sup:∀x∈Z',x∈Z2\/∃os∈oss',x∈os
section
variable {C:Addr}{us:List V}{H2 H' H'':Hp}{Z2 Z':List Addr}{oss oss':List (List Addr)}{ss':List bg}
def iq.same (h:iq C us H2 Z2 oss H' Z' oss' ss')(j:∀os∈oss,∀x∈os,x∈Z2):ab (but H2 Z2) (but H' Z'):=λb u e=>by
 obtain ⟨g,a⟩:=aw e
 have i:∀os∈oss,b∉os:=λos c z=>g<|j os c b z
 rw [bf]
 .exact h.keep b u i a
 .intro z
  rcases h.sup b z with w|⟨os,c,w⟩
  .exact g w
  .rcases h.own os c b w with ⟨o,d,f⟩|f
   .exact i o d f
   .rw [f] at a;cases a
theorem iq.mono (h:iq C us H2 Z2 oss H' Z' oss' ss')(e:ab H' H''):iq C us H2 Z2 oss H'' Z' oss' ss':=⟨h.st.mono e,h.own,λb u a q=>e _ _<|h.keep b u a q,h.live.same e,h.sub,h.sup⟩
theorem iq.put{j:Nat}{os c:ZX}(h:iq C us H2 Z2 oss H' Z' oss' ss')(G:ss'[j]?=some s)(H:us[j]?=some (.ref a))(m:oss'[j]?=some os)(r:∀x∈os,x∈Z')
  (n:∀x∈c,x∈os\/H' x=none) (t:∀x∈os,x∈c) (k:∀b u,b∉os->H' b=some u->H'' b=some u) (l:ap (c++Z') H'') (A:gU C H'' (c++Z') a c B):iq C us H2 Z2 oss H'' (c++Z') (oss'.set j c) (ss'.set j B):=by
 have p:j<oss'.length:=(Li.mp m).1
 have mem_set:∀{o:ZX},o∈oss'.set j c->o=c\/o∈oss':=λ{o} q=>by
  rcases Nl q with z|z
  .exact .inr z
  .exact .inl z
 have g:∀{x:Addr},H' x=none->(∃o∈oss,x∈o)\/H2 x=none:=λ{x} e=>by
  by_cases z:∃o∈oss,x∈o
  .exact .inl z
  .cases q:H2 x with
   |none=>exact .inr rfl
   |some u=>
    have:=h.keep x u (λo d f=>z ⟨o,d,f⟩) q
    rw [e] at this;cases this
 refine ⟨h.st.put h.live G H m n k r A,λo I x f=>?_,λb u E q=>?_,l,λx f=>Lr _<|h.sub x f,λx f=>?_⟩
 .rcases mem_set I with z|z
  .subst z
   rcases n x f with w|w
   .exact h.own os (Lp m) x w
   .exact g w
  .exact h.own o z x f
 .have v:=h.keep b u E q
  refine k b u (λz=>?_) v
  rcases h.own os (Lp m) b z with ⟨o,d,w⟩|w
  .exact E o d w
  .rw [q] at w;cases w
 .rcases LI.mp f with z|z
  .exact .inr ⟨c,Mf.mpr ⟨j,Lx p⟩,z⟩
  .rcases h.sup x z with w|⟨o,d,w⟩
   .exact .inl w
   .obtain ⟨i,y⟩:=Mf.mp d
    by_cases e:j=i
    .subst e
     rw [m] at y
     cases y
     exact .inr ⟨c,Mf.mpr ⟨j,Lx p⟩,t x w⟩
    .exact .inr ⟨o,Mf.mpr ⟨i,by rw [Lm e];exact y⟩,w⟩
end
end FL
namespace FL
open PySem L2
def d9 (lm:bN):List aF:=if (lm.fo||(decide (lm.last<0)&&decide ((0:Int)<lm.fresh)))=true then [] else if (lm.steps.all λs=>decide ((0:Int)<=s.newest))=true then [([],[])] else []
def gR (lm:bN)(w:aF):Int:=if (decide (((w.2.length:Nat):Int)=lm.last)&&decide (fX (w.2.map λn=>((n:Nat):Int)) (-1)<lm.fresh))=true then lm.fresh else 0
def cc (lm:bN)(w:aF):List aF:=match lm.steps[w.2.length]? with
 |some st=>ff st w (gR lm w)
 |none=>[]
def cE (lm:bN):Nat->aF->List aF
 |0,w=>[w]
 |n+1,w=>(cc lm w).reverse.flatMap (cE lm n)
def dD (lm:bN):Nat->aF->Nat
 |0,_=>1
 |n+1,w=>1+((cc lm w).map (dD lm n)).sum
def BZ (a:bN):∀(n:Nat) (w:aF),1<=dD a n w
 |0,_=>Lo _
 |n+1,w=>Mr _ _
def bM (lm:bN)(w:aF):Nat:=lm.steps.length-w.2.length
def jC(h:x∈cc lm w):x.2.length=w.2.length+1:=by
 unfold cc at h
 split at h
 .unfold ff at h
  obtain ⟨o,a,rfl⟩:=LG.mp (Ly.mp h).1
  show (w.2++[o.2.1]).length=_
  rw [LC]
  rfl
 .cases h
def KD {a:bN}{w:aF}(h:w.2.length<a.steps.length):cE a (bM a w) w=(cc a w).reverse.flatMap λx=>cE a (bM a x) x:=by
 have e:bM a w=bM a w-1+1:=by unfold bM;omega
 rw [e]
 show (cc a w).reverse.flatMap (cE a<|bM a w-1)=_
 have:∀(L:List aF),(∀x∈L,x.2.length=w.2.length+1)->L.flatMap (cE a<|bM a w-1)=L.flatMap λx=>cE a (bM a x) x:=by
  intro L
  induction L with
  |nil=>exact λ_=>rfl
  |cons x r c=>
   intro b
   have d:bM a x=bM a w-1:=by have:=b x Lj;unfold bM;omega
   rw [Mv,Mv,c λy f=>b y<|Lg _ f,d]
 exact this _ λx b=>jC<|M4.mp b
def Kh {a:bN}{w:aF}(h:w.2.length<a.steps.length):dD a (bM a w) w=1+((cc a w).map λx=>dD a (bM a x) x).sum:=by
 have e:bM a w=bM a w-1+1:=by unfold bM;omega
 rw [e]
 show 1+((cc a w).map<|dD a<|bM a w-1).sum=_
 congr 2
 exact LW λx b=>by
  have c:bM a x=bM a w-1:=by have:=jC b;unfold bM;omega
  rw [c]
theorem vM (a:bN):∀(l:List aF),l.length<=(l.map λw=>dD a (bM a w) w).sum
 |[]=>Lo _
 |w::r=>by
  rw [Me,Ps,Ma]
  have:=vM a r
  have:=BZ a (bM a w) w
  omega
structure jx (sz:Nat->Nat)(ss:List bg):Prop where
 zero:sz 0=0
 st:∀k s,ss[k]?=some s->j8 (sz k) s/\∀o∈s.of,sz k+o.2.2.length=sz (k+1)
 le:∀k,sz k<=500
 len:ss.length<=100
structure GoodW (sz:Nat->Nat)(ss:List bg)(w:aF):Prop where
 one:w.1.length=sz w.2.length
 two:w.2.length<=ss.length
 ok:jb w.1
def GoodW.nil(h:jx a b):GoodW a b ([],[]):=⟨h.zero.symm,LP _,λp c=>nomatch c⟩
def yS{e:bN}(h:jx d e.steps)(g:GoodW d e.steps w):∀x∈cc e w,GoodW d e.steps x:=λx a=>by
 have b:=jC a
 unfold cc at a
 split at a
 .rename_i s i
  unfold ff at a
  obtain ⟨o,j,rfl⟩:=LG.mp (Ly.mp a).1
  have f:o∈(eJ s.of<|fG w.1<|gi s).reverse:=(NN _).subset j
  have c:o∈s.of:=(Ly.mp<|M4.mp f).1
  obtain ⟨k,l⟩:=h.st _ s i
  have m:=(Li.mp i).1
  refine ⟨?_,?_,λp n=>?_⟩
  .show (w.1++o.2.2).length=d (w.2++[o.2.1]).length
   have b:(w.2++[o.2.1]).length=w.2.length+1:=b
   rw [LC,g.one,l o c,b]
  .have b:(fk w o).2.length=w.2.length+1:=b
   rw [b];omega
  .rcases LI.mp n with z|z
   .exact g.ok p z
   .exact (k.of o c).1 p z
 .cases a
def Ba (C CL:Addr):Sp:=λvs H Q _=>∃M lm v0,vs=[v0]/\ap M H/\iJ C CL (but H M) v0 lm/\lm.steps.length<=100/\∀p us H',ab H H'->H p=none->H' p=some (.lst us)->az (but H' (p::M)) us ((d9 lm).map cQ)->Q (.ref p) H'
def xh (C CL:Addr):Sp:=λvs H Q _=>∃M lm w0 v0 v1,vs=[v0,v1]/\ap M H/\iJ C CL (but H M) v0 lm/\al (but H M) v1 (cQ w0)/\∀H',ab H H'->Q (.bl (decide (w0.2.length=lm.steps.length))) H'
def vm (C CL:Addr):Sp:=λvs H Q _=>∃M lm w0 v0 v1 sz,vs=[v0,v1]/\ap M H/\iJ C CL (but H M) v0 lm/\al (but H M) v1 (cQ w0)/\jx sz lm.steps/\GoodW sz lm.steps w0/\w0.2.length<lm.steps.length/\∀v H',ab H H'->al (but H' M) v (.lst ((cc lm w0).map cQ))->Q v H'
def eQ (as facts:List (List D)):List aF:=(d9 (bR (bL as) facts)).flatMap λw=>cE (bR (bL as) facts) (bM (bR (bL as) facts) w) w
section
variable {K:PySem.W.Frag}{G:Hp}{σ:St}{te:TE}{a:Addr}{us:List V}
def DI (h:mv te G σ a)(d:G a=some (.lst us)):ae (cI (λe H Q=>∃p b,e=[.ref p]/\(aQ K H p b\/br K H p b)/\Q (.int b.length) H) (bn te bB)) G σ (.int (us.length:Nat)):=
 λM H s l Q k=>h M H s l _ λf c=>⟨a,us,rfl,.inl<|aQ.of<|c _ _ (aw<|s _ _ d).2,k _ f c (.int _)⟩
def yG{st:bg}{d:aF}{lo:Int}(h:mv te G σ a)(A:G a=some (.lst us))(B:ae (aY i) G σ (.int (m:Nat)))(E:us[m]?=some v)(j:kb C G v st)(I:jb d.1)(o:d.1.length<=500)(p:d.2.length<=500)(J:j8 d.1.length st)(L:ae (aY n) G σ (cQ d))(r:ae (aY q) G σ (.int lo)):
  ae (kj C "carry_on" (vY C) [] L2.E0 (bZ (gS K) te (aY i)) (bn (aY n) (bn (aY q) bB))) G σ (.lst ((ff st d lo).map cQ)):=λM H s l Q k=>by
 refine h M H s l _ λN f=>B M N (s.trans<|f.but M) (l.same f) _ λy O w T=>.inl ⟨a,us,_,v,rfl,T.dL,aQ.of<|w _ _<|f _ _ (aw<|s _ _ A).2,tD E,?_⟩
 have b:=f.trans w
 have c:=j.mono<|s.trans<|b.but M
 obtain ⟨x,t,w1,sa,w3,U,oS,rfl,Y,g2,g3,g4,g5⟩:=id c
 refine ⟨x,t,_,rfl,(aw Y).2,rfl,L M O (s.trans<|b.but M) (l.same b) _ λu H2 e ru=>r M H2 (s.trans<|(b.trans e).but M) (l.same<|b.trans e) _ λz H3 g rz=>?_⟩
 have ez:=rz.dL
 subst ez
 exact ⟨M,st,d,lo,.ref x,u,rfl,l.same<|b.trans<|e.trans g,c.mono<|(e.trans g).but M,ru.mono<|g.but M,I,o,p,J,λv' H4 s4 r4=>k v' H4 (b.trans<|e.trans<|g.trans s4) r4⟩
def Jn {C CL:Addr}{i j:Nat}{lm:bN}{w0:aF}(e:σ[i]?=some (some (.ref a)))(hL:iJ C CL G (.ref a) lm)(h:ae (aY j) G σ (cQ w0)):bJ (tB (kj CL "is_whole" (xh C CL) [] L2.E0 (aY i) (bn (aY j) bB))) G σ (decide (w0.2.length=lm.steps.length)):=λM H s l Q k=>by
 obtain ⟨a',dx',sl,us,e1,g1,g2,g3⟩:=id hL
 cases e1
 refine ⟨.ref a,e,a,dx',_,rfl,(aw (s _ _ g1)).2,rfl,h M H s l _ λv H1 s1 r1=>?_⟩
 exact ⟨M,lm,w0,.ref a,v,rfl,l.same s1,hL.mono (s.trans (s1.but M)),r1,λH2 s2=>⟨_,rfl,k H2 (s1.trans s2)⟩⟩
def DM {C CL:Addr}{i j:Nat}{lm:bN}{w0:aF}{sz:Nat->Nat}(e:σ[i]?=some (some (.ref a)))(hL:iJ C CL G (.ref a) lm)(hR:jx sz lm.steps)(hW:GoodW sz lm.steps w0)(hlt:w0.2.length<lm.steps.length)(h:ae (aY j) G σ (cQ w0)):ae (kj CL "carried_on" (vm C CL) [] L2.E0 (aY i) (bn (aY j) bB)) G σ (.lst ((cc lm w0).map cQ)):=λM H s l Q k=>by
 obtain ⟨a',dx',sl,us,e1,g1,g2,g3⟩:=id hL
 cases e1
 refine ⟨.ref a,e,a,dx',_,rfl,(aw (s _ _ g1)).2,rfl,h M H s l _ λv H1 s1 r1=>?_⟩
 exact ⟨M,lm,w0,.ref a,v,sz,rfl,l.same s1,hL.mono (s.trans (s1.but M)),r1,hR,hW,hlt,λv2 H2 s2 r2=>k v2 H2 (s1.trans s2) r2⟩
def gx(s:ab H b)(h:b p=none):H p=none:=by
 cases q:H p with
 |none=>rfl
 |some u=>rw [s _ _ q] at h;cases h
def xf{E:Ends}(l:ap M H)(h:dO t (but H M) σ ds)(g:ds.length<=sizeLine)(k:∀p b c,ab H c->H p=none->c p=some (.lst b)->az (but c (p::M)) b ds->E.rt (.ref p) c):m8 (jG t) E σ H:=
 h M H (ab.refl _) l _ λb i e f=>⟨by rw [f.length];exact g,λp d=>k p b _ (e.trans<|c8 d _) (by
  cases q:H p with
  |none=>rfl
  |some u=>rw [e _ _ q] at d;cases d) aN<|tf d f⟩
end
theorem ug:∀(b:ZW) (B:ZY) (W:ZW) (s:bg),s∈cF b B W->s.cB∈b/\s.of=[]/\s.newest=-1
 |[],_,_,s,h=>by cases h
 |a::r,B,W,s,h=>by
  rcases Lw.mp h with z|z
  .subst z;exact ⟨Lj,rfl,rfl⟩
  .obtain ⟨c,d,e⟩:=ug r _ _ s z
   exact ⟨Lg _ c,d,e⟩
theorem lP:∀(b:ZW) (B:ZY) (W:ZW),(cF b B W).length=b.length
 |[],_,_=>rfl
 |a::r,B,W=>Mq (· +1)<|lP r _ _
end FL
namespace O5
open PySem L2 FL
structure i9 where
 shared:List Nat
 of:List dg
 gs:List (List D×List Nat)
structure j8 (n:Nat)(st:i9):Prop where
 sh:∀i∈st.shared,i<n
 shl:st.shared.length<=100
 of:∀o∈st.of,jb o.2.2/\o.2.2.length<=100/\∀g∈st.gs,t5 (n+o.2.2.length) g
 wX:st.of.length<=200
def ib (st:i9)(w:aF):List aF:=(mZ st.of (fG w.1 st.shared) w).filter λx=>eV x.1 st.gs
def cF (facts:List (List D)):List (List D)->List Str->List (List D)->List i9
 |[],_,_=>[]
 |a::r,B,W=>⟨cV a B,ef a facts B,(W.filter λg=>cm g (ai B a)).map λg=>(g,cV g (ai B a))⟩::cF facts r (ai B a) (W.filter λg=> !cm g (ai B a))
def eG (facts as:List (List D)):List i9:=cF facts (as.filter λa=> !aK a) [] ((as.filter aK).filter c6)
def iK:List i9->aF->List aF
 |[],w=>[w]
 |s::r,w=>(ib s w).flatMap (iK r)
def nodes:List i9->aF->Nat
 |[],_=>1
 |s::r,w=>1+((ib s w).map (nodes r)).sum
def sx (facts as:List (List D)):List aF:=if (((as.filter aK).filter λg=> !c6 g).all holdsA&&(eG facts as).all λs=> !s.of.isEmpty)=true then iK (eG facts as) ([],[]) else []
structure jx (sz:Nat->Nat)(ss:List i9):Prop where
 zero:sz 0=0
 st:∀k s,ss[k]?=some s->j8 (sz k) s/\∀o∈s.of,sz k+o.2.2.length=sz (k+1)
 le:∀k,sz k<=500
 len:ss.length<=100
def DD (A:ZZ)(a:ZW)(b:ZY):(ef A a b).length<=a.length:=by
 unfold ef
 have:=List.length_filterMap_le (λp:ZZ×Nat=>(bC A p.1 []).map λst=>(dm b st,(p.2,restOf b st))) a.zipIdx
 rw [Ph] at this
 exact this
def Er{V:Str->D}{B:ZY}(h:b∈B)(d:Str×D):(au V B).getD (B.idxOf b) d=(b,V b):=by
 have a:=O6 h
 unfold au
 rw [List.getD,LA,Lk a]
 show (B[B.idxOf b],V B[B.idxOf b])=(b,V b)
 rw [Pj a]
def yd (V:Str->D)(B:ZY)(g:ZZ):ee (au V B) (cV g B)=au V ((ai [] g).filter λb=>decide (b∈B)):=by
 unfold ee cV
 rw [Mb]
 unfold au
 refine LW λb a=>?_
 have:=LD (Ly.mp a).2
 exact Er this _
def Ak (V:Str->D)(B:ZY)(a:ZZ):fG (au V B) (cV a B)=((ai [] a).filter λb=>decide (b∈B)).map V:=by
 unfold fG
 rw [yd]
 unfold au
 rw [Mb]
 rfl
def Cj(h:cm g B=true):(ai [] g).filter (λb=>decide (b∈B))=ai [] g:=by
 have:=LD h
 unfold cV at this
 rw [Ll] at this
 exact Mp.mpr<|List.length_filter_eq_length_iff.mp this
def wA{V:Str->D}(a:cu B)(h:∀b∈ai [] g,b∈B):g.map (bY (au V B))=g.map (a8 V):=
 LW λx c=>lg a λe=>h _<|md c e
def im (W:List (List D))(B:List Str)(S:aP):Bool:=(W.filter λg=>cm g B).all λg=>holdsA (g.map (bY S))
def Il{V:Str->D}(W:ZW)(f:cu B):eV (au V B) ((W.filter λg=>cm g B).map λg=>(g,cV g B))=im W B (au V B):=by
 unfold eV im
 rw [Oz]
 have e:∀L:ZW,(∀g∈L,cm g B=true)->L.all ((λg=>holdsA<|g.1.map<|bY<|ee (au V B) g.2)∘λg=>(g,cV g B))=L.all λg=>holdsA (g.map<|bY<|au V B):=by
  intro L
  induction L with
  |nil=>exact λ_=>rfl
  |cons g r i=>
   intro h
   rw [NW,NW,i λx j=>h x<|Lg _ j]
   congr 1
   have c:=Cj<|h g Lj
   show holdsA (g.map<|bY<|ee (au V B)<|cV g B)=holdsA (g.map<|bY<|au V B)
   have a:∀b∈ai [] g,b∈B:=λb d=>by
    rw [<-c] at d
    exact LD (Ly.mp d).2
   rw [yd,c,wA (iH eB) λb d=>d,wA f a]
 exact e _ λg c=>(Ly.mp c).2
def ic:List (List D)->List Str->List (List D)->List jm
 |[],_,_=>[]
 |a::r,B,W=>⟨a,im W (ai B a)⟩::ic r (ai B a) (W.filter λg=> !cm g (ai B a))
def wq{V:Str->D}(e:cu B)(f:x∈ext b a (au V B,d)):∃c,x.1=au c (ai B a):=by
 obtain ⟨S,h⟩:=x
 obtain ⟨i,g,_,j,_⟩:=ol.mp f
 obtain ⟨c,_,k,_⟩:=ip e j
 exact ⟨c,k⟩
theorem Af (b:ZW):∀(d:ZW) (B:ZY) (W:ZW) (V:Str->D) (f:List Nat),cu B->(∀a∈d,i6 a)->iK (cF b d B W) (au V B,f)=eZ b (ic d B W) [(au V B,f)]
 |[],B,W,V,f,_,_=>rfl
 |a::r,B,W,V,f,k,p=>by
  have i:=iH (l:=a) k
  have q:ib ⟨cV a B,ef a b B,(W.filter λg=>cm g<|ai B a).map λg=>(g,cV g<|ai B a)⟩ (au V B,f)=nn b ⟨a,im W<|ai B a⟩ (au V B,f):=by
   unfold ib nn
   show (mZ (ef a b B) (fG (au V B)<|cV a B) (au V B,f)).filter _=(ext b a (au V B,f)).filter _
   rw [Ak,u9 k<|p a Lj]
   refine M1 λx m=>?_
   obtain ⟨j,e⟩:=wq k m
   rw [e]
   exact Il W i
  show (ib ⟨cV a B,ef a b B,_⟩ (au V B,f)).flatMap (iK<|cF b r (ai B a) _)=eZ b (ic r (ai B a) _) ([(au V B,f)].flatMap<|nn b ⟨a,im W<|ai B a⟩)
  rw [q,MV,ye]
  have n:∀L:List aF,(∀x∈L,∃j,x.1=au j (ai B a))->L.flatMap (iK<|cF b r (ai B a)<|W.filter λg=> !cm g (ai B a))=L.flatMap λw=>eZ b (ic r (ai B a)<|W.filter λg=> !cm g (ai B a)) [w]:=by
   intro L
   induction L with
   |nil=>exact λ_=>rfl
   |cons x t s=>
    intro h
    obtain ⟨j,e⟩:=h x Lj
    obtain ⟨S,o⟩:=x
    have e:S=au j (ai B a):=e
    subst e
    rw [Mv,Mv,s λy u=>h y<|Lg _ u,Af b r (ai B a) _ j o i λc v=>p c<|Lg _ v]
  exact n _ λx m=>wq k (Ly.mp m).1
def gT (gs:List (List D))(S:aP):Bool:=gs.all λg=>holdsA (g.map (bY S))
def vx:cm g B=true↔∀b∈ai [] g,b∈B:=by
 constructor
 .intro h b a
  rw [<-Cj h] at a
  exact LD (Ly.mp a).2
 .intro h
  unfold cm cV
  rw [Ll,Mp.mpr λb a=>LH<|h b a]
  exact LH rfl
theorem vC(p f:a->Bool):∀l:List a,l.all f=((l.filter p).all f&&(l.filter λx=> !p x).all f)
 |[]=>rfl
 |x::r=>by
  rw [NW,vC p f r,Nh,Nh]
  by_cases h:p x=true
  .rw [Lv h,Lq (by simp [h]),NW,Bool.and_assoc]
  .have b:p x=false:=by simpa using h
   rw [Lq h,Lv (by simp [b]),NW]
   cases f x<;>simp
theorem yo (S:aP):∀(c:ZW) (B:ZY) (W:ZW),(∀g∈W,cm g B=false)->(∀g∈W,∀b∈ai [] g,b∈aT B c)->((ic c B W).all λs=>s.ok S)=gT W S
 |[],B,W,f,d=>by
  have:W=[]:=by
   cases W with
   |nil=>rfl
   |cons g r=>
    have a:=f g Lj
    have b:=vx.mpr<|d g Lj
    rw [show cm g B=true from b] at a;cases a
  rw [this];rfl
 |a::r,B,W,f,d=>by
  show (im W (ai B a) S&&(ic r (ai B a) _).all λs=>s.ok S)=_
  rw [yo S r (ai B a) _ (λg e=>by simpa using (Ly.mp e).2) λg e=>d g (Ly.mp e).1]
  unfold gT im
  exact (vC (λg=>cm g<|ai B a) _ W).symm
theorem uo:∀(b:ZW) (B:ZY) (W:ZW),(ic b B W).map (·.atom)=b
 |[],_,_=>rfl
 |a::r,B,W=>by
  show a::(ic r _ _).map (·.atom)=a::r
  rw [uo r]
theorem B5:∀(b:ZW) (B:ZY) (W:ZW) (i:Nat) (s:jm),(ic b B W)[i]?=some s->∃c,s.ok=im c (aT B (b.take (i+1)))
 |[],_,_,i,s,h=>by simp [ic] at h
 |a::r,B,W,0,s,h=>by
  have h:jm.mk a (im W<|ai B a)=s:=LB h
  refine ⟨W,?_⟩
  rw [<-h]
  rfl
 |a::r,B,W,i+1,s,h=>by
  have h:(ic r (ai B a)<|W.filter λg=> !cm g (ai B a))[i]?=some s:=h
  obtain ⟨c,e⟩:=B5 r _ _ i s h
  exact ⟨c,by rw [e];rfl⟩
def Dk(V a:Str->D)(C:ZY)(i:cu (B++C))(h:∀b∈B,a b=V b):im W B (au a (B++C))=im W B (au V B):=by
 unfold im
 have c:∀L:ZW,(∀g∈L,cm g B=true)->L.all (λg=>holdsA<|g.map<|bY<|au a<|B++C)=L.all λg=>holdsA (g.map<|bY<|au V B):=by
  intro L
  induction L with
  |nil=>exact λ_=>rfl
  |cons g r l=>
   intro j
   rw [NW,NW,l λx d=>j x<|Lg _ d]
   congr 2
   have m:=vx.mp<|j g Lj
   refine LW λx d=>?_
   by_cases e:aH x=true
   .have f:=m _ (md d e)
    have n:=og (V:=a) (B:=B++C)<|Lu _ f
    have o:=og (V:=V) f
    rw [jp e,n,o,h _ f]
   .have k:aH x=false:=by simpa using e
    rw [ka<|np i k,ka<|np (λb p=>i b<|Lu _ p) k]
 exact c _ λg q=>(Ly.mp q).2
def JF{c:ZW}{W:ZW}(j:∀a∈c,i6 a)(k:∀g∈W,cm g []=false)(l:∀g∈W,∀b∈ai [] g,b∈aT [] c):iK (cF facts c [] W) ([],[])=(fi facts c [([],[])]).filter λw=>gT W w.1:=by
 have m:=Af facts c [] W (λ_=>.aq) [] eB j
 have d:=xG facts (ic c [] W) [] [([],[])] eB (λw n=>⟨λ_=>.aq,by rw [LK.mp n];rfl⟩) (λi s o V p C f h=>by
  obtain ⟨q,e⟩:=B5 c [] W i s o
  rw [Qb,uo] at f h⊢
  rw [e]
  exact Dk V p C f h)
 rw [uo] at d
 refine (show iK (cF facts c [] W) ([],[])=_ from m).trans<|d.trans ?_
 refine M1 λw _=>?_
 exact yo w.1 c [] W k l
theorem AB (b:ZW):∀(d:ZW) (B:ZY) (W:ZW) (i:List aF),cu B->(∀a∈d,i6 a)->(∀w∈i,∃V,w.1=au V B)->((cF b d B W).all λs=> !s.of.isEmpty)=false->fi b d i=[]
 |[],_,_,_,_,_,_,h=>by cases h
 |a::r,B,W,i,j,m,n,h=>by
  show fi b r (i.flatMap<|ext b a)=[]
  by_cases o:ef a b B=[]
  .have:i.flatMap (ext b a)=[]:=by
    rw [List.flatMap_eq_nil_iff]
    intro w f
    obtain ⟨V,e⟩:=n w f
    obtain ⟨S,p⟩:=w
    have e:S=au V B:=e
    subst e
    rw [<-u9 j (m a Lj),o]
    rfl
   rw [this,xL]
  .refine AB b r (ai B a) (W.filter λg=> !cm g (ai B a)) _ (iH j) (λc q=>m c<|Lg _ q) (λx k=>?_) ?_
   .obtain ⟨w,f,k⟩:=MQ.mp k
    obtain ⟨V,e⟩:=n w f
    obtain ⟨S,p⟩:=w
    have e:S=au V B:=e
    subst e
    exact wq j k
   .have h:((!(ef a b B).isEmpty)&&(cF b r (ai B a)<|W.filter λg=> !cm g (ai B a)).all λs=> !s.of.isEmpty)=false:=h
    have l:(!(ef a b B).isEmpty)=true:=by
     cases t:ef a b B with
     |nil=>exact absurd t o
     |cons _ _=>rfl
    rw [l,OL] at h
    exact h
def Fg{S:aP}(b:∀p∈S,aH (.str p.1)=true)(h:c6 g=false):g.map (bY S)=g:=by
 have c:ai [] g=[]:=by
  unfold c6 at h
  cases e:ai [] g with
  |nil=>rfl
  |cons x r=>rw [e] at h;cases h
 have:∀x∈g,bY S x=x:=λx d=>by
  have a:aH x=false:=by
   cases e:aH x with
   |false=>rfl
   |true=>
    have:=md (B:=[]) d e
    rw [c] at this;cases this
  refine ka ?_
  cases q:eM S x with
  |false=>rfl
  |true=>
   obtain ⟨p,f,e⟩:=Oq.mp q
   have e:D.str p.1=x:=LD e
   have:=b p f
   rw [e,a] at this;cases this
 exact (LW this).trans<|OB g
def CS{as:ZW}(z:∀a∈as,aK a=false->i6 a)(A:∀g∈as,aK g=true->∀b∈ai [] g,b∈aT [] (as.filter λa=> !aK a)):sx facts as=(fi facts (as.filter λa=> !aK a) [([],[])]).filter λw=>gT (as.filter aK) w.1:=by
 have d:∀a∈as.filter λa=> !aK a,i6 a:=λa v=>z a (Ly.mp v).1 (by simpa using (Ly.mp v).2)
 have l:∀g∈(as.filter aK).filter c6,cm g []=false:=λg f=>by
  have m:=(Ly.mp f).2
  cases e:cm g [] with
  |false=>rfl
  |true=>
   have:=vx.mp e
   have n:ai [] g=[]:=by
    cases q:ai [] g with
    |nil=>rfl
    |cons x r=>have:=this x (by rw [q];exact Lj);cases this
   unfold c6 at m
   rw [n] at m;cases m
 have o:∀g∈(as.filter aK).filter c6,∀b∈ai [] g,b∈aT [] (as.filter λa=> !aK a):=λg f=>by
  have:=(Ly.mp f).1
  exact A g (Ly.mp this).1 (Ly.mp this).2
 have B:=JF (facts:=facts) d l o
 have t:∀w∈fi facts (as.filter λa=> !aK a) [([],[])],∀p∈w.1,aH (.str p.1)=true:=λw i p C=>by
  obtain ⟨S,H⟩:=w
  obtain ⟨V,rfl,_⟩:=(lI d).mp i
  obtain ⟨b,n,rfl⟩:=LG.mp C
  exact iA eB b n
 have c:∀w∈fi facts (as.filter λa=> !aK a) [([],[])],gT (as.filter aK) w.1=(gT ((as.filter aK).filter c6) w.1&&((as.filter aK).filter λg=> !c6 g).all holdsA):=λw i=>by
  unfold gT
  rw [vC c6]
  congr 1
  have:∀L:ZW,(∀g∈L,c6 g=false)->(L.all λg=>holdsA<|g.map<|bY w.1)=L.all holdsA:=by
   intro L
   induction L with
   |nil=>exact λ_=>rfl
   |cons g r E=>
    intro h
    rw [NW,NW,E λx G=>h x<|Lg _ G,Fg (t w i)<|h g Lj]
  exact this _ λg f=>by simpa using (Ly.mp f).2
 rw [M1 c]
 unfold sx
 by_cases u:((as.filter aK).filter λg=> !c6 g).all holdsA=true
 .by_cases y:((eG facts as).all λs=> !s.of.isEmpty)=true
  .rw [Lv (by rw [u,y];rfl)]
   unfold eG
   rw [B]
   refine M1 λw _=>?_
   rw [u,OK]
  .have j:((eG facts as).all λs=> !s.of.isEmpty)=false:=by simpa using y
   rw [Lq (by rw [j];simp),AB facts _ [] _ _ eB d (λw i=>⟨λ_=>.aq,by rw [LK.mp i];rfl⟩) j]
   rfl
 .have k:((as.filter aK).filter λg=> !c6 g).all holdsA=false:=by simpa using u
  rw [Lq (by rw [k];simp),Nf.mpr λw _=>by rw [k,PZ];exact Ls]
def rC (g:List D):Prop:=dz g/\∃r x y,g=[.str r,x,y]/\aH (.str r)=false
def xK:∀i∈cV g B,i<B.length:=λi a=>by
 obtain ⟨b,c,rfl⟩:=LG.mp a
 exact O6<|LD (Ly.mp c).2
def yB (g:ZZ)(B:ZY):(cV g B).length<=g.length:=by
 unfold cV
 rw [Ll]
 have c:=LZ (λb=>decide<|b∈B)<|ai [] g
 have a:=jS g []
 rw [Nq] at a
 omega
def Dr{c:ZW}{B:ZY}{W:ZW}(v:∀g∈c,iy g)(w:c.length<=200)(s:dz a)(z:∀g∈W,rC g):
  j8 B.length ⟨cV a B,ef a c B,(W.filter λg=>cm g (ai B a)).map λg=>(g,cV g (ai B a))⟩/\∀o∈ef a c B,B.length+o.2.2.length=(ai B a).length:=by
 have k:∀o∈ef a c B,jb o.2.2/\o.2.2.length<=100/\B.length+o.2.2.length=(ai B a).length:=λo j=>by
  unfold ef at j
  obtain ⟨⟨g,i⟩,m,e⟩:=Oh.mp j
  have n:g∈c:=Lp<|NP.mp m
  cases l:bC a g [] with
  |none=>
   have e:(bC a g []).map (λst=>(dm B st,(i,restOf B st)))=some o:=e
   rw [l] at e;cases e
  |some st=>
   have e:(bC a g []).map (λst=>(dm B st,(i,restOf B st)))=some o:=e
   rw [l] at e
   have e:=LB e
   rw [<-e]
   have cJ:=B6 l (λt A=>nomatch A) (v g n).2
   have C:=yU l
   have E:=s.len
   obtain ⟨U,_,d,_⟩:=ip (V:=λ_=>.aq) (B:=[]) eB l
   have d:st=au U (ai [] a):=d
   refine ⟨λp G=>?_,?_,?_⟩
   .have f:=(Ly.mp (show p∈restOf B st from G)).1
    refine ⟨cJ p f,?_⟩
    rw [d] at f
    obtain ⟨b,H,rfl⟩:=LG.mp f
    exact iH eB b H
   .have:=LZ (λp:Str×D=> !decide (p.1∈B)) st
    show (restOf B st).length<=100
    unfold restOf
    omega
   .show B.length+(restOf B st).length=_
    have I:(restOf B st).length=((ai [] a).filter λb=> !decide (b∈B)).length:=by
     unfold restOf
     rw [d,wz U _ λb=> !decide (b∈B)]
     unfold au
     rw [Ll]
    rw [I,lu a B,LC]
 refine ⟨⟨xK,LN (yB a B) s.len,λo j=>?_,LN (DD a c B) w⟩,λo j=>(k o j).2.2⟩
 obtain ⟨J,L,M⟩:=k o j
 refine ⟨J,L,λg m=>?_⟩
 obtain ⟨u,q,rfl⟩:=LG.mp m
 obtain ⟨h,r,x,y,e,N⟩:=z u (Ly.mp q).1
 refine ⟨⟨r,x,y,e,(h.sc x (by rw [e];simp)).1,(h.sc y (by rw [e];simp)).1,N⟩,?_,LN (yB u _) h.len⟩
 rw [M]
 exact xK
theorem As {b:ZW}(i:∀g∈b,iy g)(j:b.length<=200):∀(d:ZW) (B:ZY) (W:ZW),(∀a∈d,dz a)->(∀g∈W,rC g)->∀(k:Nat) (s:i9),(cF b d B W)[k]?=some s->
  j8 (aT B (d.take k)).length s/\∀o∈s.of,(aT B (d.take k)).length+o.2.2.length=(aT B (d.take (k+1))).length
 |[],_,_,_,_,k,s,h=>by simp [cF] at h
 |a::r,B,W,e,f,0,s,h=>by
  have h:=LB h
  rw [<-h]
  exact Dr i j (e a Lj) f
 |a::r,B,W,e,f,k+1,s,h=>by
  have h:(cF b r (ai B a)<|W.filter λg=> !cm g (ai B a))[k]?=some s:=h
  exact As i j r (ai B a) _ (λc l=>e c<|Lg _ l) (λg m=>f g (Ly.mp m).1) k s h
theorem lP (b:ZW):∀(c:ZW) (B:ZY) (W:ZW),(cF b c B W).length=c.length
 |[],_,_=>rfl
 |a::r,B,W=>Mq (· +1)<|lP b r _ _
def vq {b c:ZW}(e:∀g∈b,iy g)(f:b.length<=200)(i:∀a∈c,dz a)(j:c.length<=100)(l:∀g∈c,aK g=true->rC g)(m:∀k,(aT [] ((c.filter λa=> !aK a).take k)).length<=500):
  jx (λk=>(aT [] ((c.filter λa=> !aK a).take k)).length) (eG b c):=by
 refine ⟨rfl,λk s h=>?_,m,?_⟩
 .exact As e f _ [] _ (λa n=>i a (Ly.mp n).1) (λg d=>l g (Ly.mp (Ly.mp d).1).1 (Ly.mp (Ly.mp d).1).2) k s h
 .unfold eG
  rw [lP]
  exact LN (LZ _ _) j
def pw (F:Nat):Nat->Nat
 |0=>1
 |n+1=>1+F*pw F n
theorem zv(f:a->Nat)(c:Nat):∀l:List a,(∀x∈l,f x<=c)->(l.map f).sum<=l.length*c
 |[],_=>LP _
 |x::r,h=>by
  rw [Me,Ps,Ma,PQ]
  have d:=zv f c r λy b=>h y<|Lg _ b
  have e:=h x Lj
  omega
end O5
namespace FL
open PySem L2
def oY (a:List D)(B:List Str)(l:List (List D×Nat)):List dg:=l.filterMap λp=>(bC a p.1 []).map λst=>(dm B st,(p.2,restOf B st))
theorem Am:∀(l:List (ZZ×Nat)) (s:bg),let t:=l.foldl (λs p=>cD s p.2 p.1) s
  t.cB=s.cB/\t.shared=s.shared/\t.gs=s.gs/\t.of=s.of++oY s.cB (eY s) l
 |[],s=>⟨rfl,rfl,rfl,(LV _).symm⟩
 |p::r,s=>by
  obtain ⟨a,b,c,d⟩:=Am r<|cD s p.2 p.1
  have e:(cD s p.2 p.1).cB=s.cB/\(cD s p.2 p.1).shared=s.shared/\(cD s p.2 p.1).gs=s.gs/\(cD s p.2 p.1).of=s.of++(match bC s.cB p.1 [] with|some st=>[(dm (eY s) st,(p.2,restOf (eY s) st))]|none=>[]):=by
   unfold cD
   cases f:bC s.cB p.1 [] with
   |none=>exact ⟨rfl,rfl,rfl,(LV _).symm⟩
   |some st=>exact ⟨rfl,rfl,rfl,rfl⟩
  have g:eY (cD s p.2 p.1)=eY s:=by unfold eY;rw [e.2.1]
  refine ⟨a.trans e.1,b.trans e.2.1,c.trans e.2.2.1,d.trans ?_⟩
  rw [e.2.2.2,e.1,g,Mm]
  congr 1
  unfold oY
  rw [Nc]
  cases f:bC s.cB p.1 [] with
  |none=>rfl
  |some st=>rfl
def pO (s:bg):Prop:=decide ((0:Int)<=s.newest)= !s.of.isEmpty
theorem yr:∀(l:List (ZZ×Nat)) (s:bg),pO s->pO (l.foldl (λs p=>cD s p.2 p.1) s)
 |[],s,h=>h
 |p::r,s,h=>by
  refine yr r (cD s p.2 p.1) ?_
  unfold cD
  cases a:bC s.cB p.1 [] with
  |none=>exact h
  |some st=>
   show decide ((0:Int)<=((p.2:Nat):Int))= !(s.of++[_]).isEmpty
   simp
def DS{st:aP}(h:bC a g []=some st):∀p∈st,p.1∈ai [] a:=λp c=>by
 obtain ⟨U,_,rfl,_⟩:=ip (V:=λ_=>.aq) (B:=[]) eB h
 obtain ⟨b,d,rfl⟩:=LG.mp c
 exact d
def IL (a:ZZ)(B:ZY):(jc a B).map (·.1)=(ai [] a).filter λb=>decide (b∈B):=by
 unfold jc
 rw [Mb]
 exact OB _
def KW (a:ZZ)(B:ZY):(jc a B).map (·.2)=cV a B:=by
 unfold jc cV
 rw [Mb]
 rfl
def yH{B:ZY}(h:b∈ai [] a):decide (b∈(ai [] a).filter λb=>decide (b∈B))=decide (b∈B):=
 N4.mpr ⟨λw=>LD (Ly.mp w).2,λz=>Ly.mpr ⟨h,LH z⟩⟩
def IM (a:ZZ)(B:ZY)(c:ZW):oY a ((ai [] a).filter λb=>decide (b∈B)) (c.zipIdx 0)=ef a c B:=by
 unfold oY ef
 have:∀l:List (ZZ×Nat),l.filterMap (λp=>(bC a p.1 []).map λst=>(dm ((ai [] a).filter λb=>decide<|b∈B) st,(p.2,restOf ((ai [] a).filter λb=>decide<|b∈B) st)))=l.filterMap λp=>(bC a p.1 []).map λst=>(dm B st,(p.2,restOf B st)):=by
  intro l
  induction l with
  |nil=>rfl
  |cons p r f=>
   rw [Nc,Nc,f]
   cases g:bC a p.1 [] with
   |none=>rfl
   |some st=>
    have e:=DS g
    have h:dm ((ai [] a).filter λb=>decide<|b∈B) st=dm B st:=by
     unfold dm
     rw [M1 λq d=>yH<|e q d]
    have i:restOf ((ai [] a).filter λb=>decide<|b∈B) st=restOf B st:=by
     unfold restOf
     refine M1 λq d=>?_
     rw [yH<|e q d]
    show (_,_)::_=(_,_)::_
    rw [h,i]
 exact this _
def dG (s:bg):O5.i9:=⟨gi s,s.of,s.gs⟩
def Kq (a:ZZ)(B:ZY)(W facts:ZW):dG (bX (mW a B W) 0 facts)=⟨cV a B,ef a facts B,(W.filter λg=>cm g (ai B a)).map λg=>(g,cV g (ai B a))⟩/\pO (bX (mW a B W) 0 facts):=by
 obtain ⟨h1,h2,h3,h4⟩:=Am (facts.zipIdx 0) (mW a B W)
 refine ⟨?_,yr _ _ (show decide ((0:Int)<= -1)= !([]:List dg).isEmpty from rfl)⟩
 have e:(bX (mW a B W) 0 facts).of=ef a facts B:=by
  unfold bX
  rw [h4]
  show []++oY a ((jc a B).map (·.1)) _=_
  rw [NM,IL,IM]
 unfold dG gi
 rw [e]
 unfold bX
 rw [h2,h3]
 show O5.i9.mk ((jc a B).map (·.2)) _ _=_
 rw [KW]
 rfl
theorem so (facts:ZW):∀(asks:ZW) (B:ZY) (W:ZW),((cF asks B W).map λs=>bX s 0 facts).map dG=O5.cF facts asks B W/\∀s∈(cF asks B W).map λs=>bX s 0 facts,pO s
 |[],_,_=>⟨rfl,λs h=>nomatch h⟩
 |a::r,B,W=>by
  obtain ⟨h1,h2⟩:=so facts r (ai B a) (W.filter λg=> !cm g (ai B a))
  obtain ⟨h3,h4⟩:=Kq a B W facts
  refine ⟨?_,λs hs=>?_⟩
  .show dG _::List.map dG (List.map _ (cF r _ _))=_::O5.cF facts r _ _
   rw [h1,h3]
  .rcases Lw.mp hs with z|z
   .rw [z];exact h4
   .exact h2 s z
def Az (s:bg)(w:aF):ff s w 0=(O5.ib (dG s) w).reverse:=by
 unfold ff O5.ib mZ
 rw [oO λo _=>(by unfold FL.fresh;exact LH Z4),PF,List.filter_reverse]
 rfl
def sN {a:bN}(h:a.fresh=0)(w:aF):gR a w=0:=by
 unfold gR
 rw [h]
 split<;>rfl
theorem uJ {lm:bN}(h:lm.fresh=0):∀(n:Nat) (w:aF),w.2.length+n=lm.steps.length->cE lm n w=O5.iK ((lm.steps.map dG).drop w.2.length) w/\dD lm n w=O5.nodes ((lm.steps.map dG).drop w.2.length) w
 |0,w,hn=>by
  rw [OA (by rw [Ll];omega)]
  exact ⟨rfl,rfl⟩
 |n+1,w,hn=>by
  have hlt:w.2.length<lm.steps.length:=by omega
  have hs:=Lk hlt
  have hc:cc lm w=(O5.ib (dG lm.steps[w.2.length]) w).reverse:=by
   unfold cc
   rw [hs,sN h]
   exact Az _ w
  have hl:∀x∈O5.ib (dG lm.steps[w.2.length]) w,x.2.length=w.2.length+1:=λx hx=>jC (lm:=lm) (by rw [hc];exact M4.mpr hx)
  have ed:(lm.steps.map dG).drop w.2.length=dG lm.steps[w.2.length]::(lm.steps.map dG).drop (w.2.length+1):=by
   rw [Nk (by rw [Ll];exact hlt),List.getElem_map]
  rw [ed]
  constructor
  .show (cc lm w).reverse.flatMap (cE lm n)=(O5.ib _ w).flatMap (O5.iK _)
   rw [hc,List.reverse_reverse]
   have:∀L:List aF,(∀x∈L,x.2.length=w.2.length+1)->L.flatMap (cE lm n)=L.flatMap (O5.iK ((lm.steps.map dG).drop (w.2.length+1))):=by
    intro L
    induction L with
    |nil=>exact λ_=>rfl
    |cons x r ih=>
     intro hx
     have e:=hx x Lj
     rw [Mv,Mv,ih λy hy=>hx y (Lg _ hy),(uJ h n x Z4).1,e]
   exact this _ hl
  .show 1+((cc lm w).map (dD lm n)).sum=1+((O5.ib _ w).map (O5.nodes _)).sum
   rw [hc,PF,List.sum_reverse]
   congr 2
   refine LW λx hx=>?_
   rw [(uJ h n x (by have:=hl x hx;omega)).2,hl x hx]
def J2 {ss:List bg}(h:∀s∈ss,pO s):(ss.all λs=>decide ((0:Int)<=s.newest))=(ss.map dG).all λs=> !s.of.isEmpty:=by
 induction ss with
 |nil=>rfl
 |cons s r a=>
  rw [NW,Me,NW,a λx b=>h x<|Lg _ b]
  congr 1
  exact h s Lj
def JV (as facts:ZW):eQ as facts=O5.sx facts as:=by
 obtain ⟨h1,h2⟩:=so facts (as.filter λa=> !aK a) [] ((as.filter aK).filter c6)
 have e1:(bR (bL as) facts).steps.map dG=O5.eG facts as:=h1
 have e2:=J2 (ss:=(bR (bL as) facts).steps) h2
 rw [e1] at e2
 have hb:(bR (bL as) facts).fo=lj as:=rfl
 have hf:(bR (bL as) facts).fresh=0:=rfl
 unfold eQ d9 O5.sx
 generalize bR (bL as) facts=lm at e1 e2 hb hf
 rw [hb,hf,e2]
 unfold lj
 generalize ((as.filter aK).filter λg=> !c6 g).all holdsA=c1
 cases c1 with
 |false=>simp
 |true=>
  have e0:((!true)||(decide (lm.last<0)&&decide ((0:Int)<((0:Nat):Int))))=false:=by simp
  rw [Lq (by rw [e0];exact Ls),OL]
  split
  .rw [MV]
   have:=(uJ hf (bM lm ([],[])) ([],[]) (by unfold bM;simp)).1
   rw [this]
   show O5.iK ((lm.steps.map dG).drop 0) _=_
   rw [List.drop_zero,e1]
  .rfl
def Fv {facts as:ZW}(hF:∀g∈facts,iy g)(hz:facts.length<=200)(hA:∀a∈as,dz a)(hl:as.length<=100)(hg:∀g∈as,aK g=true->O5.rC g)(hb:∀k,(aT [] ((as.filter λa=> !aK a).take k)).length<=500):
  jx (λk=>(aT [] ((as.filter λa=> !aK a).take k)).length) (bR (bL as) facts).steps:=by
 obtain ⟨h1,_⟩:=so facts (as.filter λa=> !aK a) [] ((as.filter aK).filter c6)
 have e1:(bR (bL as) facts).steps.map dG=O5.eG facts as:=h1
 have R:=O5.vq hF hz hA hl hg hb
 refine ⟨R.zero,λk s hs=>?_,R.le,?_⟩
 .have ho:(O5.eG facts as)[k]?=some (dG s):=by rw [<-e1,LA,hs];rfl
  obtain ⟨q1,q2⟩:=R.st k _ ho
  refine ⟨⟨q1.sh,?_,q1.of,LN q1.wX Z1⟩,q2⟩
  have:=q1.shl
  unfold dG gi at this
  rw [Ll] at this
  exact this
 .have:=R.len
  rw [<-e1,Ll] at this
  exact this
end FL
namespace L2
open PySem PySem.Spec PyProof.Rows
section
variable {X:Cx}
def y4:List V->Hp->VK->Prop:=λxs H Q=>∃a kvs,xs=[.ref a]/\Rd H a (.dK kvs)/\∀p,H p=none->Q (.ref p) (upd H p (.dK kvs))
def Gm:iM X (.type "dict") y4:=by
 intro f s l H m n Q I r h
 obtain ⟨a,c,rfl,e,q⟩:=h
 obtain ⟨u,rfl,g⟩:=Pu r
 cases g
 obtain ⟨z,i,p,bw,j⟩:=gY I.ay e
 have t:=bw.length
 refine kt_call_dict i j Z4 λv d k=>?_
 refine ⟨.ref s.heap.objs.size,_,I.laid (a:=s.heap.objs.size) (o:=.dK c) (t':=s.toks) (λb o e=>?_) (Lo _)<|tX z (Mz.mpr<|Ml<|LY I.qr) bw d,rfl,q _<|I.ay.fresh<|Lo _⟩
 exact (k.2 b<|LY<|LL e).trans<|Ln _ e
end
end L2
namespace FL
open PySem L2
section
variable {X:Cx}{e:Expr}{te:TE}{p pos:Pos}
def DB (B:Bl X.mg)(h:PE X e te)(b:Gl X "dict":=by rfl)(a:starEach [e] X.env=(false,eval e X.env)::starEach [] X.env:=by rfl):PE X (.Call (.Name "dict" p) [e] [] pos) (cI y4 (bn te bB)):=
 pq Gm b B.dict PP (ak h ar a) (he:=a)
end
def dh:List D:=[.str "X",.str "Xy",.str "Z"]
structure y6 (as:List (List D)):Prop where
 ne:∀a∈as,a≠[]/\aH (a.headD .aq)=false
 sc:∀a∈as,∀x∈a,x.sc=true
 bl:∀a∈as,∀x∈a.tail,aH x=decide (x∈dh)
 dA:as.length<=100/\∀a∈as,a.length<=10
def Dl (B:ZY)(x:D)(c:x.sc=true):ce B x=if (aH x&& !decide (x∈B.map D.str))=true then B++[x.name] else B:=by
 unfold ce
 have:decide (x∈B.map D.str)=decide (x.name∈B)\/aH x=false:=by
  by_cases e:aH x=true
  .left
   rw [jp e]
   refine N4.mpr ⟨λh=>?_,λh=>LG.mpr ⟨_,h,rfl⟩⟩
   obtain ⟨y,a,b⟩:=LG.mp h
   have:y=x.name:=by injection b
   rw [<-this];exact a
  .right;simpa using e
 rcases this with e|e
 .rw [e]
 .simp [e]
def Fp(b:ZW)(j:Nat)(h:b[j]?=some a):aT [] (b.take (j+1))=ai (aT [] (b.take j)) a:=by
 unfold aT
 rw [L0,h,MM]
 rfl
def JZ(h:a≠[])(b:aH (a.headD .aq)=false):ai B a=ai B a.tail:=by
 cases a with
 |nil=>exact absurd rfl h
 |cons x r=>
  show ai (ce B x) r=ai B r
  rw [uC (show aH x=false from b)]
def Gb {B:ZY}{l:ZZ}{j:Nat}{x:D}(h:l[j]?=some x):ai B (l.take (j+1))=ce (ai B (l.take j)) x:=by
 unfold ai
 rw [L0,h,MM]
 rfl
def wo {a b:ZZ}(j:∀x∈a,x.sc=true)(d:∀x∈b,x.sc=true):cr (.tup a) (.tup b)=true/\(D.tup a).cR<=40:=by
 have h:∀a b:ZZ,(∀x∈a,x.sc=true)->(∀x∈b,x.sc=true)->fO a b=true/\D.fc a<=0:=by
  intro a
  induction a with
  |nil=>
   intro b _ _
   cases b<;>exact ⟨rfl,Lo _⟩
  |cons x r k=>
   intro b f d
   have g:=k b.tail (λy e=>f y<|Lg _ e) λy e=>d y<|List.mem_of_mem_tail e
   have c:=f x Lj
   have l:x.cR=0:=by
    cases x with
    |int _=>rfl
    |str _=>rfl
    |_=>simp [D.sc] at c
   have i:D.fc (x::r)<=0:=by
    show Nat.max x.cR (D.fc r)<=0
    rw [l]
    exact Nat.max_le.mpr ⟨Lo _,g.2⟩
   cases b with
   |nil=>exact ⟨rfl,i⟩
   |cons y t=>
    refine ⟨?_,i⟩
    show (cr x y&&fO r t)=true
    rw [(gj c<|d y Lj).1]
    exact g.1
 obtain ⟨m,n⟩:=h a b j d
 exact ⟨m,LN (show (D.tup a).cR<=D.fc a+1 from Lo _) Z4⟩
def cz (S:aP)(a:List D):List D:=a.headD .aq::a.tail.map (bY S)
def ur:List Da->D->Prop:=λxs d=>∃a S,xs=[.d (.tup a),.k (cb [] (bK S))]/\a≠[]/\(∀x∈a,x.sc=true)/\(∀p∈S,p.2.sc=true)/\a.length<=10/\d=.tup (cz S a)
def dF (fs:List (List D))(a:List D):Bool:=if a.headD .aq=.str "unlike" then (match a with|[_,x,y]=> !decide (x=y)|_=>false) else if a.headD .aq=.str "less" then (match a with|[_,.int i,.int j]=>decide (i<j)|_=>false) else decide (a∈fs)
def xw (a:List D):Prop:=a≠[]/\(∀x∈a,x.sc=true)/\(aK a=true->∃r x y,a=[.str r,x,y])
structure gJ (G:Hp)(us:List V)(cs:List aP):Prop where
 len:us.length=cs.length
 get:∀(j:Nat) c,cs[j]?=some c->∃a,us[j]?=some (.ref a)/\G a=some (.dK (cb [] (bK c)))
def gJ.mono(h:gJ G d f)(e:ab G b):gJ b d f:=⟨h.len,λj c q=>let ⟨a,g,i⟩:=h.get j c q;⟨a,g,e _ _ i⟩⟩
def gJ.nil:gJ G [] []:=⟨rfl,λj c q=>by simp at q⟩
def gJ.snoc(h:gJ G g f)(k:G a=some (.dK (cb [] (bK c)))):gJ G (g++[.ref a]) (f++[c]):=by
 have l:=h.len
 refine ⟨by simp [l],λj d q=>?_⟩
 by_cases i:j<f.length
 .rw [LO i] at q
  obtain ⟨b,m,n⟩:=h.get j d q
  exact ⟨b,by rw [LO Z4];exact m,n⟩
 .rw [LQ<|L8 i] at q
  have o:j-f.length=0:=by
   have:=(Li.mp q).1
   simp at this
   exact this
  rw [o] at q
  have e:c=d:=by simpa using q
  subst e
  exact ⟨a,by rw [LQ Z4,show j-g.length=0 by omega];rfl,k⟩
theorem zd (a:ZZ)(b:Str):∀(l:ZY) (d:List aP),cG a (l++[b]) d=(cG a l d).flatMap λc=>a.map λt=>c++[(b,t)]
 |[],d=>rfl
 |x::r,d=>zd a b r _
theorem zE (a:ZZ):∀(l:ZY) (b:List aP),(cG a l b).length=b.length*a.length^l.length
 |[],b=>by simp [cG]
 |x::r,b=>by
  show (cG a r _).length=_
  rw [zE a r,List.length_flatMap]
  have:(b.map λc=>(a.map λt=>c++[(x,t)]).length).sum=b.length*a.length:=by
   have e:(λc:aP=>(a.map λt=>c++[(x,t)]).length)=λ_=>a.length:=by funext c;exact Ll _
   rw [e]
   induction b with
   |nil=>simp
   |cons m t d=>rw [Me,Ps,d,Ma,PQ,Qe]
  rw [this,Ma,Nat.pow_succ,Nat.mul_assoc,Qf a.length]
theorem sj (a:ZZ):∀(l:ZY) (b:List aP) (c:aP),(∀x∈a,x.sc=true)->(∀m∈b,(∀p∈m,p.2.sc=true))->c∈cG a l b->∀p∈c,p.2.sc=true
 |[],b,c,_,d,h=>d c h
 |x::r,b,c,f,d,h=>by
  refine sj a r _ c f (λm e=>?_) h
  obtain ⟨g,i,j⟩:=MQ.mp e
  obtain ⟨t,k,rfl⟩:=LG.mp j
  exact xc (d g i)<|f t k
theorem yv (a:ZZ):∀(l:ZY) (b:List aP) (k:Nat),(∀m∈b,m.length=k)->∀c∈cG a l b,c.length=k+l.length
 |[],b,k,d,c,h=>d c h
 |x::r,b,k,d,c,h=>by
  have:=yv a r _ (k+1) (λm e=>by
   obtain ⟨f,g,i⟩:=MQ.mp e
   obtain ⟨t,j,rfl⟩:=LG.mp i
   rw [LC,d f g]
   rfl) c h
  rw [this,Ma]
  omega
def qV:Sp:=λvs H Q _=>∃M Bs pool v0 v1,vs=[v0,v1]/\ap M H/\al (but H M) v0 (fA Bs)/\al (but H M) v1 (.lst pool)/\(∀x∈pool,x.sc=true)/\Bs.length<=3/\pool.length<=10/\
 ∀p us H',ab H H'->but H' M p=some (.lst us)->gJ (but H' M) us (cG pool Bs [[]])->Q (.ref p) H'
def JM{c:ZW}:D.tup a∈c.map D.tup↔a∈c:=by
 rw [LG]
 constructor
 .rintro ⟨b,d,e⟩
  have:b=a:=by injection e
  rw [<-this];exact d
 .exact λh=>⟨a,h,rfl⟩
end FL
namespace FL
open PySem L2
def iQ (pre:List D->Prop)(post:List D->D->Prop):Sp:=λvs H Q _=>∃M ds,ap M H/\az (but H M) vs ds/\pre ds/\∀d v H',post ds d->ab H H'->al (but H' M) v d->Q v H'
def qI{a:ZZ->Prop}(f:∀c,a c->c.length=n):∀d H Q E,iQ a b d H Q E->d.length=n:=λd H Q E g=>by obtain ⟨M,c,l,r,e,k⟩:=g;rw [r.length];exact f c e
section
variable {σ:St}{δ:Dn}{M:List Addr}{H:Hp}{t:TA}{E:Ends}{ds:List D}
end
def GP (x:D):Prop:=x.sc=true/\mz x/\aH x=decide (x∈dh)
structure kO (a:List D):Prop where
 ne:a≠[]
 hd:aH (a.headD .aq)=false
 ok:∀x∈a,x.sc=true/\mz x
 bl:∀x∈a.tail,aH x=decide (x∈dh)
 len:a.length<=10
def Jv{a:ZZ}(d:mz (.str r))(e:aH (.str r)=false)(b:∀x∈a,GP x)(f:a.length<=9):kO (.str r::a):=
 ⟨(λz=>nomatch z),e,(λx c=>by
  rcases Lw.mp c with z|z
  .rw [z];exact ⟨rfl,d⟩
  .exact ⟨(b x z).1,(b x z).2.1⟩),(λx c=>(b x c).2.2),(by rw [Ma];omega)⟩
def kO.kP(h:kO a):dz a:=⟨h.ok,h.ne,by have:=h.len;omega⟩
def Fz {c:ZW}(h:∀a∈c,kO a)(d:c.length<=100):y6 c:=⟨λa b=>⟨(h a b).ne,(h a b).hd⟩,λa b x e=>((h a b).ok x e).1,λa b=>(h a b).bl,d,λa b=>(h a b).len⟩
def tF:GP (.str "X"):=⟨rfl,⟨by decide,_,_,rfl⟩,Z9⟩
def sf:GP (.str "Xy"):=⟨rfl,⟨by decide,_,_,rfl⟩,Z9⟩
def qJ:GP (.str "Z"):=⟨rfl,⟨by decide,_,_,rfl⟩,Z9⟩
def nQ:∀x∈dh,GP x:=λx a=>by
 simp only [dh,Lw,L1,Mo] at a
 rcases a with rfl|rfl|rfl
 .exact tF
 .exact sf
 .exact qJ
def sn (i:Int):GP (.int i):=⟨rfl,trivial,by simp [dh,aH]⟩
structure tW (pool:List D):Prop where
 len:pool.length=3
 nodup:pool.Nodup
 gp:∀x∈pool,GP x
 nb:∀x∈pool,aH x=false
structure BI (base bs:List (List D)):Prop where
 ask:bs.filter (fun a=> !aK a)=base
 at_:∀a∈bs,kO a
 gd:∀g∈bs,aK g=true->(∃r x y,g=[.str r,x,y])/\∀b∈ai [] g,b∈aT [] base
 rj:base.length<=3
def Jl{B:ZY}(g:aH (.str r)=false)(i:aH x=true->x.name∈B)(j:aH y=true->y.name∈B):∀b∈ai [] [.str r,x,y],b∈B:=λb d=>by
 have e:ai [] [.str r,x,y]=ce (ce (ce [] (.str r)) x) y:=rfl
 rw [e,uC (B:=[]) g] at d
 have a:∀{C:ZY} {z:D},b∈ce C z->b∈C\/(aH z=true/\b=z.name):=λ{C z} h=>by
  unfold ce at h
  split at h
  .rename_i f
   rcases LI.mp h with w|w
   .exact .inl w
   .exact .inr ⟨by simp at f;exact f.1,by simpa using w⟩
  .exact .inl h
 rcases a d with w|⟨w,c⟩
 .rcases a w with w|⟨k,c⟩
  .cases w
  .rw [c];exact i k
 .rw [c];exact j w
def Iu{d:ZW}(h:∀a∈d,kO a)(g:b∈aT [] d):D.str b∈dh/\aH (.str b)=true:=by
 rcases sM g with z|⟨a,i,x,f,c,rfl⟩
 .cases z
 .have A:=h a i
  have e:=jp c
  cases a with
  |nil=>cases f
  |cons y r=>
   rcases Lw.mp f with z|z
   .subst z
    have:=A.hd
    rw [show aH x=false from this] at c;cases c
   .have:=A.bl x z
    rw [c] at this
    rw [<-e]
    exact ⟨LD this.symm,c⟩
end FL
namespace FL
open PySem L2
theorem xk:∀{l:ZZ},(∀x∈l,x.fx=true)->D.gw l=true
 |[],_=>by simp [D.gw]
 |x::r,h=>by
  rw [D.gw,h x Lj,xk λy a=>h y<|Lg _ a]
  rfl
def oy {d:D}(h:d.sc=true):d.fx=true:=by
 cases d<;>first|rfl|(simp [D.sc] at h)
def rm {l:ZZ}(h:∀x∈l,x.fx=true):(D.tup l).fx=true:=by rw [D.fx];exact xk h
def ji {l:ZZ}(h:∀x∈l,x.sc=true):(D.tup l).fx=true:=rm λx a=>oy<|h x a
def mT:HO->Bool
 |.lst _=>true|.dK _=>true|.dT _=>true|_=>false
mutual
theorem al.narrow {H:Hp}{M own:List Addr}(hk:∀a∈own,∃o,H a=some o/\mT o=true):∀{v:V} {d:D},d.fx=true->al (but H M) v d->al (but H (own++M)) v d
 |_,_,_,.aq=>.aq
 |_,_,_,.bl b=>.bl b
 |_,_,_,.int b=>.int b
 |_,_,_,.str b=>.str b
 |_,_,hd,.tup (a:=c) h r=>by
  refine .tup ?_ (az.narrow hk (by rw [D.fx] at hd;exact hd) r)
  obtain ⟨h1,h2⟩:=aw h
  rw [bf]
  ·exact h2
  ·intro z
   rcases mem_append.mp z with z|z
   ·obtain ⟨o,e,ko⟩:=hk c z
    rw [e] at h2;cases h2;cases ko
   ·exact h1 z
 |_,_,hd,.lst _ _=>by cases hd
theorem az.narrow {H:Hp}{M own:List Addr}(hk:∀a∈own,∃o,H a=some o/\mT o=true):∀{vs:List V} {ds:List D},D.gw ds=true->az (but H M) vs ds->az (but H (own++M)) vs ds
 |_,_,_,.nil=>.nil
 |_,_,hd,.cons h r=>by
  rw [D.gw,Bool.and_eq_true] at hd
  exact .cons (al.narrow hk hd.1 h) (az.narrow hk hd.2 r)
end
inductive dv (G:Hp):List (List aJ×V)->List (List D×D)->Prop
 |nil:dv G [] []
 |cons {v:V} {ks:List (List aJ×V)} {ps:List (List D×D)} {key:List D} {d:D}:bW key->al G v d->dv G ks ps->dv G ((bT key,v)::ks) ((key,d)::ps)
theorem dv.mono(e:ab G a):∀{b:List (List aJ×V)} {c:List (ZZ×D)},dv G b c->dv a b c
 |_,_,.nil=>.nil
 |_,_,.cons h r t=>.cons h (r.mono e)<|t.mono e
theorem dv.length:∀{a:List (List aJ×V)} {b:List (ZZ×D)},dv G a b->a.length=b.length
 |_,_,.nil=>rfl
 |_,_,.cons _ _ t=>Mq (· +1) t.length
def fE (ps:List (List D×D))(key:List D):Option D:=(ps.find? λp=>decide (p.1=key)).map (·.2)
def mQ (ps:List (List D×D))(key:List D)(d:D):List (List D×D):=
 if (ps.any λp=>decide (p.1=key))=true then ps.map (λp=>if p.1=key then (p.1,d) else p) else ps++[(key,d)]
theorem dv.val(f:bW a):∀{c:List (List aJ×V)} {b:List (ZZ×D)},dv G c b->(bm c (bT a)=none/\fE b a=none)\/∃v d,bm c (bT a)=some v/\fE b a=some d/\al G v d
 |_,_,.nil=>.inl ⟨rfl,rfl⟩
 |_,_,.cons (v:=v) (ks:=c) (ps:=b) (key:=k) (d:=d) h r t=>by
  by_cases e:k=a
  .subst e
   exact .inr ⟨v,d,fY rfl,by simp [fE],r⟩
  .have g:¬bT k=bT a:=λz=>e (pG h f z)
   have i:fE ((k,d)::b) a=fE b a:=by simp [fE,Mx,e]
   rw [fW (p:=(bT k,v)) g,i]
   exact t.val f
theorem dv.app:∀{a b:List (List aJ×V)} {c d:List (ZZ×D)},dv G a c->dv G b d->dv G (a++b) (c++d)
 |_,_,_,_,.nil,s=>s
 |_,_,_,_,.cons h r t,s=>.cons h r<|t.app s
theorem dv.mC(b:bW a)(r:al G v d):∀{f:List (List aJ×V)} {g:List (ZZ×D)},dv G f g->dv G (f.map λc=>if c.1=bT a then (c.1,v) else c) (g.map λp=>if p.1=a then (p.1,d) else p)
 |_,_,.nil=>.nil
 |_,_,.cons (v:=j) (key:=k) (d:=l) h i t=>by
  rw [Me,Me]
  by_cases e:k=a
  .rw [Lv (by rw [e]),Lv e];exact .cons h r<|t.mC b r
  .rw [Lq λz=>e<|pG h b z,Lq e];exact .cons h i<|t.mC b r
theorem wZ (a:ZZ):∀b:List (ZZ×D),(b.any λp=>decide (p.1=a))=(fE b a).isSome
 |[]=>rfl
 |p::r=>by
  rw [OJ,wZ a r]
  by_cases e:p.1=a
  .simp [fE,Mx,e]
  .simp [fE,Mx,e]
def dv.put(b:bW a)(r:al G v d)(t:dv G c f):dv G (ca c (bT a) v) (mQ f a d):=by
 unfold ca mQ
 have e:(c.any λi=>decide<|i.1=bT a)=(f.any λp=>decide<|p.1=a):=by
  rw [jI,wZ]
  rcases t.val b with ⟨g,h⟩|⟨v,d,g,h,_⟩<;>rw [g,h]<;>rfl
 rw [e]
 split
 .exact t.mC b r
 .exact t.app (.cons b r .nil)
def DK(h:fE b a=none):mQ b a d=b++[(a,d)]:=by
 unfold mQ
 rw [wZ,h]
 rfl
theorem sR (a:ZZ):∀b:List (ZZ×D),(fE b a).isSome=decide (a∈b.map (·.1))
 |[]=>rfl
 |p::r=>by
  by_cases e:p.1=a
  .simp [fE,Mx,e]
  .have c:fE (p::r) a=fE r a:=by simp [fE,Mx,e]
   have d:¬a=p.1:=λz=>e z.symm
   rw [c,sR a r]
   simp [d]
inductive Sl where
 |no
 |d (x:D)
 |l (xs:List D)
 |k (S:aP)
 |t (ps:List (List D×D))
 |kd (S:aP)
 |td (ps:List (List D×D))
def Sl.own:Sl->Bool
 |.l _=>true|.k _=>true|.t _=>true|_=>false
def Sl.uj:Sl->Option D
 |.d x=>some x|.l xs=>some (.lst xs)|_=>none
def Sl.dat:Sl->Option D
 |.d x=>some x|_=>none
def mH (G H:Hp)(own:List Addr)(o:Option (Option V)):Sl->Prop
 |.no=>True
 |.d x=>∃v,o=some (some v)/\al G v x
 |.l xs=>∃a us,o=some (some (.ref a))/\a∈own/\H a=some (.lst us)/\az G us xs
 |.k S=>∃a,o=some (some (.ref a))/\a∈own/\H a=some (.dK (cb [] (bK S)))/\∀p∈S,p.2.sc=true
 |.t ps=>∃a kvs,o=some (some (.ref a))/\a∈own/\H a=some (.dT kvs)/\dv G kvs ps
 |.kd S=>∃a,o=some (some (.ref a))/\G a=some (.dK (cb [] (bK S)))/\∀p∈S,p.2.sc=true
 |.td ps=>∃a kvs,o=some (some (.ref a))/\G a=some (.dT kvs)/\dv G kvs ps
def iL (G:Hp)(o:Option (Option V)):Sl->Prop
 |.no=>True
 |.d x=>∃v,o=some (some v)/\al G v x
 |.l xs=>∃v,o=some (some v)/\al G v (.lst xs)
 |.k S=>∃a,o=some (some (.ref a))/\G a=some (.dK (cb [] (bK S)))/\∀p∈S,p.2.sc=true
 |.t ps=>∃a kvs,o=some (some (.ref a))/\G a=some (.dT kvs)/\dv G kvs ps
 |.kd S=>∃a,o=some (some (.ref a))/\G a=some (.dK (cb [] (bK S)))/\∀p∈S,p.2.sc=true
 |.td ps=>∃a kvs,o=some (some (.ref a))/\G a=some (.dT kvs)/\dv G kvs ps
theorem iL.mono(e:ab G c):∀{s:Sl},iL G o s->iL c o s
 |.no,_=>trivial
 |.d _,⟨v,h,r⟩=>⟨v,h,r.mono e⟩
 |.l _,⟨v,h,r⟩=>⟨v,h,r.mono e⟩
 |.k _,⟨a,h,r,z⟩=>⟨a,h,e _ _ r,z⟩
 |.t _,⟨a,b,h,r,z⟩=>⟨a,b,h,e _ _ r,z.mono e⟩
 |.kd _,⟨a,h,r,z⟩=>⟨a,h,e _ _ r,z⟩
 |.td _,⟨a,b,h,r,z⟩=>⟨a,b,h,e _ _ r,z.mono e⟩
structure bP (G:Hp)(σ:St)(δ:List Sl):Prop where
 len:σ.length=δ.length
 get:∀(i:Nat) (s:Sl),δ[i]?=some s->iL G σ[i]? s
theorem bP.mono(h:bP G b c)(e:ab G a):bP a b c:=⟨h.len,λi s q=>(h.get i s q).mono e⟩
def bP.env(h:bP G b a):ax G b (a.map Sl.uj):=by
 refine ⟨by rw [Ll];exact h.len,λi d q=>?_⟩
 rw [LA] at q
 cases e:a[i]? with
 |none=>rw [e] at q;cases q
 |some s=>
  rw [e] at q
  have q:s.uj=some d:=LB q
  have w:=h.get i s e
  cases s with
  |no=>cases q
  |d x=>cases q;exact w
  |l x=>cases q;exact w
  |k x=>cases q
  |t x=>cases q
  |kd x=>cases q
  |td x=>cases q
def bP.v{i:Nat}(h:bP G b a)(e:(a[i]?).bind Sl.uj=some d):ae (aY i) G b d:=by
 refine aG h.env (d:=d) ?_
 rw [LA]
 cases q:a[i]? with
 |none=>rw [q] at e;cases e
 |some s=>rw [q] at e;exact Mq some e
def ax.vd{a:List Sl}{i:Nat}(h:ax G b (a.map Sl.dat))(e:(a[i]?).bind Sl.dat=some d):ae (aY i) G b d:=by
 refine aG h (d:=d) ?_
 rw [LA]
 cases q:a[i]? with
 |none=>rw [q] at e;cases e
 |some s=>rw [q] at e;exact Mq some e
structure Bx (B:Hp)(M0 own:List Addr)(σ:St)(H:Hp)(δ:List Sl):Prop where
 len:σ.length=δ.length
 same:ab B H
 f8:ap M0 B
 kind:∀a∈own,B a=none/\∃o,H a=some o/\mT o=true
 slot:∀(i:Nat) (s:Sl),δ[i]?=some s->mH (but H (own++M0)) H own σ[i]? s
 apart:∀(i j:Nat) (s t:Sl) (a:Addr),i≠j->δ[i]?=some s->δ[j]?=some t->s.own=true->t.own=true->σ[i]?=some (some (.ref a))->σ[j]?=some (some (.ref a))->False
section
variable {B:Hp}{M0 own:List Addr}{σ:St}{H H':Hp}{δ:List Sl}
theorem mH.mono(e:ab G c)(k:∀a∈own,∀u,H a=some u->H' a=some u):∀{s:Sl},mH G H own o s->mH c H' own o s
 |.no,_=>trivial
 |.d _,⟨v,h,r⟩=>⟨v,h,r.mono e⟩
 |.l _,⟨a,f,h,m,q,r⟩=>⟨a,f,h,m,k a m _ q,r.mono e⟩
 |.k _,⟨a,h,m,q,z⟩=>⟨a,h,m,k a m _ q,z⟩
 |.t _,⟨a,b,h,m,q,z⟩=>⟨a,b,h,m,k a m _ q,z.mono e⟩
 |.kd _,⟨a,h,r,z⟩=>⟨a,h,e _ _ r,z⟩
 |.td _,⟨a,b,h,r,z⟩=>⟨a,b,h,e _ _ r,z.mono e⟩
def Bx.live (b:Bx B M0 own σ H δ):ap M0 H:=b.f8.same b.same
def Bx.out(b:Bx B M0 own σ H δ)(h:a∈own):a∉M0:=λz=>b.f8 a z (b.kind a h).1
def Bx.kd (b:Bx B M0 own σ H δ):∀a∈own,∃o,H a=some o/\mT o=true:=λa h=>(b.kind a h).2
def Bx.hX (b:Bx B M0 own σ H δ):ap (own++M0) H:=λa c=>by
 rcases LI.mp c with z|z
 .obtain ⟨o,e,_⟩:=b.kd a z
  rw [e];exact λz=>nomatch z
 .exact b.live a z
def Bx.seen (b:Bx B M0 own σ H δ):ab (but H (own++M0)) (but H M0):=dR λa h=>Lr _ h
def Bx.wide (b:Bx B M0 own σ H δ):bP (but H M0) σ δ:=⟨b.len,λi s q=>by
 have w:=b.slot i s q
 cases s with
 |no=>trivial
 |d x=>obtain ⟨v,h,r⟩:=w;exact ⟨v,h,r.mono b.seen⟩
 |l x=>obtain ⟨a,f,h,m,e,r⟩:=w;exact ⟨.ref a,h,.lst (by rw [bf<|b.out m];exact e)<|r.mono b.seen⟩
 |k x=>obtain ⟨a,h,m,e,r⟩:=w;exact ⟨a,h,by rw [bf<|b.out m];exact e,r⟩
 |t x=>obtain ⟨a,c,h,m,e,r⟩:=w;exact ⟨a,c,h,by rw [bf<|b.out m];exact e,r.mono b.seen⟩
 |kd x=>exact iL.mono (s:=.kd x) b.seen w
 |td x=>exact iL.mono (s:=.td x) b.seen w⟩
def Bx.iV (b:Bx B M0 own σ H δ):ax (but H (own++M0)) σ (δ.map Sl.dat):=by
 refine ⟨by rw [Ll];exact b.len,λi d q=>?_⟩
 rw [LA] at q
 cases e:δ[i]? with
 |none=>rw [e] at q;cases q
 |some s=>
  rw [e] at q
  have q:s.dat=some d:=LB q
  have w:=b.slot i s e
  cases s with
  |no=>cases q
  |d x=>cases q;exact w
  |l x=>cases q
  |k x=>cases q
  |t x=>cases q
  |kd x=>cases q
  |td x=>cases q
def Bx.grow (b:Bx B M0 own σ H δ)(s:ab H H'):Bx B M0 own σ H' δ:=
 ⟨b.len,b.same.trans s,b.f8,λa h=>⟨(b.kind a h).1,let ⟨o,e,k⟩:=b.kd a h;⟨o,s _ _ e,k⟩⟩,λi t q=>(b.slot i t q).mono (s.but _) λa _ u e=>s _ _ e,b.apart⟩
def M5{l:List b}{j:Nat}(h:(l.set i x)[j]?=some s):(i=j/\s=x/\i<l.length)\/(i≠j/\l[j]?=some s):=by
 by_cases e:i=j
 .subst e
  by_cases a:i<l.length
  .rw [Lx a] at h
   exact .inl ⟨rfl,(LB h).symm,a⟩
  .rw [Mh (by simpa using L8 a)] at h;cases h
 .rw [Lm e] at h
  exact .inr ⟨e,h⟩
theorem Bx.set(b:Bx B M0 own σ H δ)(i:Nat)(r:al (but H (own++M0)) v x):Bx B M0 own (σ.set i (some v)) H (δ.set i (.d x)):=by
 refine ⟨by simp [b.len],b.same,b.f8,b.kind,λj s q=>?_,λj k s t a m c e f g h l=>?_⟩
 .rcases M5 q with ⟨rfl,rfl,n⟩|⟨o,q⟩
  .exact ⟨v,Lx (by rw [b.len];exact n),r⟩
  .rw [Lm o];exact b.slot j s q
 .rcases M5 c with ⟨rfl,rfl,_⟩|⟨p,c⟩
  .cases f
  .rcases M5 e with ⟨rfl,rfl,_⟩|⟨u,e⟩
   .cases g
   .rw [Lm p] at h
    rw [Lm u] at l
    exact b.apart j k s t a m c e f g h l
def Jz {H:Hp}{M:ZX}{p:Addr}{o:HO}(h:H p=none):but (upd H p o) (p::M)=but H M:=by
 funext c
 unfold FL.but
 by_cases e:c=p
 .subst e
  rw [Lv Lj]
  split
  .rfl
  .exact h.symm
 .by_cases z:c∈M
  .rw [Lv (Lg _ z),Lv z]
  .rw [Lq (λw=>by rcases Lw.mp w with w|w;exact e w;exact z w),Lq z,aA e]
def Bx.new(b:Bx B M0 own σ H δ)(i:Nat)(n:H p=none)(ho:mT o=true)(hs:mH (but H (own++M0)) (upd H p o) (p::own) (some (some (.ref p))) s):Bx B M0 (p::own) (σ.set i (some (.ref p))) (upd H p o) (δ.set i s):=by
 have eb:but (upd H p o) (p::own++M0)=but H (own++M0):=Jz n
 have c:∀{a:Addr},a∈own->a≠p:=λ{a} G=>by
  obtain ⟨u,e,_⟩:=b.kd a G
  exact cU e n
 have hB:B p=none:=by
  cases q:B p with
  |none=>rfl
  |some u=>rw [b.same _ _ q] at n;cases n
 refine ⟨by simp [b.len],b.same.trans<|c8 n o,b.f8,λa G=>?_,λj t q=>?_,λj k s' t' a M h1 N O Q v g=>?_⟩
 .rcases Lw.mp G with z|z
  .exact ⟨by rw [z];exact hB,o,by rw [z];exact aN,ho⟩
  .obtain ⟨u,e,ku⟩:=b.kd a z
   exact ⟨(b.kind a z).1,u,by rw [aA<|c z];exact e,ku⟩
 .rw [eb]
  rcases M5 q with ⟨rfl,rfl,y⟩|⟨ne,q⟩
  .rw [Lx (by rw [b.len];exact y)];exact hs
  .rw [Lm ne]
   have w:=b.slot j t q
   have keep:∀{a:Addr} {u:HO},a∈own->H a=some u->upd H p o a=some u:=λ{a u} m e=>by rw [aA<|c m];exact e
   cases t with
   |no=>trivial
   |d x=>exact w
   |l x=>obtain ⟨a,T,h,m,e,r⟩:=w;exact ⟨a,T,h,Lg _ m,keep m e,r⟩
   |k x=>obtain ⟨a,h,m,e,r⟩:=w;exact ⟨a,h,Lg _ m,keep m e,r⟩
   |t x=>obtain ⟨a,A,h,m,e,r⟩:=w;exact ⟨a,A,h,Lg _ m,keep m e,r⟩
   |kd x=>exact w
   |td x=>exact w
 .have f:∀{m:Nat} {s:Sl},δ[m]?=some s->s.own=true->∀{a:Addr},σ[m]?=some (some (.ref a))->a∈own:=λ{m s} h E {a} I=>by
   have w:=b.slot m s h
   cases s with
   |no=>cases E
   |d x=>cases E
   |l x=>obtain ⟨U,T,h,C,_⟩:=w;rw [I] at h;cases h;exact C
   |k x=>obtain ⟨U,h,C,_⟩:=w;rw [I] at h;cases h;exact C
   |t x=>obtain ⟨U,A,h,C,_⟩:=w;rw [I] at h;cases h;exact C
   |kd x=>cases E
   |td x=>cases E
  rcases M5 h1 with ⟨rfl,_,y⟩|⟨n1,Y⟩
  .rw [Lx (by rw [b.len];exact y)] at v
   cases v
   rcases M5 N with ⟨rfl,_,_⟩|⟨J,L⟩
   .exact M rfl
   .rw [Lm J] at g
    exact c (f L Q g) rfl
  .rw [Lm n1] at v
   rcases M5 N with ⟨rfl,_,y⟩|⟨J,L⟩
   .rw [Lx (by rw [b.len];exact y)] at g
    cases g
    exact c (f Y O v) rfl
   .rw [Lm J] at g
    exact b.apart j k s' t' a M Y L O Q v g
def Bx.put(b:Bx B M0 own σ H δ){i:Nat}(v:δ[i]?=some s)(y:s.own=true)(A:a∈own)(e:σ[i]?=some (some (.ref a)))(G:mT o=true)(h:mH (but H (own++M0)) (upd H a o) own (some (some (.ref a))) g)(I:g.own=true):Bx B M0 own σ (upd H a o) (δ.set i g):=by
 have J:but (upd H a o) (own++M0)=but H (own++M0):=dw<|Lu _ A
 refine ⟨by simp [b.len],λc u q=>?_,b.f8,λc C=>?_,λj t q=>?_,λj k s1 t1 c L M N O Q T U=>?_⟩
 .rw [aA λz:c=a=>by rw [z,(b.kind a A).1] at q;cases q];exact b.same _ _ q
 .refine ⟨(b.kind c C).1,?_⟩
  by_cases z:c=a
  .exact ⟨o,by rw [z];exact aN,G⟩
  .rw [aA z];exact b.kd c C
 .rw [J]
  rcases M5 q with ⟨rfl,rfl,_⟩|⟨Y,q⟩
  .rw [e];exact h
  .have w:=b.slot j t q
   have keep:∀{c:Addr} {u:HO},t.own=true->σ[j]?=some (some (.ref c))->H c=some u->upd H a o c=some u:=λ{c u} kt ec hu=>by
    rw [aA λz:c=a=>by subst z;exact b.apart i j s t c Y v q y kt e ec];exact hu
   cases t with
   |no=>trivial
   |d x=>exact w
   |l x=>obtain ⟨c,us,h,m,e,r⟩:=w;exact ⟨c,us,h,m,keep rfl h e,r⟩
   |k x=>obtain ⟨c,h,m,e,r⟩:=w;exact ⟨c,h,m,keep rfl h e,r⟩
   |t x=>obtain ⟨c,n,h,m,e,r⟩:=w;exact ⟨c,n,h,m,keep rfl h e,r⟩
   |kd x=>exact w
   |td x=>exact w
 .have f:∀{m:Nat} {u:Sl},(δ.set i g)[m]?=some u->u.own=true->∃E,δ[m]?=some E/\E.own=true:=λ{m u} p ku=>by
   rcases M5 p with ⟨rfl,rfl,_⟩|⟨_,p⟩
   .exact ⟨s,v,y⟩
   .exact ⟨u,p,ku⟩
  obtain ⟨u1,g1,m1⟩:=f M O
  obtain ⟨u2,g2,m2⟩:=f N Q
  exact b.apart j k u1 u2 c L g1 g2 m1 m2 T U
def Bx.show(b:Bx B M0 own σ H δ){i:Nat}(y:δ[i]?=some (.l u)):∃f,Bx B M0 f σ H (δ.set i (.d (.lst u))):=by
 obtain ⟨a,A,e,m,G,r⟩:=b.slot i _ y
 refine ⟨own.filter λc=>decide<|c≠a,by simp [b.len],b.same,b.f8,λc g=>b.kind c (Ly.mp g).1,λj t q=>?_,λj k I J c L n o C E M N=>?_⟩
 .have S:ab (but H<|own++M0) (but H<|own.filter (λc=>decide<|c≠a)++M0):=dR λc g=>by
   rcases LI.mp g with z|z
   .exact Lu _ (Ly.mp z).1
   .exact Lr _ z
  rcases M5 q with ⟨rfl,rfl,_⟩|⟨O,q⟩
  .refine ⟨.ref a,e,.lst ?_ (r.mono S)⟩
   rw [bf]
   .exact G
   .intro z
    rcases LI.mp z with z|z
    .exact absurd rfl<|LD (Ly.mp z).2
    .exact b.out m z
  .have w:=b.slot j t q
   have keep:∀{c:Addr},t.own=true->σ[j]?=some (some (.ref c))->c∈own->c∈own.filter (λc=>decide<|c≠a):=λ{c} Q T U=>
    Ly.mpr ⟨U,LH λz=>by subst z;exact b.apart i j _ t c O y q rfl Q e T⟩
   cases t with
   |no=>trivial
   |d x=>obtain ⟨v,h,r⟩:=w;exact ⟨v,h,r.mono S⟩
   |l x=>obtain ⟨c,A,h,m,e,r⟩:=w;exact ⟨c,A,h,keep rfl h m,e,r.mono S⟩
   |k x=>obtain ⟨c,h,m,e,r⟩:=w;exact ⟨c,h,keep rfl h m,e,r⟩
   |t x=>obtain ⟨c,p,h,m,e,r⟩:=w;exact ⟨c,p,h,keep rfl h m,e,r.mono S⟩
   |kd x=>exact iL.mono (s:=.kd x) S w
   |td x=>exact iL.mono (s:=.td x) S w
 .rcases M5 n with ⟨rfl,rfl,_⟩|⟨Y,n⟩
  .cases C
  .rcases M5 o with ⟨rfl,rfl,_⟩|⟨n2,o⟩
   .cases E
   .exact b.apart j k I J c L n o C E M N
def Bx.base (b:Bx B M0 own σ H δ):Bx (but H own) M0 own σ H δ:=by
 refine ⟨b.len,tN H own,λa ha=>?_,λa ha=>⟨by unfold FL.but;rw [Lv ha],b.kd a ha⟩,b.slot,b.apart⟩
 rw [bf (λz=>b.out z ha)]
 exact b.live a ha
def Bx.back(b:Bx c M0 own σ H δ)(s:ab B c)(l:ap M0 B):Bx B M0 own σ H δ:=
 ⟨b.len,s.trans b.same,l,λa d=>⟨(by
  cases q:B a with
  |none=>rfl
  |some u=>exact absurd (b.kind a d).1 (by rw [s _ _ q];exact λz=>nomatch z)),b.kd a d⟩,b.slot,b.apart⟩
def Bx.sub (b:Bx B M0 own σ H δ):ab B (but H own):=λc u q=>by
 rw [bf λz=>by rw [(b.kind c z).1] at q;cases q]
 exact b.same _ _ q
end
def aW (B:Hp)(M0:List Addr)(δ:List Sl)(P:St->Hp->Prop):Prop:=∀own σ H,Bx B M0 own σ H δ->P σ H
def aW.run(b:Bx B d a c H e)(h:aW B d e P):P c H:=h a c H b
theorem aW.back(h:aW B a e P)(s:ab B d)(l:ap a B):aW d a e P:=λc f H b=>h c f H<|b.back s l
def hJ {M:ZX}{H:Hp}{vs:List V}{ds:ZZ}(l:ap M H)(r:az (but H M) vs ds)(N:ZY):Bx H M [] (L2.start N vs) H (ds.map Sl.d++List.replicate (N.length-ds.length) .no):=by
 have E:=gN r N
 refine ⟨?_,ab.refl _,l,(λa ha=>nomatch ha),λi s q=>?_,λi j s t a _ hs _ ks _ _ _=>?_⟩
 .rw [E.len];simp
 .by_cases hi:i<ds.length
  .rw [LO (by simpa using hi),LA,Lk hi] at q
   have q:=LB q
   subst q
   refine E.get i ds[i] ?_
   rw [LO (by simpa using hi),LA,Lk hi]
   rfl
  .rw [LQ (by simpa using L8 hi)] at q
   obtain ⟨h1,h2⟩:=Li.mp q
   simp at h2
   subst h2
   trivial
 .by_cases hi:i<ds.length
  .rw [LO (by simpa using hi),LA,Lk hi] at hs
   have q:=LB hs
   subst q
   cases ks
  .rw [LQ (by simpa using L8 hi)] at hs
   obtain ⟨h1,h2⟩:=Li.mp hs
   simp at h2
   subst h2
   cases ks
section
variable {B:Hp}{M0:List Addr}{δ:List Sl}{E:Ends}{te ty tv:TE}{t:TA}{tt:TT}{d:D}{ds xs:List D}{K:PySem.W.Frag}
def el(h:∀G a,bP G a δ->ae te G a d)(e:d.fx=true)(k:aW B M0 (δ.set i (.d d)) E.nx):aW B M0 δ (dZ te (cf i) E):=λc a H b=>
 (h _ a b.wide).at b.live λv f s r=>k c _ f<|(b.grow s).set i<|al.narrow (b.grow s).kd e r
def gW(h:∀G a,ax G a (δ.map Sl.dat)->ae te G a d)(k:aW B M0 (δ.set i (.d d)) E.nx):aW B M0 δ (dZ te (cf i) E):=λc a H b=>
 (h _ a b.iV).at b.hX λv e s r=>k c _ e<|(b.grow s).set i r
def f7 (h:∀G c,bP G c δ->ae te G c d)(k:∀v a,ab B a->al (but a M0) v d->E.rt v a):aW B M0 δ (m8 te E):=λe c H b=>
 (h _ c b.wide).at b.live λv a s r=>k v a (b.same.trans s) r
def fP{i j:TS}(h:∀G a,bP G a δ->bJ tt G a b)(k:b=true->aW B M0 δ (i E))(l:b=false->aW B M0 δ (j E)):aW B M0 δ (mK tt i j E):=λc a H f=>
 yE f.live (h _ a f.wide) (λe g s=>k e c a g<|f.grow s) (λe g s=>l e c a g<|f.grow s)
def Kr{c e:TS}(P:List Sl->Prop)(h:∀G f,bP G f δ->bJ tt G f b)(i:(∀a,P a->aW B M0 a E.nx)->b=true->aW B M0 δ (c E))(j:(∀a,P a->aW B M0 a E.nx)->b=false->aW B M0 δ (e E))(g:∀a,P a->aW B M0 a E.nx):aW B M0 δ (mK tt c e E):=
 fP h (i g) (j g)
def ik (h:aW B M0 δ E.nx):aW B M0 δ (rV E):=h
def Ju(h:∀G a,ax G a (δ.map Sl.dat)->dO t G a ds)(f:ds.length<=sizeLine)(k:aW B M0 (δ.set i (.l ds)) E.nx):aW B M0 δ (dZ (jG t) (cf i) E):=λc a H b=>
 h _ a b.iV _ H (ab.refl _) b.hX _ λg n j e=>⟨by rw [e.length];exact f,λp m=>k (p::c) _ _<|(b.grow j).new i m rfl ⟨p,g,rfl,Lj,aN,e⟩⟩
def rl(k:aW B M0 (δ.set i (.l [])) E.nx):aW B M0 δ (dZ (jG bB) (cf i) E):=Ju (λ_ _ _=>ag) (LP _) k
def uP {j:Nat}(g:δ[j]?=some (.l xs))(h:∀G c,bP G c δ->ae te G c d)(p:d.fx=true)(q:xs.length<sizeLine)(k:aW B M0 (δ.set j (.l (xs++[d]))) E.nx):aW B M0 δ (j6 (ma K "list" n0 (aY j) (bn te bB)) E):=λf c H b=>by
 obtain ⟨a,i,e,m,n,r⟩:=b.slot j _ g
 refine ⟨.ref a,e,(show gM K "list" (.ref a) H from .inl ⟨rfl,i,aQ.of n⟩),(h _ c b.wide).at b.live λv w s u=>?_⟩
 have o:=b.grow s
 refine ⟨a,i,v,rfl,rfl,s _ _ n,by rw [r.length];exact q,k f c _<|o.put g rfl m e rfl ⟨a,_,rfl,m,aN,?_⟩ rfl⟩
 exact (r.mono<|s.but _).snoc<|al.narrow o.kd p u
def AJ{j:Nat}(i:δ[j]?=some (.l xs))(h:∀G f,ax G f (δ.map Sl.dat)->ae te G f (.lst ys))(q:xs.length+ys.length<=sizeLine)(k:aW B M0 (δ.set j (.l (xs++ys))) E.nx):aW B M0 δ (j6 (ma K "list" Cc (aY j) (bn te bB)) E):=λg f H b=>by
 obtain ⟨a,n,e,m,o,r⟩:=b.slot j _ i
 refine ⟨.ref a,e,(show gM K "list" (.ref a) H from .inl ⟨rfl,n,aQ.of o⟩),(h _ f b.iV).at b.hX λv z s u=>?_⟩
 have w:=b.grow s
 obtain ⟨c,x,rfl,y,p⟩:=u.dI
 refine ⟨a,c,n,x,rfl,rfl,s _ _ o,(aw y).2,by rw [r.length,p.length];exact q,k g f _<|w.put i rfl m e rfl ⟨a,_,rfl,m,aN,?_⟩ rfl⟩
 exact (r.mono<|s.but _).append p
def Kp(k:aW B M0 (δ.set i (.t [])) E.nx):aW B M0 δ (dZ Bi (cf i) E):=λa e H b=>λp c=>
 k (p::a) _ _ (b.new i c rfl ⟨p,[],rfl,Lj,aN,.nil⟩)
def Gj{j:Nat}(n:δ[j]?=some (.t i))(o:bW key)(q:∀G f,ax G f (δ.map Sl.dat)->ae tv G f d)(r:∀G f,bP G f δ->ae ty G f (.tup key))(s:i.length<1000)(k:aW B M0 (δ.set j (.t (mQ i key d))) E.nx):aW B M0 δ (tq (aY j) ty tv E):=λl f H b=>by
 refine (q _ f b.iV).at b.hX λv J u w=>?_
 have b1:=b.grow u
 obtain ⟨a,x,e,m,z,p⟩:=b1.slot j _ n
 refine ⟨.ref a,e,(r _ f b1.wide).at b1.live λy L h A=>?_⟩
 have b2:=b1.grow h
 obtain ⟨c,M,rfl,C,I⟩:=A.eP
 have g:=(aw C).2
 rw [mj o I] at g
 refine ⟨a,_,rfl,gu.t (k:=bT key) (h _ _ z) g<|cp (by rw [p.length];exact MK s),k l f _<|b2.put n rfl m e rfl ⟨a,_,rfl,m,aN,(p.mono<|h.but _).put o<|w.mono<|h.but _⟩ rfl⟩
end
section
variable {G:Hp}{σ:St}{δ:List Sl}{ty:TE}{d:D}{j:Nat}
def cT.BO{H:Hp}{ps:List (ZZ×D)}(g:H a=some (.dT e))(h:bW b)(r:al (but H M) v (.tup b)):cT H a v (bm e (bT b)):=by
 obtain ⟨c,l,rfl,i,k⟩:=r.eP
 have f:=(aw i).2
 rw [mj h k] at f
 exact cT.t g f
def bP.Hs(e:bP G σ δ)(o:δ[j]?=some (.t c))(g:bW b)(h:ae ty G σ (.tup b)):ae (oJ ty (aY j)) G σ (.bl (decide (b∈c.map (·.1)))):=λM H s l Q k=>h M H s l _ λv p i q=>by
 obtain ⟨a,f,r,u,w⟩:=(e.mono s).get j _ o
 have x:=i _ _ (aw u).2
 refine ⟨.ref a,r,a,_,rfl,cT.BO (ps:=c) x g q,?_⟩
 have y:(bm f<|bT b).isSome=decide (b∈c.map (·.1)):=by
  rw [<-sR]
  rcases w.val g with ⟨m,n⟩|⟨v,d,m,n,_⟩<;>rw [m,n]<;>rfl
 rw [y]
 exact k _ p i (.bl _)
def bP.zP(e:bP G σ δ)(o:δ[j]?=some (.t c))(g:bW b)(h:ae ty G σ (.tup b)):ae (nz ty (aY j)) G σ (.bl (!decide (b∈c.map (·.1)))):=λM H s l Q k=>h M H s l _ λv p i q=>by
 obtain ⟨a,f,r,u,w⟩:=(e.mono s).get j _ o
 have x:=i _ _ (aw u).2
 refine ⟨.ref a,r,a,_,rfl,cT.BO (ps:=c) x g q,?_⟩
 have y:(bm f<|bT b).isSome=decide (b∈c.map (·.1)):=by
  rw [<-sR]
  rcases w.val g with ⟨m,n⟩|⟨v,d,m,n,_⟩<;>rw [m,n]<;>rfl
 rw [y]
 exact k _ p i (.bl _)
end
def dQ (B:Hp)(M0:List Addr)(δ:List Sl)(wi:TI)(ds:List D):Prop:=∀own σ H,Bx B M0 own σ H δ->∀R:It->Hp->Prop,
 (∀J H1,ab H H1->(∀(j:Nat) d M' H',ds[j]?=some d->ab (but H1 (own++M0)) (but H' M')->ap M' H'->J.go j H'/\∀x H'',J.nl j H' x H''->ab H' H''/\al (but H'' M') x d)->(∀M' H',ab (but H1 (own++M0)) (but H' M')->J.stop ds.length H')->R J H1)->wi σ H R
section
variable {B:Hp}{M0:List Addr}{δ:List Sl}{E:Ends}{wi:TI}{g:TG}{tb:TS}{t:TA}{ds:List D}
def dQ.of (h:∀G a,ax G a (δ.map Sl.dat)->Walk wi G a ds):dQ B M0 δ wi ds:=λc a H b R k=>h _ a b.iV _ H (ab.refl _) b.hX R k
def dQ.xp {n:Nat}(w:n<2^62)(h:∀G a,bP G a δ->dO t G a [.int n]):dQ B M0 δ (uN t) ((List.range n).map λ(k:Nat)=>D.int (0+k)):=λc a H b R k=>h _ a b.wide _ H (ab.refl _) b.live _ λy f i l=>by
 obtain ⟨x,rfl,m⟩:=iR l
 refine ⟨(n:Int),by rw [m.dL],by omega,by omega,?_⟩
 refine k _ f i (λj d o p q r z=>?_) λo p r=>?_
 .obtain ⟨A,rfl⟩:=oF 0 n j d q
  refine ⟨by show j<((n:Int)).toNat;omega,λx s u=>?_⟩
  obtain ⟨e,v⟩:=u
  subst e;subst v
  exact ⟨ab.refl _,.int _⟩
 .show ((n:Int)).toNat<=_
  simp
abbrev ou (E:Ends)(B:Hp)(M0:List Addr)(P:List Sl->Prop):Ends:={E with nx:=λσ H=>∃own δ,Bx B M0 own σ H δ/\P δ,ct:=λσ H=>∃own δ,Bx B M0 own σ H δ/\P δ,bk:=E.nx}
def eR {P:List Sl->Prop}(h:P δ):aW B M0 δ (ou E B M0 P).nx:=λa c H b=>⟨a,δ,b,h⟩
def xq (Q:dQ B M0 δ wi ds)(Pv:Nat->List Sl->Prop)(T:Pv 0 δ)
  (k:∀A,ab B A->(∀a,aW B M0 a E.nx->aW A M0 a E.nx)->∀(j:Nat) x a,ds[j]?=some x->Pv j a->∀f C H v,Bx A M0 f C H a->al (but H (f++M0)) v x->g v C H (tb (ou E A M0 (Pv (j+1)))))
  (o:∀a,Pv ds.length a->aW B M0 a E.nx):aW B M0 δ (lK wi g tb E):=λf C H b=>Q f C H b _ λJ r U G l=>by
 have b1:=b.grow U
 have I:ab B (but r f):=b1.sub
 refine ⟨λj m i n=>m=ds.length-j/\j<=ds.length/\∃d a,Bx (but r f) M0 d i n a/\Pv j a,⟨ds.length,by simp,LP _,f,δ,b1.base,T⟩,?_⟩
 rintro j m i n ⟨rfl,hj,d,a,s,p⟩
 have M:ab (but r<|f++M0) (but n<|d++M0):=λc u q=>by
  obtain ⟨N,Y⟩:=aw q
  have L:but r f c=some u:=by rw [bf λz=>N<|Lu _ z];exact Y
  rw [bf]
  .exact s.same _ _ L
  .intro z
   rcases LI.mp z with z|z
   .rw [(s.kind c z).1] at L;cases L
   .exact N<|Lr _ z
 by_cases w:j<ds.length
 .have O:ds[j]?=some ds[j]:=Lk w
  obtain ⟨go,gy⟩:=G j _ (d++M0) n O M s.hX
  refine .inr ⟨go,_,λac H2 p2=>⟨ds.length-(j+1),by omega,rfl,w,p2⟩,λx y hy=>?_⟩
  obtain ⟨s3,rx⟩:=gy x y hy
  exact k (but r f) I (λa h=>h.back I b.f8) j _ a O p d i y x (s.grow s3) rx
 .have e:j=ds.length:=by omega
  subst e
  exact .inl ⟨l (d++M0) n M,o a p d i n<|s.back I b.f8⟩
def gP(l:dQ B M0 δ wi ds)(Pv:Nat->List Sl->Prop)(m:Pv 0 δ)
  (c:∀e,ab B e->(∀a,aW B M0 a E.nx->aW e M0 a E.nx)->∀(j:Nat) x a,ds[j]?=some x->Pv j a->aW e M0 (a.set i (.d x)) (tb (ou E e M0 (Pv (j+1)))))
  (f:∀a,Pv ds.length a->aW B M0 a E.nx):aW B M0 δ (lK wi (cf i) tb E):=
 xq l Pv m (λe s k j x a n p h o H v b r=>c e s k j x a n p h _ H<|b.set i r) f
def DC{K:W.Frag}(o:dQ B M0 δ wi ds)(Pv:Nat->List Sl->Prop)(q:Pv 0 δ)
  (c:∀e,ab B e->(∀a,aW B M0 a E.nx->aW e M0 a E.nx)->∀(j:Nat) x a,ds[j]?=some x->Pv j a->∃l m,x=.tup [l,m]/\aW e M0 ((a.set i (.d l)).set i' (.d m)) (tb (ou E e M0 (Pv (j+1)))))
  (f:∀a,Pv ds.length a->aW B M0 a E.nx):aW B M0 δ (lK wi (na K 2 (jU (cf i) (jU (cf i') pH))) tb E):=
 xq o Pv q (λe s k j x a u p n z H v b r=>by
  obtain ⟨l,m,rfl,h⟩:=c e s k j x a u p
  exact nZ r λA C w y=>h n _ H<|(b.set i w).set i' y) f
def EE(Pv:Nat->List Sl->Prop)(v:Nat)(z:Pv v δ)
  (i:∀j,ab B j->(∀a,aW B M0 a E.nx->aW j M0 a E.nx)->∀m a,Pv m a->∃c:Bool,(∀G q,bP G q a->bJ u G q c)/\(c=true->aW j M0 a (tb (ou E j M0 λk=>∃n,n<m/\Pv n k)))/\(c=false->aW j M0 a E.nx)):
  aW B M0 δ (Cb u tb E):=λf q H b=>by
 have w:ab B (but H f):=b.sub
 refine ⟨λm e r=>∃d a,Bx (but H f) M0 d e r a/\Pv m a,⟨v,f,δ,b.base,z⟩,?_⟩
 rintro m e r ⟨d,a,o,p⟩
 obtain ⟨c,A,C,I⟩:=i (but H f) w (λa h=>h.back w b.f8) m a p
 refine A _ e o.wide _ r (ab.refl _) o.live _ λx y=>?_
 cases c with
 |true=>
  rw [Lv rfl]
  refine ⟨_,λJ O L=>?_,C rfl d e x<|o.grow y⟩
  obtain ⟨l,s,b2,n,M,N⟩:=L
  exact ⟨n,M,l,s,b2,N⟩
 |false=>
  rw [Lq Ls]
  exact I rfl d e x<|o.grow y
def Js{i:Nat}(c:δ[i]?=some (.l xs))(k:aW B M0 (δ.set i (.d (.lst xs))) P):aW B M0 δ P:=λe f H b=>by
 obtain ⟨a,h⟩:=b.show c
 exact k a f H h
end
def bP.caps {G n:Hp}{f:St}{g:List Sl}(e:bP G f g)(s:ab G n)(b:List Nat)(k i:Nat){v:V}{x:D}(r:al n v x):bP n ((a5 b k f).set i (some v)) ((b.map (λj=>g.getD j Sl.no)++List.replicate k Sl.no).set i (.d x)):=by
 have y:=e.mono s
 have o:(a5 b k f).length=(b.map (λj=>g.getD j Sl.no)++List.replicate k Sl.no).length:=by simp [a5]
 refine ⟨by rw [MU,MU];exact o,λq t h=>?_⟩
 rcases M5 h with ⟨rfl,rfl,A⟩|⟨B,h⟩
 .exact ⟨v,Lx (by rw [o];exact A),r⟩
 .rw [Lm B]
  by_cases m:q<b.length
  .rw [LO (by simpa using m),LA,Lk m] at h
   have h:g.getD b[q] Sl.no=t:=LB h
   have C:(a5 b k f)[q]?=some ((f[b[q]]?).join):=by
    unfold a5
    rw [LO (by simpa using m),LA,Lk m]
    rfl
   rw [C]
   cases z:g[b[q]]? with
   |none=>
    have:t=.no:=by rw [<-h];simp [List.getD,z]
    rw [this];trivial
   |some u=>
    have:t=u:=by rw [<-h];simp [List.getD,z]
    subst this
    have w:=y.get _ _ z
    cases t with
    |no=>trivial
    |d x=>obtain ⟨v,h,r⟩:=w;exact ⟨v,by rw [h];rfl,r⟩
    |l x=>obtain ⟨v,h,r⟩:=w;exact ⟨v,by rw [h];rfl,r⟩
    |k x=>obtain ⟨a,h,r⟩:=w;exact ⟨a,by rw [h];rfl,r⟩
    |t x=>obtain ⟨a,c,h,r⟩:=w;exact ⟨a,c,by rw [h];rfl,r⟩
    |kd x=>obtain ⟨a,h,r⟩:=w;exact ⟨a,by rw [h];rfl,r⟩
    |td x=>obtain ⟨a,c,h,r⟩:=w;exact ⟨a,c,by rw [h];rfl,r⟩
  .rw [LQ (by simpa using L8 m)] at h
   obtain ⟨E,p⟩:=Li.mp h
   simp at p
   subst p
   trivial
def bP.comp{a:List Nat}(e:bP G h l)(p:D->Bool)(f:D->D)(t:Walk n G h g)
  (u:∀c b d,d∈g->bP c b ((a.map (λj=>l.getD j Sl.no)++List.replicate k Sl.no).set i (.d d))->bJ o c b (p d))
  (w:∀c b d,d∈g->p d=true->bP c b ((a.map (λj=>l.getD j Sl.no)++List.replicate k Sl.no).set i (.d d))->ae q c b (f d)) (x:g.length<sizeLine):
  ae (gH n (a5 a k) (cf i) o q) G h (.lst ((g.filter p).map f)):=
 gk t (λc v d s m r=>u c _ d m<|e.caps s a k i r) (λc v d s m y r=>w c _ d m y<|e.caps s a k i r) x
end FL
namespace FL
open PySem L2
def oZ{V:Str->D}(c:cu B)(b:a≠[])(d:aH (a.headD .aq)=false)(h:∀x∈a,aH x=true->x.name∈B):cz (au V B) a=a.map (a8 V):=by
 cases a with
 |nil=>exact absurd rfl b
 |cons x r=>
  have e:aH x=false:=d
  show x::r.map (bY<|au V B)=a8 V x::r.map (a8 V)
  have f:a8 V x=x:=by unfold a8;rw [Lq (by rw [e];exact Ls)]
  rw [f]
  congr 1
  exact LW λy g=>lg c<|h y<|Lg _ g
def EH(V:Str->D)(c:a≠[])(f:aH (a.headD .aq)=false)(b:aK a=false):dF d (a.map (a8 V))=decide (a.map (a8 V)∈d):=by
 have e:=BL (V:=V) c f
 unfold aK at b
 rw [NV] at b
 unfold dF
 rw [<-e,Lq<|Mu b.2,Lq<|Mu b.1]
def GX(d:aK [.str r,x,y]=true)(h:aH (.str r)=false)(V:Str->D):dF c ([.str r,x,y].map (a8 V))=holdsA ([.str r,x,y].map (a8 V)):=by
 have e:a8 V (.str r)=.str r:=by unfold a8;rw [Lq (by rw [h];exact Ls)]
 show dF c [a8 V (.str r),a8 V x,a8 V y]=holdsA [a8 V (.str r),a8 V x,a8 V y]
 rw [e]
 generalize a8 V x=a
 generalize a8 V y=b
 show dF c [.str r,a,b]=holdsD r a b
 have f:r="less"\/r="unlike":=by
  unfold aK at d
  rw [Bool.or_eq_true] at d
  rcases d with z|z
  .have:D.str r=D.str "less":=LD z
   injection this with q
   exact .inl q
  .have:D.str r=D.str "unlike":=LD z
   injection this with q
   exact .inr q
 rcases f with rfl|rfl
 .unfold dF holdsD
  have i:¬(([D.str "less",a,b]:ZZ).headD .aq=.str "unlike"):=λz=>by
   have z:D.str "less"=D.str "unlike":=z
   injection z with z
   exact absurd z Z1
  have g:(([D.str "less",a,b]:ZZ).headD .aq=.str "less"):=rfl
  rw [Lq i,Lv g,Lq Z1]
  cases a<;>cases b<;>rfl
 .unfold dF holdsD
  have g:(([D.str "unlike",a,b]:ZZ).headD .aq=.str "unlike"):=rfl
  rw [Lv g,Lv rfl]
def fy (fs body:List (List D))(S:aP):Bool:=body.all λa=>dF fs (cz S a)
def yg {base body fs:ZW}(h:BI base body){V:Str->D}{B:ZY}(hB:cu B)(hc:∀a∈body,∀x∈a,aH x=true->x.name∈B):fy fs body (au V B)=true↔(∀a∈base,a.map (a8 V)∈fs)/\O5.gT (body.filter aK) (au V (aT [] base))=true:=by
 have hBb:cu (aT [] base):=iA eB
 have key:∀a∈body,dF fs (cz (au V B) a)=if aK a=true then holdsA (a.map (bY (au V (aT [] base)))) else decide (a.map (a8 V)∈fs):=λa ha=>by
  have A:=h.at_ a ha
  rw [oZ hB A.ne A.hd (hc a ha)]
  by_cases g:aK a=true
  .rw [Lv g]
   obtain ⟨⟨r,x,y,rfl⟩,hb⟩:=h.gd a ha g
   rw [GX g A.hd V,O5.wA hBb hb]
  .rw [Lq g]
   exact EH V A.ne A.hd (by simpa using g)
 have hbase:∀a,a∈base↔a∈body/\aK a=false:=λa=>by
  rw [<-h.ask,Ly]
  simp
 unfold fy O5.gT
 rw [MO,MO]
 constructor
 .intro z
  refine ⟨λa ha=>?_,λg hg=>?_⟩
  .obtain ⟨h1,h2⟩:=(hbase a).mp ha
   have:=z a h1
   rw [key a h1,Lq (by rw [h2];exact Ls)] at this
   exact LD this
  .obtain ⟨h1,h2⟩:=Ly.mp hg
   have:=z g h1
   rw [key g h1,Lv h2] at this
   exact this
 .rintro ⟨z1,z2⟩ a ha
  rw [key a ha]
  by_cases g:aK a=true
  .rw [Lv g];exact z2 a (Ly.mpr ⟨ha,g⟩)
  .rw [Lq g];exact LH (z1 a ((hbase a).mpr ⟨ha,by simpa using g⟩))
def BI.good{base:ZW}(h:BI base b):∀a∈base,i6 a:=λa c=>by
 rw [<-h.ask] at c
 have A:=h.at_ a (Ly.mp c).1
 exact ⟨A.ne,A.hd⟩
def BI.kD {base body:ZW}(h:BI base body)(facts:ZW):eQ body facts=(fi facts base [([],[])]).filter λw=>O5.gT (body.filter aK) w.1:=by
 have:=O5.CS (facts:=facts) (as:=body) (λa ha _=>⟨(h.at_ a ha).ne,(h.at_ a ha).hd⟩) (λg hg e=>by rw [h.ask];exact (h.gd g hg e).2)
 rw [JV,this,h.ask]
def bP.Ja{j:Nat}(e:bP G c b)(d:b[j]?=some (.k S)\/b[j]?=some (.kd S)):∃a,c[j]?=some (some (.ref a))/\G a=some (.dK (cb [] (bK S)))/\∀p∈S,p.2.sc=true:=by
 rcases d with h|h
 .exact e.get j _ h
 .exact e.get j _ h
def bP.Ai{j:Nat}(e:bP G b c)(f:c[j]?=some (.k S)\/c[j]?=some (.kd S))(g:a≠[])(i:∀x∈a,x.sc=true)(l:a.length<=10)(h:ae d G b (.tup a)):ae (ii (jo ur) [] E (bn d (bn (aY j) bB))) G b (.tup (cz S a)):=by
 obtain ⟨p,m,n,o⟩:=e.Ja f
 exact oT ⟨a,S,rfl,g,i,o,l,rfl⟩<|pC h<|pZ m n pN
def yx{S:aP}(b:a≠[])(c:∀x∈a,x.sc=true)(d:∀p∈S,p.2.sc=true):∀x∈cz S a,x.sc=true:=λx e=>by
 cases a with
 |nil=>exact absurd rfl b
 |cons y r=>
  rcases Lw.mp e with z|z
  .rw [z];exact c y Lj
  .obtain ⟨u,f,rfl⟩:=LG.mp z
   exact (kT (c u<|Lg _ f) d).2
def Fj(h:a≠[]):aK (cz S a)=aK a:=by
 cases a with
 |nil=>exact absurd rfl h
 |cons x r=>rfl
def KR{S:aP}(b:a≠[])(c:∀x∈a,x.sc=true)(d:∀p∈S,p.2.sc=true)(e:aK a=true->∃r x y,a=[.str r,x,y]):xw (cz S a):=by
 refine ⟨(λz=>by cases z),yx b c d,λg=>?_⟩
 rw [Fj b] at g
 obtain ⟨r,x,y,rfl⟩:=e g
 exact ⟨r,_,_,rfl⟩
section
variable {B:Hp}{M0 own:List Addr}{σ:St}{H:Hp}{δ:List Sl}{E:Ends}{t:TA}{ds:List D}
def Bx.zw(b:Bx B M0 own σ H δ)(i:Nat){s:Sl}(g:s.own=false)(r:mH (but H (own++M0)) H own (some (some v)) s):Bx B M0 own (σ.set i (some v)) H (δ.set i s):=by
 refine ⟨by simp [b.len],b.same,b.f8,b.kind,λj t q=>?_,λj k m t a n c d e f h l=>?_⟩
 .rcases M5 q with ⟨rfl,rfl,o⟩|⟨p,q⟩
  .rw [Lx (by rw [b.len];exact o)];exact r
  .rw [Lm p];exact b.slot j t q
 .rcases M5 c with ⟨rfl,rfl,_⟩|⟨u,c⟩
  .rw [g] at e;cases e
  .rcases M5 d with ⟨rfl,rfl,_⟩|⟨w,d⟩
   .rw [g] at f;cases f
   .rw [Lm u] at h
    rw [Lm w] at l
    exact b.apart j k m t a n c d e f h l
def Bx.Fk{δ:List Sl}(l:ap M H)(c:∀s∈δ,s=.no\/∃x,s=.d x)(e:ax (but H M) σ (δ.map Sl.dat)):Bx H M [] σ H δ:=by
 have b:∀{j:Nat} {s:Sl},δ[j]?=some s->s.own=true->False:=λ{j s} h k=>by
  rcases c s (Lp h) with rfl|⟨x,rfl⟩<;>cases k
 refine ⟨by rw [e.len,Ll],ab.refl _,l,(λa f=>nomatch f),λi s q=>?_,λi j s t a _ g _ m _ _ _=>b g m⟩
 rcases c s (Lp q) with rfl|⟨x,rfl⟩
 .trivial
 .exact e.get i x (by rw [LA,q];rfl)
def aW.JG(b:Bx B M0 own (σ.set i (some v)) H δ)(h:aW B M0 δ P):cf i v σ H P:=h own _ H b
def bu{b:TS}(h:aW B M0 δ (a {E with nx:=b E})):aW B M0 δ (nq a b E):=h
def lR{b9:TS}(h:∀G σ,bP G σ δ->bJ a G σ false)(k:aW B M0 δ (b9 E)):aW B M0 δ (nq (mK a c rV) b9 E):=bu<|fP (b:=false) h (λz=>nomatch z) λ_=>ik k
def qo{c:ZZ->Prop}{a:ZZ->D->Prop}(h:∀G σ,ax G σ (δ.map Sl.dat)->dO t G σ ds)(j:c ds)(k:∀d,a ds d->aW B M0 (δ.set i (.d d)) E.nx):aW B M0 δ (dZ (ii (iQ c a) [] g t) (cf i) E):=λe σ H b=>
 h _ σ b.iV _ H (ab.refl _) b.hX _ λq r f l=>⟨e++M0,ds,b.hX.same f,by rw [LV];exact l,j,λd v m n o p=>k d n e _ m<|(b.grow<|f.trans o).set i p⟩
def JA{K:W.Frag}{U:TS}(h:∀G σ,ax G σ (δ.map Sl.dat)->dO t G σ [fA Bs,.lst pool])(o:∀x∈pool,x.sc=true)(hz:Bs.length<=3)(C:pool.length<=10)(Pv:Nat->List Sl->Prop)(h0:Pv 0 δ)
  (k:∀y,ab B y->(∀d,aW B M0 d E.nx->aW y M0 d E.nx)->∀(j:Nat) c d,(cG pool Bs [[]])[j]?=some c->Pv j d->aW y M0 (d.set i (.kd c)) (U (ou E y M0 (Pv (j+1)))))
  (q:∀d,Pv (cG pool Bs [[]]).length d->aW B M0 d E.nx):aW B M0 δ (lK (λσ H R=>jT K (ii qV [] T t) σ H R\/mh K (ii qV [] T t) σ H R) (cf i) U E):=λf σ H b=>
 .inl (h _ σ b.iV _ H (ab.refl _) b.hX _ λvs H1 Y rs=>by
  obtain ⟨v0,v1,rfl,r0,r1⟩:=pp rs
  refine ⟨f++M0,Bs,pool,v0,v1,rfl,b.hX.same Y,r0,r1,o,hz,C,λp r s s2 u hD=>⟨p,rfl,⟨r,aQ.of (aw u).2⟩,?_⟩⟩
  have b1:=b.grow (Y.trans s2)
  have I:ab B (but s f):=b1.sub
  have J:but s f p=some (.lst r):=by
   obtain ⟨A,L⟩:=aw u
   rw [bf λz=>A<|Lu _ z];exact L
  have hn:=hD.len
  refine ⟨λj m l M=>m=(cG pool Bs [[]]).length-j/\j<=(cG pool Bs [[]]).length/\∃g d,Bx (but s f) M0 g l M d/\Pv j d,⟨_,rfl,LP _,f,δ,b1.base,h0⟩,?_⟩
  rintro j m l M ⟨rfl,hj,g,d,v,pj⟩
  have N:=v.same _ _ J
  by_cases w:j<(cG pool Bs [[]]).length
  .have O:=Lk w
   obtain ⟨a,hu,Q⟩:=hD.get j _ O
   refine .inr ⟨⟨r,.ref a,aQ.of N,hu⟩,_,λac H3 p2=>⟨(cG pool Bs [[]]).length-(j+1),by omega,rfl,w,p2⟩,λx af q0=>?_⟩
   obtain ⟨e,hy⟩:=q0
   subst e
   have hx:=hy r (aQ.of N)
   rw [hu] at hx
   cases hx
   refine k (but s f) I (λd h=>h.back I b.f8) j _ d O pj g _ _ (v.zw i rfl ⟨a,rfl,?_,sj pool Bs [[]] _ o (λm hm p o=>by rw [LK.mp hm] at o;cases o)<|Lp O⟩)
   obtain ⟨A,L⟩:=aw Q
   have n:but s f a=some (.dK<|cb []<|bK (cG pool Bs [[]])[j]):=by rw [bf λz=>A<|Lu _ z];exact L
   rw [bf]
   .exact v.same _ _ n
   .intro z
    rcases LI.mp z with z|z
    .rw [(v.kind a z).1] at n;cases n
    .exact A (Lr _ z)
  .have e:j=(cG pool Bs [[]]).length:=by omega
   subst e
   exact .inl ⟨⟨r,aQ.of N,by rw [hn];exact Lo _⟩,q d pj g l M<|v.back I b.f8⟩)
end
def y2 {as:ZW}:∀{B:ZY},(∀a∈as,a.length<=10)->(aT B as).length<=B.length+10*as.length:=by
 induction as with
 |nil=>intro B _;exact Mr _ _
 |cons a r b=>
  intro B h
  have e:=b (B:=ai B a) λc d=>h c<|Lg _ d
  have f:=jS a B
  have g:=h a Lj
  show (aT (ai B a) r).length<=_
  rw [Ma]
  omega
def mq{k:Nat}(h:l[k]?=some d):dM l ((k:Nat):Int)=some d:=tD h
def wW{k:Nat}(h:l[k]?=some d):dM l (0+((k:Nat):Int))=some d:=by rw [Int.zero_add];exact tD h
end FL
namespace FL
open PySem L2
def nV (seed:Int):List D:=[.lst [.str "ashenashenashen",.int 0,.str "ashenashxnashen"],.lst [.str "ashenashenashen",.int 2,.int (-1)],.lst [.int (10^(30:Int).toNat),.int 0,.int (-1)],.lst [.str "qu",.int (seed+4),.int (-4-seed)]]
def yj:GP (.str "ashenashenashen")/\aH (.str "ashenashenashen")=false:=⟨⟨rfl,⟨by decide,_,_,rfl⟩,Z9⟩,Z9⟩
def II:GP (.str "ashenashxnashen")/\aH (.str "ashenashxnashen")=false:=⟨⟨rfl,⟨by decide,_,_,rfl⟩,Z9⟩,Z9⟩
def Kl:GP (.str "qu")/\aH (.str "qu")=false:=⟨⟨rfl,⟨by decide,_,_,rfl⟩,Z9⟩,Z9⟩
def kn (i:Int):GP (.int i)/\aH (.int i)=false:=⟨sn i,rfl⟩
def nC(b:GP x/\aH x=false)(c:GP y/\aH y=false)(d:GP z/\aH z=false)(e:[x,y,z].Nodup):tW [x,y,z]:=by
 have h:∀u∈[x,y,z],GP u/\aH u=false:=λu a=>by
  simp only [Lw,L1,Mo] at a
  rcases a with rfl|rfl|rfl
  .exact b
  .exact c
  .exact d
 exact ⟨rfl,e,λu a=>(h u a).1,λu a=>(h u a).2⟩
def zW(h:0<=a):∀d∈nV a,∃b,d=.lst b/\tW b:=λd c=>by
 simp only [nV,Lw,L1,Mo] at c
 rcases c with rfl|rfl|rfl|rfl
 .exact ⟨_,rfl,nC yj (kn _) II Z9⟩
 .exact ⟨_,rfl,nC yj (kn _) (kn _) Z9⟩
 .exact ⟨_,rfl,nC (kn _) (kn _) (kn _) Z9⟩
 .refine ⟨_,rfl,nC Kl (kn _) (kn _) ?_⟩
  simp only [Np,Lw,L1,Mo,Qh,D.int.injEq,reduceCtorEq,not_false_eq_true,and_true,true_and,NA,and_self]
  omega
def G7 (facts bs body:List (List D))(w:aF):Prop:=∃V,w.1=au V (aT [] bs)/\fR facts V bs w.2/\O5.gT (body.filter aK) w.1=true
def BI.mem(h:BI c a)(d:w∈eQ a b):G7 b c a w:=by
 rw [h.kD] at d
 obtain ⟨f,g⟩:=Ly.mp d
 obtain ⟨S,j⟩:=w
 obtain ⟨V,e,i⟩:=(lI h.good).mp f
 exact ⟨V,e,i,g⟩
end FL
namespace FL
open PySem L2
def qW (s:bg)(n:Nat)(g:ZZ)(r:ZW):bX s n (g::r)=bX (cD s n g) (n+1) r:=by
 unfold bX;rw [P2];rfl
def BG (s:bg)(n:Nat):bX s n []=s:=rfl
theorem BE:∀(F G:ZW) (s:bg) (n:Nat),bX s n (F++G)=bX (bX s n F) (n+F.length) G
 |[],G,s,n=>by rw [BG];rfl
 |g::r,G,s,n=>by
  rw [OO,qW,qW,BE r G,Ma]
  congr 1
  omega
structure fU (s:bg)(n:Nat):Prop where
 inc:s.of.Pairwise fun a b=>a.2.1<b.2.1
 lt:∀o∈s.of,o.2.1<n
 nw:∀k:Nat,decide ((k:Int)<=s.newest)=s.of.any fun o=>decide (k<=o.2.1)
def fU.IP(h:fU s n)(g:ZZ):fU (cD s n g) (n+1):=by
 unfold cD
 split
 .refine ⟨List.pairwise_append.mpr ⟨h.inc,List.pairwise_singleton _ _,λa d b e=>by rw [LK.mp e];exact h.lt a d⟩,λo c=>?_,λk=>?_⟩
  .rcases LI.mp c with z|z
   .exact No<|h.lt o z
   .rw [LK.mp z];exact MW n
  .show decide ((k:Int)<=((n:Nat):Int))=(s.of++[_]).any _
   rw [List.any_append]
   simp only [OJ,List.any_nil,Pp]
   by_cases z:k<=n
   .rw [LH (show (k:Int)<=((n:Nat):Int) by omega),LH z,Bool.or_true]
   .have f:(s.of.any λo=>decide<|k<=o.2.1)=false:=Ot.mpr λo c=>by
     have:=h.lt o c
     simp only [NR]
     omega
    rw [f,LR z,LR (show¬(k:Int)<=((n:Nat):Int) by omega)]
    rfl
 .exact ⟨h.inc,λo c=>No<|h.lt o c,h.nw⟩
theorem fU.BM:∀(a:ZW) {s:bg} {n:Nat},fU s n->fU (bX s n a) (n+a.length)
 |[],s,n,h=>h
 |g::r,s,n,h=>by
  rw [qW,Ma,show n+(r.length+1)=n+1+r.length by omega]
  exact fU.BM r<|h.IP g
def fU.start {s:bg}(a:s.of=[])(c:s.newest=-1):fU s 0:=by
 refine ⟨by rw [a];exact List.Pairwise.nil,(λo b=>by rw [a] at b;cases b),λk=>?_⟩
 rw [a,c]
 exact LR Z4
def eU (lm:bN)(Ns:List (List (List D))):bN:=Ns.foldl bR lm
theorem mR:∀(b:List ZW) (a:bN),(eU a b).steps=a.steps.map (λs=>bX s a.taken b.flatten)/\(eU a b).fo=a.fo/\(eU a b).taken=a.taken+b.flatten.length
 |[],a=>⟨by
   show a.steps=a.steps.map λs=>bX s a.taken []
   have:(λs=>bX s a.taken [])=λs=>s:=by funext s;rfl
   rw [this,OB],rfl,rfl⟩
 |N::r,a=>by
  obtain ⟨c,d,e⟩:=mR r<|bR a N
  refine ⟨?_,d,?_⟩
  .show (eU (bR a N) r).steps=_
   rw [c]
   show (a.steps.map λs=>bX s a.taken N).map (λs=>bX s (a.taken+N.length) r.flatten)=_
   rw [Mb]
   refine LW λs _=>?_
   show bX (bX s a.taken N) (a.taken+N.length) r.flatten=bX s a.taken (N++r.flatten)
   rw [BE]
  .show (eU (bR a N) r).taken=_
   rw [e]
   show a.taken+N.length+r.flatten.length=a.taken+(N++r.flatten).length
   rw [LC]
   omega
def pU (a:bN)(b:List ZW)(N:ZW):eU a (b++[N])=bR (eU a b) N:=by
 unfold eU;rw [MM];rfl
theorem foldl_max:∀(r:List Int) (i:Int),(r.foldl max i=i\/r.foldl max i∈r)/\i<=r.foldl max i/\∀x∈r,x<=r.foldl max i
 |[],i=>⟨.inl rfl,Int.le_refl _,λx a=>nomatch a⟩
 |j::r,i=>by
  obtain ⟨b,d,c⟩:=foldl_max r<|max i j
  show (r.foldl max (max i j)=i\/r.foldl max (max i j)∈j::r)/\i<=r.foldl max (max i j)/\∀x∈j::r,x<=r.foldl max (max i j)
  refine ⟨?_,by omega,λx a=>?_⟩
  .rcases b with z|z
   .by_cases q:i<=j
    .exact .inr (by rw [z,show max i j=j by omega];exact Lj)
    .exact .inl (by rw [z];omega)
   .exact .inr<|Lg _ z
  .rcases Lw.mp a with z|z
   .subst z;omega
   .exact c x z
def xv (is:List Int)(n:Int):(is=[]/\fX is n=n)\/(fX is n∈is/\∀x∈is,x<=fX is n):=by
 cases is with
 |nil=>exact .inl ⟨rfl,rfl⟩
 |cons i r=>
  obtain ⟨a,b,c⟩:=foldl_max r i
  refine .inr ⟨?_,λx d=>?_⟩
  .show r.foldl max i∈i::r
   rcases a with z|z
   .rw [z];exact Lj
   .exact Lg _ z
  .show x<=r.foldl max i
   rcases Lw.mp d with z|z
   .subst z;exact b
   .exact c x z
def va (a:List bg)(n:Nat):(jN a n=-1\/∃j:Nat,j<a.length/\jN a n=j)/\∀(j:Nat) s,a[j]?=some s->((n:Nat):Int)<=s.newest->((j:Nat):Int)<=jN a n:=by
 have c:∀(j:Nat) s,a[j]?=some s->((n:Nat):Int)<=s.newest->((j:Nat):Int)∈((List.range a.length).filter λj=>decide<|(n:Int)<=(a.getD j ⟨[],[],[],[],-1⟩).newest).map λj=>((j:Nat):Int):=λj s b d=>by
  refine LG.mpr ⟨j,Ly.mpr ⟨NY.mpr (Li.mp b).1,?_⟩,rfl⟩
  rw [List.getD,b]
  exact LH d
 unfold jN
 rcases xv (((List.range a.length).filter λj=>decide<|(n:Int)<=(a.getD j ⟨[],[],[],[],-1⟩).newest).map λj=>((j:Nat):Int)) (-1) with ⟨f,g⟩|⟨f,g⟩
 .refine ⟨.inl g,λj s b d=>?_⟩
  have:=c j s b d
  rw [f] at this;cases this
 .refine ⟨.inr ?_,λj s b d=>g _<|c j s b d⟩
  obtain ⟨j,h,e⟩:=LG.mp f
  exact ⟨j,NY.mp (Ly.mp h).1,e.symm⟩
def df (fr:Nat)(w:aF):Bool:=w.2.any λp=>decide (fr<=p)
def we (a:Nat)(w:aF)(o:dg):df a (fk w o)=(df a w||decide (a<=o.2.1)):=by
 show (w.2++[o.2.1]).any _=_
 rw [List.any_append]
 simp [df]
def yh (b:Nat)(a:List Nat):decide (fX (a.map λn=>((n:Nat):Int)) (-1)<((b:Nat):Int))= !(a.any λp=>decide (b<=p)):=by
 rcases xv (a.map λn=>((n:Nat):Int)) (-1) with ⟨c,d⟩|⟨c,d⟩
 .rw [d]
  have:a=[]:=by simpa using c
  rw [this]
  exact LH Z4
 .by_cases z:fX (a.map λn=>((n:Nat):Int)) (-1)<((b:Nat):Int)
  .rw [LH z]
   have:(a.any λp=>decide<|b<=p)=false:=Ot.mpr λp g=>by
    have:=d _<|O0 (f:=λn:Nat=>((n:Nat):Int)) g
    simp only [NR]
    omega
   rw [this];rfl
  .rw [LR z]
   obtain ⟨p,g,e⟩:=LG.mp c
   have:(a.any λp=>decide<|b<=p)=true:=Oq.mpr ⟨p,g,LH Z4⟩
   rw [this];rfl
theorem Ax{p:c->Bool}:∀{l:List c},l.Pairwise (λa b=>p b=true->p a=true)->l.takeWhile p=l.filter p
 |[],_=>rfl
 |x::r,h=>by
  obtain ⟨d,f⟩:=List.pairwise_cons.mp h
  by_cases e:p x=true
  .rw [Nx,e,Nh,Lv e,Lv rfl,Ax f]
  .rw [Nx,Lq e,Nh,Lq e]
   exact (Nf.mpr λy g z=>e<|d y g z).symm
def G3(h:fU s n)(w:aF)(c:Nat):ff s w ((c:Nat):Int)=(((eJ s.of (fG w.1 (gi s))).reverse.filter λo=>decide (c<=o.2.1)).map (fk w)).filter λx=>eV x.1 s.gs:=by
 unfold ff
 congr 2
 have e:∀o:dg,fresh ((c:Nat):Int) o=decide (c<=o.2.1):=λo=>by
  unfold fresh
  exact N4.mpr ⟨λh=>by omega,λh=>by omega⟩
 rw [Ax]
 .exact M1 λo _=>e o
 .rw [List.pairwise_reverse]
  refine (P5 _ h.inc).imp λ{a b} f d=>?_
  rw [e] at d⊢
  have:=LD d
  exact LH Z4
def Dw (s:bg)(w:aF):ff s w 0=((eJ s.of (fG w.1 (gi s))).reverse.map (fk w)).filter λx=>eV x.1 s.gs:=by
 unfold ff
 rw [oO]
 intro o _
 unfold fresh
 exact LH Z4
section
variable {lm lm0:bN}{n:Nat}
theorem wm (l:lm0.fresh=0)(a:Nat):∀(m:Nat) (w:aF),w.2.length+m=lm0.steps.length->df a w=false->(∀(i:Nat) s,w.2.length<=i->lm0.steps[i]?=some s->∀o∈s.of,o.2.1<a)->(cE lm0 m w).filter (df a)=[]
 |0,w,_,d,_=>by
  show [w].filter (df a)=[]
  rw [List.filter_cons_of_neg (by rw [d];exact Ls)]
  rfl
 |m+1,w,t,d,k=>by
  show ((cc lm0 w).reverse.flatMap<|cE lm0 m).filter (df a)=[]
  rw [Nf]
  intro x p e
  obtain ⟨y,b,f⟩:=MQ.mp p
  rw [M4] at b
  have q:=jC b
  have g:w.2.length<lm0.steps.length:=by omega
  have c:=Lk g
  have h:df a y=false:=by
   unfold cc at b
   rw [c] at b
   obtain ⟨o,r,rfl⟩:=LG.mp (Ly.mp b).1
   have j:=(Ly.mp<|M4.mp<|(NN _).subset r).1
   rw [we,d]
   have:=k _ _ (Lo _) c o j
   exact LR Z4
  have:=wm l a m y Z4 h λi s u=>k i s Z4
  rw [Nf] at this
  exact this x f e
theorem uY(p:b->Bool)(f:a->List b):∀l:List a,(l.flatMap f).filter p=l.flatMap λx=>(f x).filter p
 |[]=>rfl
 |x::r=>by rw [Mv,Mv,MD,uY p f r]
theorem pB{f g:a->List b}:∀{l:List a},(∀x∈l,f x=g x)->l.flatMap f=l.flatMap g
 |[],_=>rfl
 |x::r,h=>by rw [Mv,Mv,h x Lj,pB λy c=>h y<|Lg _ c]
theorem BF{f:a->List c}(p:a->Bool):∀{l:List a},(∀x∈l,p x=false->f x=[])->l.flatMap f=(l.filter p).flatMap f
 |[],_=>rfl
 |x::r,h=>by
  have b:=BF p (l:=r) λy d=>h y<|Lg _ d
  by_cases e:p x=true
  .rw [Nh,Lv e,Mv,Mv,b]
  .rw [Nh,Lq e,Mv,h x Lj (by simpa using e),NM,b]
theorem uG (u:∀s∈lm.steps,fU s n)(e:lm0.steps=lm.steps)(v:lm0.fresh=0)(a:lm.last=jN lm.steps lm.fresh):∀(m:Nat) (w:aF),w.2.length+m=lm.steps.length->(((w.2.length:Nat):Int)<=lm.last\/df lm.fresh w=true)->cE lm m w=(cE lm0 m w).filter (df lm.fresh)
 |0,w,U,y=>by
  have f:df lm.fresh w=true:=by
   rcases y with z|z
   .exfalso
    rcases (va lm.steps lm.fresh).1 with q|⟨j,hj,q⟩
    .rw [a,q] at z;omega
    .rw [a,q] at z;omega
   .exact z
  show [w]=[w].filter _
  rw [Nh,Lv f]
  rfl
 |m+1,w,U,y=>by
  have g:w.2.length<lm.steps.length:=by omega
  have h:=Lk g
  have A:=u _<|NE g
  have B:cc lm0 w=ff lm.steps[w.2.length] w 0:=by
   unfold cc
   rw [e,h,sN v]
  have N:cc lm w=ff lm.steps[w.2.length] w (gR lm w):=by
   unfold cc
   rw [h]
  show (cc lm w).reverse.flatMap (cE lm m)=((cc lm0 w).reverse.flatMap<|cE lm0 m).filter _
  rw [uY]
  by_cases C:((w.2.length:Nat):Int)=lm.last/\df lm.fresh w=false
  .
   obtain ⟨k,l⟩:=C
   have b:gR lm w=((lm.fresh:Nat):Int):=by
    unfold gR
    rw [yh,Lv]
    rw [LH k]
    have:(w.2.any λp=>decide<|lm.fresh<=p)=false:=l
    rw [this];rfl
   rw [N,B,b,G3 A,Dw]
   have r:∀x∈(((eJ lm.steps[w.2.length].of<|fG w.1<|gi lm.steps[w.2.length]).reverse.map<|fk w).filter λx=>eV x.1 lm.steps[w.2.length].gs).reverse,df lm.fresh x=false->(cE lm0 m x).filter (df lm.fresh)=[]:=λx c E=>by
    rw [M4] at c
    obtain ⟨o,O,rfl⟩:=LG.mp (Ly.mp c).1
    have t:(fk w o).2.length=w.2.length+1:=by show (w.2++[o.2.1]).length=_;rw [LC];rfl
    refine wm v lm.fresh m (fk w o) (by rw [e];omega) E λi s hi d Q G=>?_
    rw [e] at d
    have H:=u s<|Lp d
    by_cases z:Q.2.1<lm.fresh
    .exact z
    .exfalso
     have T:(s.of.any λo=>decide<|lm.fresh<=o.2.1)=true:=Oq.mpr ⟨Q,G,LH Z4⟩
     rw [<-H.nw] at T
     have:=(va lm.steps lm.fresh).2 i s d<|LD T
     rw [<-a,<-k] at this
     omega
   have Y:∀X:List aF,X.reverse.filter (df lm.fresh)=(X.filter<|df lm.fresh).reverse:=λX=>by simp
   rw [BF (df lm.fresh) r,Y]
   have e2:∀L:List dg,((L.filter λo=>decide<|lm.fresh<=o.2.1).map<|fk w)=(L.map<|fk w).filter (df lm.fresh):=λL=>by
    rw [Nb]
    congr 1
    refine M1 λo _=>?_
    show decide (lm.fresh<=o.2.1)=df lm.fresh (fk w o)
    rw [we,l]
    rfl
   rw [e2,Pf,Pf]
   have e3:(λx:aF=>eV x.1 lm.steps[w.2.length].gs&&df lm.fresh x)=λx=>df lm.fresh x&&eV x.1 lm.steps[w.2.length].gs:=by funext x;exact Bool.and_comm _ _
   rw [e3]
   refine pB λx c=>?_
   rw [M4] at c
   obtain ⟨I,J⟩:=Ly.mp c
   obtain ⟨o,O,rfl⟩:=LG.mp I
   have t:(fk w o).2.length=w.2.length+1:=by show (w.2++[o.2.1]).length=_;rw [LC];rfl
   exact uG u e v a m (fk w o) Z4 (.inr (Mt.mp J).1)
  .have b:gR lm w=0:=by
    unfold gR
    rw [yh,Lq]
    intro z
    rw [Mn] at z
    refine C ⟨LD z.1,?_⟩
    have:=z.2
    show (w.2.any λp=>decide<|lm.fresh<=p)=false
    simpa using this
   rw [N,b,B]
   refine pB λx c=>?_
   rw [M4] at c
   have M:x∈cc lm0 w:=by rw [B];exact c
   have t:=jC M
   refine uG u e v a m x Z4 ?_
   by_cases f:df lm.fresh w=true
   .right
    obtain ⟨o,O,rfl⟩:=LG.mp (Ly.mp c).1
    rw [we,f];rfl
   .rcases y with z|z
    .left
     have:¬((w.2.length:Nat):Int)=lm.last:=λq=>C ⟨q,by simpa using f⟩
     omega
    .exact absurd z f
def fK (lm:bN):List aF:=(d9 lm).flatMap λw=>cE lm (bM lm w) w
def vc (a:lm0.fresh=0):d9 lm0=if lm0.fo=true then [] else if (lm0.steps.all λs=>decide ((0:Int)<=s.newest))=true then [([],[])] else []:=by
 unfold d9
 rw [a]
 have:decide ((0:Int)<((0:Nat):Int))=false:=rfl
 rw [this,PZ,Pp]
def Jy (p:∀s∈lm.steps,fU s n)(e:lm0.steps=lm.steps)(q:lm0.fo=lm.fo)(f:lm0.fresh=0)(g:lm.last=jN lm.steps lm.fresh):fK lm=(fK lm0).filter λw=>decide (lm.fresh=0)||df lm.fresh w:=by
 have r:∀w,bM lm0 w=bM lm w:=λw=>by unfold bM;rw [e]
 by_cases j:lm.fresh=0
 .have u:∀w,cc lm w=cc lm0 w:=λw=>by unfold cc;rw [e,sN j,sN f]
  have v:∀m w,cE lm m w=cE lm0 m w:=λm=>by
   induction m with
   |zero=>exact λw=>rfl
   |succ m y=>
    intro w
    show (cc lm w).reverse.flatMap (cE lm m)=(cc lm0 w).reverse.flatMap (cE lm0 m)
    rw [u]
    exact pB λx _=>y x
  unfold fK
  rw [vc j,vc f,e,q,Mp.mpr λw _=>by rw [LH j];rfl]
  exact pB λx _=>by rw [r];exact v _ x
 .have A:(λw=>decide (lm.fresh=0)||df lm.fresh w)=df lm.fresh:=by funext w;rw [LR j];rfl
  rw [A]
  unfold fK
  rw [uY,vc f,e,q]
  unfold d9
  by_cases b:lm.fo=true
  .rw [b,Lv rfl,Lv (by rfl)]
   rfl
  .have c:lm.fo=false:=by simpa using b
   rw [c,Lq Ls,P9]
   have h:decide ((0:Int)<((lm.fresh:Nat):Int))=true:=LH Z4
   rw [h,OK]
   by_cases a:lm.last<0
   .rw [Lv<|LH a]
    have k:∀(i:Nat) s,(([],[]):aF).2.length<=i->lm0.steps[i]?=some s->∀o∈s.of,o.2.1<lm.fresh:=λi s _ d o B=>by
     rw [e] at d
     have l:=p s<|Lp d
     by_cases z:o.2.1<lm.fresh
     .exact z
     .exfalso
      have t:(s.of.any λo=>decide<|lm.fresh<=o.2.1)=true:=Oq.mpr ⟨o,B,LH Z4⟩
      rw [<-l.nw] at t
      have:=(va lm.steps lm.fresh).2 i s d<|LD t
      rw [<-g] at this
      omega
    split
    .show []=[(([],[]):aF)].flatMap _
     rw [MV]
     rw [wm f lm.fresh _ ([],[]) (by unfold bM;simp) rfl k]
    .rfl
   .rw [Lq (by rw [LR a];exact Ls)]
    split
    .rw [MV,MV,r]
     exact uG p e f g _ ([],[]) (by unfold bM;simp) (.inl (by show ((0:Nat):Int)<=lm.last;omega))
    .rfl
end
def GA (b:ZW)(a:List ZW)(N:ZW):fK (eU (bL b) (a++[N]))=(eQ b (a++[N]).flatten).filter λw=>decide (a.flatten.length=0)||df a.flatten.length w:=by
 obtain ⟨e,g,n⟩:=mR (a++[N])<|bL b
 obtain ⟨o,p,h⟩:=mR a<|bL b
 have i:(eU (bL b)<|a++[N]).fresh=a.flatten.length:=by
  rw [pU]
  show (eU (bL b) a).taken=_
  rw [h]
  exact N0 _
 have c:(eU (bL b)<|a++[N]).last=jN (eU (bL b)<|a++[N]).steps (eU (bL b)<|a++[N]).fresh:=by
  rw [pU]
  rfl
 have j:∀s∈(eU (bL b)<|a++[N]).steps,fU s (0+(a++[N]).flatten.length):=λs f=>by
  rw [e] at f
  obtain ⟨k,d,rfl⟩:=LG.mp f
  obtain ⟨_,l,m⟩:=ug _ _ _ k d
  exact fU.BM _<|fU.start l m
 have:=Jy (lm:=eU (bL b)<|a++[N]) (lm0:=bR (bL b) (a++[N]).flatten) j (by rw [e];rfl) (by rw [g];rfl) rfl c
 rw [this,i]
 rfl
end FL
namespace FL
open PySem L2
abbrev bo:=List D×List (List D)
abbrev cj:=List D×(Nat×List Nat)
def bh (h:List D)(w:aF):List D:=h.map (bY w.1)
def cw (h:List D)(n:Nat):List aF->List (List D)->List cj
 |[],_=>[]
 |w::r,T=>if bh h w∈T then cw h n r T else (bh h w,(n,w.2))::cw h n r (T++[bh h w])
def aC (rs:List cj):List (List D):=rs.map (·.1)
def nH (a b:List cj):aC (a++b)=aC a++aC b:=LU
section
variable {h:List D}{n:Nat}
def lE{T:ZW}(e:bh h w∈T):cw h n (w::r) T=cw h n r T:=by
 show (if bh h w∈T then _ else _)=_
 rw [Lv e]
def mO{T:ZW}(e:bh h w∉T):cw h n (w::r) T=(bh h w,(n,w.2))::cw h n r (T++[bh h w]):=by
 show (if bh h w∈T then _ else _)=_
 rw [Lq e]
theorem B4:∀(a b:List aF) (T:ZW),(∀w∈a,bh h w∈T)->cw h n (a++b) T=cw h n b T
 |[],b,T,_=>rfl
 |w::r,b,T,c=>by
  rw [OO,lE<|c w Lj]
  exact B4 r b T λx d=>c x<|Lg _ d
theorem rO (p:aF->Bool):∀(a:List aF) (T:ZW),(∀w∈a,p w=false->bh h w∈T)->cw h n (a.filter p) T=cw h n a T
 |[],T,_=>rfl
 |w::r,T,d=>by
  have b:∀x∈r,p x=false->bh h x∈T:=λx c=>d x<|Lg _ c
  by_cases e:p w=true
  .rw [Nh,Lv e]
   by_cases z:bh h w∈T
   .rw [lE z,lE z,rO p r T b]
   .rw [mO z,mO z,rO p r _ λx c q=>Lu _<|b x c q]
  .rw [Nh,Lq e,lE<|d w Lj (by simpa using e),rO p r T b]
theorem pF:∀(g:List aF) (T:ZW) (x:cj),x∈cw h n g T->x.2.1=n/\x.1∉T/\∃w∈g,x.1=bh h w/\x.2.2=w.2
 |[],T,x,a=>nomatch a
 |w::r,T,x,a=>by
  by_cases z:bh h w∈T
  .rw [lE z] at a
   obtain ⟨b,c,v,d,f⟩:=pF r T x a
   exact ⟨b,c,v,Lg _ d,f⟩
  .rw [mO z] at a
   rcases Lw.mp a with e|e
   .rw [e];exact ⟨rfl,z,w,Lj,rfl,rfl⟩
   .obtain ⟨b,c,v,d,f⟩:=pF r _ x e
    exact ⟨b,λq=>c<|Lu _ q,v,Lg _ d,f⟩
theorem xm:∀(b:List aF) (T:ZW),∀w∈b,bh h w∈T\/bh h w∈aC (cw h n b T)
 |[],T,w,a=>nomatch a
 |v::r,T,w,a=>by
  by_cases z:bh h v∈T
  .rw [lE z]
   rcases Lw.mp a with e|e
   .rw [e];exact .inl z
   .exact xm r T w e
  .rw [mO z]
   rcases Lw.mp a with e|e
   .rw [e];exact .inr Lj
   .rcases xm r (T++[bh h v]) w e with q|q
    .rcases LI.mp q with q|q
     .exact .inl q
     .rw [LK.mp q];exact .inr Lj
    .exact .inr<|Lg _ q
theorem vK:∀(a:List aF) (T:ZW),(aC (cw h n a T)).Nodup
 |[],T=>NA
 |v::r,T=>by
  by_cases z:bh h v∈T
  .rw [lE z];exact vK r T
  .rw [mO z]
   refine Np.mpr ⟨λq=>?_,vK r _⟩
   obtain ⟨x,b,e⟩:=LG.mp q
   obtain ⟨_,c,_⟩:=pF r _ x b
   exact c (by rw [e];exact Lr _<|LK.mpr rfl)
end
def bb:Nat->List (List D×List aF)->List (List D)->List cj
 |_,[],_=>[]
 |n,q::r,T=>cw q.1 n q.2 T++bb (n+1) r (T++aC (cw q.1 n q.2 T))
theorem yc (p:aF->Bool):∀(L:List (ZZ×List aF)) (n:Nat) (T:ZW),(∀q∈L,∀w∈q.2,p w=false->bh q.1 w∈T)->bb n (L.map λq=>(q.1,q.2.filter p)) T=bb n L T
 |[],n,T,_=>rfl
 |q::r,n,T,a=>by
  show cw q.1 n (q.2.filter p) T++bb (n+1) (r.map _) (T++aC (cw q.1 n (q.2.filter p) T))=_
  rw [rO p q.2 T<|a q Lj,yc p r _ _ λx b w c e=>Lu _<|a x (Lg _ b) w c e]
  rfl
theorem wP:∀(a b:List (ZZ×List aF)) (n:Nat) (T:ZW),bb n (a++b) T=bb n a T++bb (n+a.length) b (T++aC (bb n a T))
 |[],b,n,T=>by
  show bb n b T=bb n b (T++[])
  rw [LV]
 |q::r,b,n,T=>by
  have c:aC (bb n (q::r) T)=aC (cw q.1 n q.2 T)++aC (bb (n+1) r<|T++aC (cw q.1 n q.2 T)):=nH _ _
  rw [c,<-Mm]
  show cw q.1 n q.2 T++bb (n+1) (r++b) _=cw q.1 n q.2 T++bb (n+1) r _++bb _ b _
  rw [wP r b<|n+1,Mm,Ma,show n+1+r.length=n+(r.length+1) by omega]
  exact (Mm _ _ _).symm
theorem pQ:∀(L:List (ZZ×List aF)) (n:Nat) (T:ZW) (x:cj),x∈bb n L T->x.1∉T/\∃(i:Nat) (q:ZZ×List aF),L[i]?=some q/\x.2.1=n+i/\∃w∈q.2,x.1=bh q.1 w/\x.2.2=w.2
 |[],n,T,x,a=>nomatch a
 |q::r,n,T,x,a=>by
  rcases LI.mp a with z|z
  .obtain ⟨b,f,w,g,c⟩:=pF q.2 T x z
   exact ⟨f,0,q,rfl,b,w,g,c⟩
  .obtain ⟨b,i,h,d,f,c⟩:=pQ r _ _ x z
   exact ⟨λe=>b<|Lu _ e,i+1,h,d,by omega,c⟩
theorem tT:∀(L:List (ZZ×List aF)) (n:Nat) (T:ZW) (q:ZZ×List aF),q∈L->∀w∈q.2,bh q.1 w∈T\/bh q.1 w∈aC (bb n L T)
 |[],n,T,q,b,_,_=>nomatch b
 |a::r,n,T,q,b,w,c=>by
  show _\/_∈aC (cw a.1 n a.2 T++bb (n+1) r _)
  rw [nH]
  rcases Lw.mp b with e|e
  .subst e
   rcases xm (n:=n) q.2 T w c with z|z
   .exact .inl z
   .exact .inr<|Lu _ z
  .rcases tT r (n+1) (T++aC (cw a.1 n a.2 T)) q e w c with z|z
   .rcases LI.mp z with z|z
    .exact .inl z
    .exact .inr<|Lu _ z
   .exact .inr<|Lr _ z
theorem pA:∀(L:List (ZZ×List aF)) (n:Nat) (T:ZW),(aC (bb n L T)).Nodup
 |[],n,T=>NA
 |q::r,n,T=>by
  show (aC<|cw q.1 n q.2 T++bb (n+1) r _).Nodup
  rw [nH,N3]
  refine ⟨vK _ _,pA r _ _,λa c b d e=>?_⟩
  obtain ⟨x,f,rfl⟩:=LG.mp d
  obtain ⟨g,_⟩:=pQ r _ _ x f
  exact g<|Lr _ (by rw [<-e];exact c)
end FL
namespace FL
open PySem L2
def cy (T:List (List D)):List (List aJ×V):=T.map λf=>(bT f,V.bl true)
theorem wH(a:bW f):∀{T:ZW},(∀g∈T,bW g)->(bm (cy T) (bT f)).isSome=decide (f∈T)
 |[],_=>rfl
 |g::r,b=>by
  have c:=wH a (T:=r) λx d=>b x<|Lg _ d
  by_cases e:g=f
  .subst e
   rw [show cy (g::r)=(bT g,V.bl true)::cy r from rfl,fY (p:=(bT g,V.bl true)) rfl]
   simp
  .have h:¬bT g=bT f:=λz=>e (pG (b g Lj) a z)
   have i:¬f=g:=λz=>e z.symm
   rw [show cy (g::r)=(bT g,V.bl true)::cy r from rfl,fW (p:=(bT g,V.bl true)) h,c]
   simp [i]
def AM(a:bW f){T:ZW}(b:∀g∈T,bW g):ca (cy T) (bT f) (V.bl true)=cy (if f∈T then T else T++[f]):=by
 unfold ca
 rw [jI,wH a b]
 by_cases e:f∈T
 .rw [Lv<|LH e,Lv e]
  unfold cy
  rw [Mb]
  refine LW λg _=>?_
  show (if bT g=bT f then (bT g,V.bl true) else (bT g,V.bl true))=_
  split<;>rfl
 .rw [Lq (by rw [LR e];exact Ls),Lq e]
  unfold cy
  rw [LU]
  rfl
def zI (T:ZW):(cy T).length=T.length:=by unfold cy;rw [Ll]
def fD (f:List D):Prop:=bW f/\∀x∈f,aH x=false
def eX (x:cj):D:=.tup [.tup x.1,.int ((x.2.1:Nat):Int),.tup (x.2.2.map λn=>D.int (n:Nat))]
def aV (r:bo):D:=.tup [.tup r.1,cq r.2]
abbrev lN (vr:V)(ll td:Addr):List (Str×V):=[("rules",vr),("looms",.ref ll),("told",.ref td)]
structure pe (K:PySem.W.Frag)(C:Addr):Prop where
 cl:dk K C
 nR:bO K C "rules"
 nL:bO K C "looms"
 nT:bO K C "told"
structure qd (lm:bN)(h:List D)(R:aF->Prop)(sz:Nat->Nat):Prop where
 run:jx sz lm.steps
 r0:R ([],[])
 rs:∀w,R w->∀x∈cc lm w,R x
 cJ:∀x∈h,x.sc=true
 hl:h.length<=100
 flat:∀w,R w->w.2.length=lm.steps.length->∀y∈bh h w,aH y=false
 skip:∀w,R w->(∀y∈bh h w,aH y=false)->∀x∈cE lm (bM lm w) w,bh h x=bh h w
theorem xQ{a:bN}{R:aF->Prop}(h:jx c a.steps)(i:∀w,R w->∀x∈cc a w,R x):∀(m:Nat) (w:aF),w.2.length+m=a.steps.length->GoodW c a.steps w->R w->∀x∈cE a m w,R x/\GoodW c a.steps x/\x.2.length=a.steps.length
 |0,w,j,d,e,x,f=>by rw [LK.mp f];exact ⟨e,d,by omega⟩
 |m+1,w,j,d,e,x,f=>by
  obtain ⟨y,b,g⟩:=MQ.mp f
  rw [M4] at b
  have:=jC b
  exact xQ h i m y Z4 (yS h d y b) (i w e y b) x g
def xD {h:ZZ}{w:aF}(a:∀x∈h,x.sc=true)(b:∀p∈w.1,p.2.sc=true):bW (bh h w):=λx c=>by
 obtain ⟨y,d,rfl⟩:=LG.mp c
 exact (kT (a y d) b).2
def qd.kD(a:qd e h R g):∀w∈fK e,fD (bh h w):=λw f=>by
 unfold fK at f
 obtain ⟨b,c,i⟩:=MQ.mp f
 have d:b=([],[]):=by
  unfold d9 at c
  split at c
  .cases c
  .split at c
   .exact LK.mp c
   .cases c
 subst d
 obtain ⟨j,k,l⟩:=xQ a.run a.rs _ ([],[]) (by unfold bM;simp) (GoodW.nil a.run) a.r0 w i
 exact ⟨xD a.cJ λp m=>(k.ok p m).1,a.flat w j l⟩
def Au (C CL CW:Addr):Sp:=λvs H Q _=>∃(M:List Addr) (lm:bN) (a dx:Addr) (vr:V) (ll td:Addr) (rules:List bo) (num:Nat) (h:List D) (body T:List (List D)) (R:aF->Prop) (sz:Nat->Nat) (v2:V),vs=[.ref a,.int ((num:Nat):Int),v2]/\ap M H/\but H M a=some (.ins CW dx (lN vr ll td))/\td∈M/\H td=some (.dT (cy T))/\(∀g∈T,fD g)/\al (but H M) vr (.lst (rules.map aV))/\rules[num]?=some (h,body)/\iJ C CL (but H M) v2 lm/\lm.steps.length<=100/\qd lm h R sz/\T.length+dD lm lm.steps.length ([],[])<sizeLine/\
 ∀p us H',(∀b u,b≠td->H b=some u->H' b=some u)->H p=none->H' p=some (.lst us)->az (but H' (p::M)) us ((cw h num (fK lm) T).map eX)->H' td=some (.dT (cy (T++aC (cw h num (fK lm) T))))->Q (.ref p) H'
end FL
namespace FL
open PySem L2
theorem xM (facts:ZW):∀(asks:ZW) (B:ZY) (W:ZW) (k:Nat) (a:ZZ),asks[k]?=some a->∃gs,(O5.cF facts asks B W)[k]?=some ⟨cV a (aT B (asks.take k)),ef a facts (aT B (asks.take k)),gs⟩
 |[],_,_,k,a,h=>by simp at h
 |c::r,B,W,0,a,h=>by
  have h:c=a:=by simpa using h
  subst h
  exact ⟨_,rfl⟩
 |c::r,B,W,k+1,a,h=>by
  obtain ⟨gs,e⟩:=xM facts r (ai B c) (W.filter λg=> !cm g (ai B c)) k a (by simpa using h)
  exact ⟨gs,e⟩
def Gr (as facts:ZW):((bR (bL as) facts).steps.map dG)=O5.eG facts as:=(so facts _ [] _).1
def Jw {bs body facts:ZW}{lm:bN}(hI:BI bs body)(hs:lm.steps=(bR (bL body) facts).steps){w:aF}{V:Str->D}(hw:w.1=au V (aT [] (bs.take w.2.length))){x:aF}(hx:x∈cc lm w):
  w.2.length<bs.length/\∃V' g,g∈facts/\(∀b∈aT [] (bs.take w.2.length),V' b=V b)/\x.1=au V' (aT [] (bs.take x.2.length))/\∀a,bs[w.2.length]?=some a->g=a.map (a8 V'):=by
 have hxl:=jC hx
 unfold cc at hx
 split at hx
 .rename_i st hst
  have hmap:(lm.steps.map dG)[w.2.length]?=some (dG st):=by rw [LA,hst];rfl
  have e1:lm.steps.map dG=O5.cF facts bs [] ((body.filter aK).filter c6):=by
   rw [hs,Gr]
   unfold O5.eG
   rw [hI.ask]
  rw [e1] at hmap
  have hlt:w.2.length<bs.length:=by
   have:=(Li.mp hmap).1
   rw [O5.lP] at this
   exact this
  have ha:=Lk hlt
  refine ⟨hlt,?_⟩
  obtain ⟨gs,e2⟩:=xM facts bs [] ((body.filter aK).filter c6) w.2.length _ ha
  rw [hmap] at e2
  have e2:=LB e2
  have hx0:x∈ff st w 0:=by
   unfold ff at hx⊢
   obtain ⟨h1,h2⟩:=Ly.mp hx
   refine Ly.mpr ⟨?_,h2⟩
   obtain ⟨o,ho,rfl⟩:=LG.mp h1
   refine LG.mpr ⟨o,?_,rfl⟩
   rw [oO λo _=>by unfold fresh;exact LH Z4]
   exact (NN _).subset ho
  rw [Az,M4,e2] at hx0
  have hB:cu (aT [] (bs.take w.2.length)):=iA eB
  have hgood:=hI.good _ (NE hlt)
  unfold O5.ib at hx0
  have hx1:=(Ly.mp hx0).1
  obtain ⟨S,pl⟩:=w
  have hw:S=au V (aT [] (bs.take pl.length)):=hw
  subst hw
  have hx1:x∈mZ (ef bs[pl.length] facts (aT [] (bs.take pl.length))) (fG (au V (aT [] (bs.take pl.length))) (cV bs[pl.length] (aT [] (bs.take pl.length)))) (au V (aT [] (bs.take pl.length)),pl):=hx1
  rw [O5.Ak,u9 hB hgood] at hx1
  obtain ⟨Sx,plx⟩:=x
  obtain ⟨i,g,hg,hm,e3⟩:=ol.mp hx1
  obtain ⟨V',h1,h2,h3⟩:=ip hB hm
  refine ⟨V',g,Lp hg,h1,?_,λa haa=>?_⟩
  .have hxl:plx.length=pl.length+1:=hxl
   show Sx=au V' (aT [] (bs.take plx.length))
   rw [h2,hxl,L0,ha]
   congr 1
   show _=List.foldl ai [] (bs.take pl.length++[bs[pl.length]])
   rw [MM]
   rfl
  .have:bs[pl.length]?=some a:=haa
   rw [ha] at this
   cases this
   exact h3
 .cases hx
def qR (bs:List (List D))(w:aF):Prop:=∃V,w.1=au V (aT [] (bs.take w.2.length))/\(∀b∈aT [] (bs.take w.2.length),aH (V b)=false)/\w.2.length<=bs.length
def KC{V f:Str->D}(i:cu B)(c:cu a)(j:∀b∈B,b∈a/\f b=V b)(h:aH (bY (au V B) y)=false):bY (au f a) y=bY (au V B) y:=by
 by_cases e:aH y=true
 .by_cases d:y.name∈B
  .obtain ⟨k,l⟩:=j _ d
   rw [jp e,og d,og k,l]
  .exfalso
   have:bY (au V B) y=y:=ka (by rw [uQ e];exact LR d)
   rw [this,e] at h;cases h
 .have g:aH y=false:=by simpa using e
  rw [ka<|np i g,ka<|np c g]
def BY{n:bN}(u:BI c d)(v:n.steps=(bR (bL d) a).steps)(A:∀g∈a,fD g)(B:qR c w)(o:x∈cc n w):qR c x/\((∀y∈bh h w,aH y=false)->bh h x=bh h w):=by
 obtain ⟨V,i,C,H⟩:=B
 obtain ⟨j,p,g,E,q,r,G⟩:=Jw u v i o
 have k:=jC o
 have s:=Lk j
 have t:aT [] (c.take x.2.length)=ai (aT []<|c.take w.2.length) c[w.2.length]:=by
  rw [k,L0,s]
  show List.foldl ai [] (c.take w.2.length++[c[w.2.length]])=_
  rw [MM]
  rfl
 refine ⟨⟨p,r,λb f=>?_,by omega⟩,λl=>?_⟩
 .rw [t] at f
  rcases xl f with z|⟨y,m,e,rfl⟩
  .rw [q b z];exact C b z
  .have:a8 p y∈g:=by rw [G _ s];exact O0 m
   have:=(A g E).2 _ this
   unfold a8 at this
   rw [Lv e] at this
   exact this
 .unfold bh
  refine LW λy m=>?_
  rw [i,r]
  refine KC (iA eB) (iA eB) (λb f=>⟨?_,q b f⟩) ?_
  .rw [t];exact qh f
  .have:=l (bY w.1 y) (O0 m)
   rw [i] at this
   exact this
theorem AA{j:bN}(k:BI i b)(l:j.steps=(bR (bL b) a).steps)(n:∀g∈a,fD g):∀(m:Nat) (w:aF),qR i w->(∀y∈bh h w,aH y=false)->∀x∈cE j m w,bh h x=bh h w
 |0,w,_,_,x,e=>by rw [LK.mp e]
 |m+1,w,p,c,x,e=>by
  obtain ⟨y,o,f⟩:=MQ.mp e
  rw [M4] at o
  obtain ⟨q,d⟩:=BY (h:=h) k l n p o
  have d:=d c
  rw [<-d]
  exact AA k l n m y q (by rw [d];exact c) x f
def AH{q:bN}{h:ZZ}(j:BI m c)(o:q.steps=(bR (bL c) d).steps)(s:∀g∈d,iy g/\fD g)(t:d.length<=200)(L:c.length<=10)(M:∀x∈h,x.sc=true)(N:h.length<=100)(u:∀y∈h,aH y=true->y.name∈aT [] m):
  qd q h (qR m) (λk=>(aT [] ((c.filter λa=> !aK a).take k)).length):=by
 have f:=j.at_
 have l:∀k,(aT []<|(c.filter λa=> !aK a).take k).length<=500:=λk=>by
  rw [j.ask]
  have p:=y2 (B:=[]) (as:=m.take k) λa v=>by
   have:=OW v
   rw [<-j.ask] at this
   exact (f a (Ly.mp this).1).len
  have A:=j.rj
  have T:(m.take k).length<=3:=by rw [L9];omega
  rw [Nq] at p
  omega
 have O:=Fv (facts:=d) (λg i=>(s g i).1) t (λa v=>(f a v).kP) Z4 (λg i e=>by
  obtain ⟨r,x,y,rfl⟩:=(j.gd g i e).1
  exact ⟨(f _ i).kP,r,x,y,rfl,(f _ i).hd⟩) l
 have C:q.steps.length=m.length:=by
  rw [o]
  show ((eG c).map _).length=_
  rw [Ll]
  unfold eG
  rw [lP,j.ask]
 refine ⟨by rw [o];exact O,⟨λ_=>.aq,rfl,(λb u=>nomatch u),LP _⟩,λw n x E=>(BY (h:=h) j o (λg i=>(s g i).2) n E).1,M,N,λw n G y Q=>?_,λw n H x E=>AA j o (λg i=>(s g i).2) _ w n H x E⟩
 obtain ⟨V,p,A,_⟩:=n
 rw [G,C,MR] at p A
 obtain ⟨z,t,rfl⟩:=LG.mp Q
 rw [p]
 by_cases e:aH z=true
 .have I:=u z t e
  rw [jp e,og I]
  exact A _ I
 .have J:aH z=false:=by simpa using e
  rw [ka<|np (iA eB) J]
  exact J
def Ds(b:bN)(w:aF)(c:∀s∈b.steps,s.of.length<=F):(cc b w).length<=F:=by
 unfold cc
 split
 .rename_i st a
  refine LN ?_ (c st<|Lp a)
  unfold ff
  refine LN (LZ _ _) ?_
  rw [Ll]
  refine LN (NN _).length_le ?_
  rw [OY]
  exact LZ _ _
 .exact LP _
theorem Cf (lm:bN){F:Nat}(hF:∀s∈lm.steps,s.of.length<=F):∀(n:Nat) (w:aF),dD lm n w<=O5.pw F n
 |0,_=>Lo _
 |n+1,w=>by
  show 1+((cc lm w).map (dD lm n)).sum<=1+F*O5.pw F n
  have h1:=O5.zv (dD lm n) (O5.pw F n) (cc lm w) λx _=>Cf lm hF n x
  have h2:=P6 (O5.pw F n) (Ds lm w hF)
  omega
def xr {body facts bs:ZW}{lm:bN}(hI:BI bs body)(hs:lm.steps=(bR (bL body) facts).steps)(hz:facts.length<=200):dD lm lm.steps.length ([],[])<=8100000:=by
 have hof:∀s∈lm.steps,s.of.length<=200:=λs hsm=>by
  rw [hs] at hsm
  obtain ⟨s0,h0,rfl⟩:=LG.mp hsm
  have h1:=Ck s0 0 facts
  obtain ⟨_,e,_⟩:=ug _ _ _ s0 h0
  rw [e,Nq] at h1
  exact LN h1 Z4
 have hsl:lm.steps.length=bs.length:=by
  rw [hs]
  show ((eG body).map _).length=_
  rw [Ll]
  unfold eG
  rw [lP,hI.ask]
 have h3:=hI.rj
 have h1:=Cf lm hof lm.steps.length ([],[])
 have h2:∀n,n<=3->O5.pw 200 n<=8100000:=λn hn=>by
  have:n=0\/n=1\/n=2\/n=3:=by omega
  rcases this with rfl|rfl|rfl|rfl<;>decide
 exact LN h1 (h2 _ Z4)
end FL
namespace FL
open PySem L2
mutual
theorem al.oP {H:Hp}{M own:List Addr}(hk:∀a∈own,∀ts,H a≠some (.tup ts)):∀{v:V} {d:D},d.fx=true->al (but H M) v d->al (but H (own++M)) v d
 |_,_,_,.aq=>.aq
 |_,_,_,.bl b=>.bl b
 |_,_,_,.int b=>.int b
 |_,_,_,.str b=>.str b
 |_,_,hd,.tup (a:=c) h r=>by
  refine .tup ?_ (az.oP hk (by rw [D.fx] at hd;exact hd) r)
  obtain ⟨h1,h2⟩:=aw h
  rw [bf]
  ·exact h2
  ·intro z
   rcases mem_append.mp z with z|z
   ·exact hk c z _ h2
   ·exact h1 z
 |_,_,hd,.lst _ _=>by cases hd
theorem az.oP {H:Hp}{M own:List Addr}(hk:∀a∈own,∀ts,H a≠some (.tup ts)):∀{vs:List V} {ds:List D},D.gw ds=true->az (but H M) vs ds->az (but H (own++M)) vs ds
 |_,_,_,.nil=>.nil
 |_,_,hd,.cons h r=>by
  rw [D.gw,Bool.and_eq_true] at hd
  exact .cons (al.oP hk hd.1 h) (az.oP hk hd.2 r)
end
section
variable {C CL:Addr}{H H':Hp}{Z Z':List Addr}{a:Addr}{oss:List (List Addr)}{lm:bN}
def gI.frame (h:gI C CL H Z a oss lm)(d:∀x∈a::oss.flatten,x∈Z')(k:∀b u,b∈a::oss.flatten->H b=some u->H' b=some u)(S:ab (but H Z) (but H' Z')):gI C CL H' Z' a oss lm:=by
 obtain ⟨f,g,i,j,l,m,r,n⟩:=h
 exact ⟨f,g,i,k _ _ Lj j,S _ _ l,m.A9 (λos c x o=>d x<|Lg _<|Mc.mpr ⟨os,c,o⟩) (λb u p e=>by obtain ⟨os,c,q⟩:=p;exact k b u (Lg _<|Mc.mpr ⟨os,c,q⟩) e) S,d _ Lj,n⟩
def gI.FZ (h:gI C CL H Z a oss lm):∀x∈a::oss.flatten,∀d,H x≠some (.tup d):=λx l d e=>by
 obtain ⟨v,y,A,m,B,f,E,G⟩:=h
 rcases Lw.mp l with z|z
 .rw [z,m] at e;cases e
 .obtain ⟨os,n,o⟩:=Mc.mp z
  obtain ⟨j,g⟩:=Mf.mp n
  have c:j<lm.steps.length:=by rw [<-f.l2];exact (Li.mp g).1
  obtain ⟨b,p,_,i,⟨r,I,J,L,M,N,O,s,t,_,_,_,k⟩,_⟩:=f.get j _<|Lk c
  rw [g] at i
  cases i
  subst s
  rcases Lw.mp o with w|w
  .rw [w,t] at e;cases e
  .rcases Lw.mp w with w|w
   .obtain ⟨u,q,_⟩:=k.kvs
    rw [w,q] at e;cases e
   .obtain ⟨Q,q⟩:=k.lists x w
    rw [q] at e;cases e
end
structure db (C CL:Addr)(H:Hp)(Z:List Addr)(us:List V)(osss:List (List Addr))(lms:List bN):Prop where
 l1:us.length=lms.length
 l2:osss.length=lms.length
 get:∀(j:Nat) lm,lms[j]?=some lm->∃a oss,us[j]?=some (.ref a)/\osss[j]?=some (a::oss.flatten)/\gI C CL H Z a oss lm/\∀x∈a::oss.flatten,x∈Z
 apart:∀(i j:Nat) oi oj,i≠j->osss[i]?=some oi->osss[j]?=some oj->∀x∈oi,x∉oj
section
variable {C CL:Addr}{H H':Hp}{Z Z':List Addr}{us:List V}{osss:List (List Addr)}{lms:List bN}
def db.fu (h:db C CL H Z us osss lms):∀os∈osss,∀x∈os,x∈Z:=λos d x f=>by
 obtain ⟨j,c⟩:=Mf.mp d
 have b:j<lms.length:=by rw [<-h.l2];exact (Li.mp c).1
 obtain ⟨a,g,_,e,_,i⟩:=h.get j _<|Lk b
 rw [c] at e
 cases e
 exact i x f
theorem db.frame (h:db C CL H Z us osss lms)(f:∀os∈osss,∀x∈os,x∈Z')(k:∀b u,(∃os∈osss,b∈os)->H b=some u->H' b=some u)(S:ab (but H Z) (but H' Z')):db C CL H' Z' us osss lms:=
 ⟨h.l1,h.l2,λj i l=>by
  obtain ⟨a,c,m,g,A,_⟩:=h.get j i l
  have d:=Lp g
  exact ⟨a,c,m,g,A.frame (f _ d) (λb u n e=>k b u ⟨_,d,n⟩ e) S,f _ d⟩,h.apart⟩
def db.put{j:Nat}{os:ZX}{d:List ZX}(h:db C CL H Z us osss lms)(l:ap Z H)(hj:lms[j]?=some Y)(ha:us[j]?=some (.ref a))(J:osss[j]?=some os)(p:a∈os)(n:∀x∈d.flatten,x∈os\/H x=none)
  (k:∀b u,b∉os->H b=some u->H' b=some u) (A:gI C CL H' (d.flatten++Z) a d v):db C CL H' (d.flatten++Z) us (osss.set j (a::d.flatten)) (lms.set j v):=by
 have s:=h.fu os<|Lp J
 have t:j<osss.length:=(Li.mp J).1
 have L:j<lms.length:=(Li.mp hj).1
 have S:ab (but H Z) (but H'<|d.flatten++Z):=λb u e=>by
  obtain ⟨M,N⟩:=aw e
  rw [bf]
  .exact k b u (λz=>M<|s b z) N
  .intro z
   rcases LI.mp z with z|z
   .rcases n b z with w|w
    .exact M<|s b w
    .rw [w] at N;cases N
   .exact M z
 have y:∀x∈a::d.flatten,x∈os\/H x=none:=λx f=>by
  rcases Lw.mp f with z|z
  .rw [z];exact .inl p
  .exact n x z
 have E:∀(i:Nat) (r:ZX),i≠j->osss[i]?=some r->∀x∈a::d.flatten,x∉r:=λi r G g x f z=>by
  rcases y x f with w|w
  .exact h.apart j i os r (Ml G) J g x w z
  .exact l x (h.fu r (Lp g) x z) w
 refine ⟨by rw [MU];exact h.l1,by rw [MU,MU];exact h.l2,λi m g=>?_,λi O r I G g o x f z=>?_⟩
 .by_cases e:j=i
  .subst e
   rw [Lx L] at g
   cases g
   refine ⟨a,d,ha,Lx t,A,λx f=>?_⟩
   rcases Lw.mp f with w|w
   .rw [w];exact Lr _<|s a p
   .exact Lu _ w
  .rw [Lm e] at g
   obtain ⟨b,ob,e1,Q,B,T⟩:=h.get i m g
   refine ⟨b,ob,e1,by rw [Lm e];exact Q,B.frame (λx f=>Lr _<|T x f) (λc u hc q=>k c u (λw=>h.apart j i os _ e J Q c w hc) q) S,λx f=>Lr _<|T x f⟩
 .by_cases e:j=i
  .subst e
   rw [Lx t] at g
   cases g
   rw [Lm G] at o
   exact E O I (Ml G) o x f z
  .rw [Lm e] at g
   by_cases U:j=O
   .subst U
    rw [Lx t] at o
    cases o
    exact E i r (Ml e) g x z f
   .rw [Lm U] at o
    exact h.apart i O r I G g o x f z
end
def de (T fs:List (List D)):List (List D):=fs.foldl (λT f=>if f∈T then T else T++[f]) T
def Eg (T a:ZW)(f:ZZ):de T (a++[f])=if f∈de T a then de T a else de T a++[f]:=by
 unfold de;rw [MM];rfl
theorem wc:∀(a T:ZW) (g:ZZ),g∈de T a↔g∈T\/g∈a
 |[],T,g=>⟨.inl,λh=>h.elim id λz=>nomatch z⟩
 |f::r,T,g=>by
  show g∈de (if f∈T then T else T++[f]) r↔_
  rw [wc r]
  by_cases e:f∈T
  .rw [Lv e]
   constructor
   .rintro (h|h)
    .exact .inl h
    .exact .inr<|Lg _ h
   .rintro (h|h)
    .exact .inl h
    .rcases Lw.mp h with z|z
     .rw [z];exact .inl e
     .exact .inr z
  .rw [Lq e]
   constructor
   .rintro (h|h)
    .rcases LI.mp h with z|z
     .exact .inl z
     .rw [LK.mp z];exact .inr Lj
    .exact .inr<|Lg _ h
   .rintro (h|h)
    .exact .inl<|Lu _ h
    .rcases Lw.mp h with z|z
     .rw [z];exact .inl<|Lr _<|LK.mpr rfl
     .exact .inr z
theorem xt:∀(a T:ZW),T.length<=(de T a).length
 |[],T=>Lo _
 |f::r,T=>by
  show T.length<=(de (if f∈T then T else T++[f]) r).length
  have:=xt r<|if f∈T then T else T++[f]
  refine LN ?_ this
  split
  .exact Lo _
  .rw [LC];omega
def Gy (T a:ZW)(j:Nat):(de T (a.take j)).length<=(de T a).length:=by
 have e:de T a=de (de T<|a.take j) (a.drop j):=by
  unfold de
  rw [<-MM,OG]
 rw [e]
 exact xt _ _
theorem xI:∀(a T:ZW),(T++a).Nodup->de T a=T++a
 |[],T,_=>by rw [LV];rfl
 |f::r,T,h=>by
  have b:f∉T:=λz=>by
   rw [N3] at h
   exact h.2.2 f z f Lj rfl
  show de (if f∈T then T else T++[f]) r=_
  rw [Lq b,xI r (T++[f]) (by rw [Mm];exact h),Mm]
  rfl
theorem vO:∀(a T:ZW),(∀f∈a,f∈T)->de T a=T
 |[],T,_=>rfl
 |f::r,T,h=>by
  show de (if f∈T then T else T++[f]) r=_
  rw [Lv<|h f Lj,vO r T λg b=>h g<|Lg _ b]
def fj (rules:List bo)(lms:List bN)(facts:List (List D)):List (List D×List aF):=(rules.zip lms).map λq=>(q.1.1,fK (bR q.2 facts))
structure sm (rules:List bo)(lms:List bN)(T facts:List (List D)):Prop where
 p9:∀g∈facts,iy g/\fD g
 tok:∀g∈T,fD g
 dA:∀lm∈lms,lm.steps.length<=100/\lm.taken+facts.length<2^60/\∀s∈lm.steps,dz s.cB/\s.of.length+facts.length<1000
 give:∀(j:Nat) r lm,rules[j]?=some r->lms[j]?=some lm->∃R sz,qd (bR lm facts) r.1 R sz/\dD (bR lm facts) (bR lm facts).steps.length ([],[])<=8100000
 len:rules.length=lms.length
 all:(de T facts++aC (bb 0 (fj rules lms facts) (de T facts))).length<=1000
def xN (C CL CW:Addr):Sp:=λvs H Q _=>∃(Z:List Addr) (a dx:Addr) (vr:V) (ll td:Addr) (us:List V) (osss:List (List Addr)) (rules:List bo) (lms:List bN) (T facts:List (List D)) (v1:V),vs=[.ref a,v1]/\ap Z H/\but H Z a=some (.ins CW dx (lN vr ll td))/\but H Z ll=some (.lst us)/\db C CL H Z us osss lms/\td∈Z/\(∀os∈osss,td∉os)/\H td=some (.dT (cy T))/\al (but H Z) vr (.lst (rules.map aV))/\al (but H Z) v1 (.lst (facts.map D.tup))/\sm rules lms T facts/\
 ∀v H' Z' osss',(∀b u,b≠td->(∀os∈osss,b∉os)->H b=some u->H' b=some u)->(∀x∈Z,x∈Z')->(∀x∈Z',x∈Z\/H x=none)->ap Z' H'->db C CL H' Z' us osss' (lms.map λlm=>bR lm facts)->(∀os∈osss',∀x∈os,(∃o∈osss,x∈o)\/H x=none)->H' td=some (.dT (cy (de T facts++aC (bb 0 (fj rules lms facts) (de T facts)))))->al (but H' Z') v (.lst ((bb 0 (fj rules lms facts) (de T facts)).map eX))->Q v H'
def J5 (x:cj)(h:bW x.1):(eX x).fx=true:=by
 refine rm λy a=>?_
 simp only [Lw,L1,Mo] at a
 rcases a with rfl|rfl|rfl
 .exact ji h
 .rfl
 .exact ji λz b=>by
   obtain ⟨n,_,rfl⟩:=LG.mp b
   rfl
end FL
namespace FL
open PySem L2
section
variable {C CL:Addr}{H H':Hp}{Z:List Addr}{us:List V}{osss:List (List Addr)}{lms:List bN}
def db.nil {us:List V}(h:us=[]):db C CL H Z us [] []:=⟨by rw [h];rfl,rfl,λj a q=>by simp at q,λi j b c _ q=>by simp at q⟩
def db.snoc{c:List ZX}(h:db C CL H Z us osss lms)(l:ap Z H)(I:H x=none)(N:∀os∈c,∀y∈os,H y=none)(k:∀b u,H b=some u->H' b=some u)(A:gI C CL H' (c.flatten++x::Z) x c G):db C CL H' (c.flatten++x::Z) (us++[.ref x]) (osss++[x::c.flatten]) (lms++[G]):=by
 have J:∀y∈x::c.flatten,H y=none:=λy d=>by
  rcases Lw.mp d with z|z
  .rw [z];exact I
  .obtain ⟨os,v,w⟩:=Mc.mp z
   exact N os v y w
 have S:ab (but H Z) (but H' (c.flatten++x::Z)):=λb u e=>by
  obtain ⟨s,f⟩:=aw e
  rw [bf]
  .exact k b u f
  .intro z
   rcases LI.mp z with z|z
   .rw [J b<|Lg _ z] at f;cases f
   .rcases Lw.mp z with z|z
    .rw [z,I] at f;cases f
    .exact s z
 have O:=h.frame (Z':=c.flatten++x::Z) (λos v y d=>Lr _<|Lg _<|h.fu os v y d) (λb u _ e=>k b u e) S
 have E:∀t∈osss,∀y∈x::c.flatten,y∉t:=λt v y d z=>l y (h.fu t v y z)<|J y d
 refine ⟨by rw [LC,LC,h.l1];rfl,by rw [LC,LC,h.l2];rfl,λj m g=>?_,λi j t L M Q g y d z=>?_⟩
 .by_cases e:j<lms.length
  .rw [LO e] at g
   obtain ⟨a,T,U,Y,B,hz⟩:=O.get j m g
   exact ⟨a,T,by rw [LO (by rw [h.l1];exact e)];exact U,by rw [LO (by rw [h.l2];exact e)];exact Y,B,hz⟩
  .rw [LQ<|L8 e] at g
   have p:j-lms.length=0:=by
    have:=(Li.mp g).1
    simp at this
    exact this
   rw [p] at g
   have g:G=m:=by simpa using g
   subst g
   refine ⟨x,c,by rw [LQ (by rw [h.l1];omega),h.l1,p];rfl,by rw [LQ (by rw [h.l2];omega),h.l2,p];rfl,A,λy d=>?_⟩
   rcases Lw.mp d with z|z
   .rw [z];exact Lr _ Lj
   .exact Lu _ z
 .have r:∀{n:Nat} {o:ZX},(osss++[x::c.flatten])[n]?=some o->(n<osss.length/\osss[n]?=some o)\/(n=osss.length/\o=x::c.flatten):=λ{n o} q=>by
   by_cases e:n<osss.length
   .rw [LO e] at q;exact .inl ⟨e,q⟩
   .rw [LQ<|L8 e] at q
    have p:n-osss.length=0:=by
     have:=(Li.mp q).1
     simp at this
     exact this
    rw [p] at q
    exact .inr ⟨by omega,by simpa using q.symm⟩
  rcases r Q with ⟨_,s⟩|⟨n1,s⟩
  .rcases r g with ⟨_,f⟩|⟨_,f⟩
   .exact h.apart i j t L M s f y d z
   .rw [f] at z;exact E t (Lp s) y z d
  .rcases r g with ⟨_,f⟩|⟨n2,f⟩
   .rw [s] at d;exact E L (Lp f) y d z
   .exact M<|n1.trans n2.symm
end
def IU{g:List bo}{Q:VK}{K:W.Frag}(hw:Walk wi (but H M) σ (g.map aV))(l:ap M H)(ay:∀r∈g,oR r.2/\rM r.2)(i:g.length<=1000)
  (k:∀D A f s,(∀b u,H b=some u->s b=some u)->H D=none->s D=some (.lst A)->(∀os∈f,∀y∈os,H y=none/\y≠D)->ap (f.flatten++M) s->db C I s (f.flatten++M) A f (g.map λr=>bL r.2)->Q (.ref D) s):
  gH wi (a5 [] 1) (cf 0) j7 (rX I (vv C I) [] L2.E0 (bn (bZ (gS K) (aY 0) (tC (.int 1))) bB)) σ H Q:=hw M H (ab.refl _) l _ λJ O s1 bc T D hD=>by
 have lf:D∉M:=(l.same s1).fresh hD
 have HD:H D=none:=gx s1 hD
 refine ⟨λj m τ s=>m=(g.map aV).length-j/\j<=(g.map aV).length/\τ.length=1/\(∀b u,O b=some u->s b=some u)/\∃A f,s D=some (.lst A)/\db C I s (f.flatten++D::M) A f ((g.take j).map λr=>bL r.2)/\(∀os∈f,∀y∈os,O y=none/\y≠D)/\ap (f.flatten++D::M) s,
  ⟨_,rfl,LP _,rfl,λb u e=>by rw [aA<|cU e hD];exact e,[],[],aN,db.nil rfl,(λos p=>nomatch p),((l.same s1).upd).cons aN⟩,?_⟩
 rintro j m τ s ⟨rfl,hj,bd,kH,A,f,an,hL,hn,hl⟩
 have hs:ab (but O M) (but s (f.flatten++D::M)):=λb u e=>by
  obtain ⟨q1,q2⟩:=aw e
  rw [bf]
  .exact kH b u q2
  .intro z
   rcases LI.mp z with z|z
   .obtain ⟨os,p,w⟩:=Mc.mp z
    rw [(hn os p b w).1] at q2;cases q2
   .rcases Lw.mp z with z|z
    .rw [z,hD] at q2;cases q2
    .exact q1 z
 by_cases ao:j<(g.map aV).length
 .have as:j<g.length:=by simpa using ao
  have hr:=Lk as
  have hd:(g.map aV)[j]?=some (aV g[j]):=by rw [LA,hr];rfl
  have a0:=NE as
  generalize b6:g[j]=r at hr hd a0
  obtain ⟨bi,t⟩:=r
  obtain ⟨go,gy⟩:=bc j _ (f.flatten++D::M) s hd hs hl
  refine .inr ⟨go,λa1 n=>a1.length=1/\(∀b u,O b=some u->n b=some u)/\∃A f,n D=some (.lst A)/\db C I n (f.flatten++D::M) A f ((g.take<|j+1).map λr=>bL r.2)/\(∀os∈f,∀y∈os,O y=none/\y≠D)/\ap (f.flatten++D::M) n,
   λa1 n q0=>by obtain ⟨a,b,c⟩:=q0;exact ⟨(g.map aV).length-(j+1),by omega,rfl,ao,a,b,c⟩,λx n hy=>?_⟩
  obtain ⟨s3,rx⟩:=gy x n hy
  have a2:=hl.same s3
  simp only [cf,j7,Oc]
  have h0:(τ.set 0<|some x)[0]?=some (some x):=Lx Z4
  refine (cv (K:=K) (ds:=[.tup bi,cq t]) (d:=cq t) rfl (cA h0 rx) av) (f.flatten++D::M) n (ab.refl _) a2 _ λv L s4 r4=>λy U B bk b7=>?_
  have a3:=a2.same s4
  have E:=s4 _ _<|s3 _ _ an
  have S4:ab L (upd (upd L U (.own y)) y (.ins I U [])):=λb u e=>by rw [aA<|cU e B,aA<|cU e bk];exact e
  have back:∀{z:Addr},(upd (upd L U (.own y)) y (.ins I U [])) z=none->L z=none:=λ{z} e=>gx S4 e
  generalize bl:upd (upd L U (.own y)) y (.ins I U [])=H5 at S4 back
  have N:=ay _ a0
  refine ⟨f.flatten++D::M,t,y,U,v,rfl,by rw [<-bl];exact aN,a3.same S4,r4.mono<|S4.but _,N.1,N.2,λY H6 k6 n6 l6 L6=>⟨rfl,?_⟩⟩
  have ac:∀b u,L b=some u->H6 b=some u:=λb u e=>k6 b u (cU e B)<|S4 _ _ e
  have bs:db C I L (f.flatten++D::M) A f ((g.take j).map λr=>bL r.2):=hL.frame hL.fu (λb u _ e=>s4 _ _<|s3 _ _ e)<|(s3.trans s4).but _
  have a4:=bs.snoc a3 B (λos p z i=>back<|n6 os p z i) ac L6
  have bt:=ac _ _ E
  have bx:=hL.l1
  rw [Ll,L9] at bx
  refine ⟨A,bt,cp Z4,by rw [MU];exact bd,λb u e=>?_,A++[.ref y],f++[y::Y.flatten],aN,?_,λos p z i=>?_,?_⟩
  .rw [aA<|cU e hD]
   exact ac _ _<|s4 _ _<|s3 _ _<|kH b u e
  .have G:∀z,z∈(f++[y::Y.flatten]).flatten++D::M↔z∈Y.flatten++y::(f.flatten++D::M):=λz=>by
    simp only [Ny,M9,ND,LV,LI,Lw]
    constructor<;>(intro h;simp only [or_assoc] at h⊢;rcases h with h|h|h|h|h<;>simp [h])
   have b0:(g.take<|j+1).map (λr=>bL r.2)=(g.take j).map (λr=>bL r.2)++[bL t]:=by rw [L0,hr,LU];rfl
   rw [b0]
   refine a4.frame (λos p z i=>(G z).mpr<|a4.fu os p z i) (λb u ⟨os,p,hb⟩ e=>?_) ?_
   .rw [aA λz=>?_]
    .exact e
    .subst z
     rcases LI.mp p with w|w
     .exact (hn os w _ hb).2 rfl
     .rw [LK.mp w] at hb
      rcases Lw.mp hb with q|q
      .rw [<-q,E] at B;cases B
      .obtain ⟨o,af,q'⟩:=Mc.mp q
       rw [back<|n6 o af _ q'] at E;cases E
   .rw [dw<|(G D).mpr<|Lr _<|Lg _<|Lr _ Lj,jv G]
    exact ab.refl _
  .have aj:∀{z:Addr},L z=none->O z=none:=λ{z} e=>by
    cases q:O z with
    |none=>rfl
    |some u=>have:=s4 _ _<|s3 _ _<|kH z u q;rw [e] at this;cases this
   rcases LI.mp p with w|w
   .exact hn os w z i
   .rw [LK.mp w] at i
    have am:L z=none:=by
     rcases Lw.mp i with q|q
     .rw [q];exact B
     .obtain ⟨o,af,q'⟩:=Mc.mp q
      exact back<|n6 o af _ q'
    exact ⟨aj am,λq=>by rw [q,E] at am;cases am⟩
  .refine ap.upd λz i=>l6 z ?_
   simp only [Ny,M9,ND,LV,LI,Lw] at i⊢
   simp only [or_assoc] at i⊢
   rcases i with h|h|h|h|h<;>simp [h]
 .have e:j=(g.map aV).length:=by omega
  subst e
  rw [Ll,MR] at hL
  refine .inl ⟨T (f.flatten++D::M) s hs,k D A f s (λb u e=>kH b u<|s1 _ _ e) HD an (λos p y hy=>⟨gx s1 (hn os p y hy).1,(hn os p y hy).2⟩) (λz i=>hl z ?_) ?_⟩
  .rcases LI.mp i with w|w
   .exact Lu _ w
   .exact Lr _<|Lg _ w
  .refine hL.frame (λos p z i=>Lu _<|Mc.mpr ⟨os,p,i⟩) (λb u _ e=>e) (dR λz i=>?_)
   rcases LI.mp i with w|w
   .exact Lu _ w
   .exact Lr _<|Lg _ w
def Cs (C CL CW:Addr):Sp:=λvs H Q _=>∃(M:List Addr) (rules:List bo) (x dx:Addr) (v1:V),vs=[.ref x,v1]/\H x=some (.ins CW dx [])/\ap M H/\x∉M/\al (but H M) v1 (.lst (rules.map aV))/\(∀r∈rules,oR r.2/\rM r.2)/\rules.length<=100/\
 ∀ll td us osss H',(∀b u,b≠x->H b=some u->H' b=some u)->H' x=some (.ins CW dx (lN v1 ll td))->H td=none->H' td=some (.dT [])->(∀os∈osss,∀y∈os,H y=none/\y≠td)->but H' (td::(osss.flatten++M)) ll=some (.lst us)->ap (td::(osss.flatten++M)) H'->db C CL H' (td::(osss.flatten++M)) us osss (rules.map λr=>bL r.2)->Q .aq H'
end FL
namespace FL
open PySem L2
section
variable {X:Cx}{C:Addr}{N':List Str}{scope:Scope}{cl:List (Str×Addr)}{Ca:Addr}{fp:List Addr}{s:Shared}{H:Hp}
def Hj {n:Nat}{x:Str}{ps:ZY}{sp:Sp}{e:Expr}{es:List Expr}{t:TA}{p pos:Pos}{k:Nat}(h:iU X.prog X.w X.K X.mg X.base n C x ps sp)(hr:cK (k+1) X.A)(ha:PA (bv X N' scope cl Ca fp s H) (e::es) t)(hle:n<=k:=by decide)
  (hg:Gl (bv X N' scope cl Ca fp s H) x:=by rfl) (hdb:(x==("__debug__":Str))=false:=by decide) (he:starEach (e::es) (bv X N' scope cl Ca fp s H).env=(false,eval e (bv X N' scope cl Ca fp s H).env)::starEach es (bv X N' scope cl Ca fp s H).env:=by rfl) (hpl:(backTo pos (starEach es (bv X N' scope cl Ca fp s H).env)).any (·.1)=false:=by rfl):
  PE (bv X N' scope cl Ca fp s H) (.Call (.Name x p) (e::es) [] pos) (rX C sp [] L2.E0 t):=vE (X:=bv X N' scope cl Ca fp s H) h hr ha hle hg hdb he hpl
end
end FL
namespace L2
open PySem PySem.Spec PyProof.Rows
def xA (lo c:Int)(n:Nat):It:=⟨λi _=>i<n,λi H x H'=>H'=H/\x=.int (lo+i*c),λi _=>n<=i⟩
def JY {P:Program}{w:World}{K:W.Frag}{tg:Expr}(it:Addr)(lo c:Int)(n:Nat):iF P w K tg (xA lo c n) [it] it (λi h=>IsRangeIter h it (lo+(i:Nat)*c) ((n:Int)-(i:Nat)) c) where
 mem:=by simp
 obj:=λi h st b hb=>by
  have e:b=it:=by simpa using hb
  subst e
  exact ⟨_,st,λv z=>by
   have z':Data.fields _=Data.cell v:=z
   cases z'⟩
 keep:=λi h h' st k=>k it Z8 _ st
 item:=by
  intro X hP hw hK hc i pins s σ H E I hf st hg
  subst hP hw hK
  obtain ⟨f0,f1,f2,f3,f4,f5⟩:=hf it Z8
  have W:=Walks.range (prog:=X.prog) (w:=X.w) (I.ok.hd hc) it lo c n
  refine W.item i s _ _ hg st λv h' tk hv st' kk=>?_
  obtain ⟨t,rfl⟩:=hv
  have I1:Inv X pins σ H {s with heap:=h',toks:=tk}:=I.turned (λb o hb e=>kk b o (by simpa using hb) e) f0 f1 f3 f4 f5
  exact ⟨_,rfl,nc (s:={s with heap:=h',toks:=tk}) (n:="range_iterator") st' rfl rfl Z1 ⟨.int<|lo+i*c,H,I1,⟨t,rfl⟩,⟨rfl,rfl⟩,st',λb hb=>(hf b hb).1⟩⟩
 done:=by
  intro X hP hw hK hc i pins s σ H E I hf st hg
  subst hP hw hK
  obtain ⟨f0,f1,f2,f3,f4,f5⟩:=hf it Z8
  exact wpAny_pyNext_range_end (I.ok.hd hc) st (by have:n<=i:=hg;omega) λh' eb=>⟨rfl,I.turned (t':=s.toks) (λb o hb e=>eb b o hb e) f0 f1 f3 f4 f5⟩
 self:=λ_ _ _ _ _ st h=>wpAny_pyIter_rangeiter st h
section
variable {X:Cx}{tg:Expr}
def BW (ta:TA):TI:=λσ H R=>ta σ H λvs H1=>∃(i j c:Int) (n:Nat),vs=[.int i,.int j,.int c]/\c≠0/\Builtin.Range.small i j c=true/\Builtin.divisionGoesByPylong (j-i) c=false/\Builtin.Range.rangeSize i j c=n/\R (xA i c n) H1
def GN(B:Gl X "range")(C:X.mg "range"=none)(E:PA X [a,b,c] y)(G:starEach [a,b,c] X.env=[(false,eval a X.env),(false,eval b X.env),(false,eval c X.env)]:=by rfl)(l:starEach [b,c] X.env=[(false,eval b X.env),(false,eval c X.env)]:=by rfl):
  PI X tg (.Call (.Name "range" p) [a,b,c] [] k) (BW y):=by
 intro f s z H R I h
 refine Call_<|je I B C boot_range<|MA (aS (E k f s z H _ I h) λU g ⟨Y,A,J,L,v⟩=>?_) (by rw [G,l]) (by rw [l];rfl)
 obtain ⟨i,j,c,n,e,v,M,N,O,q⟩:=v
 subst e
 cases L with
 |cons r m=>
  cases m with
  |cons Q m=>
   cases m with
   |cons w m=>
    cases m
    obtain ⟨t,rfl⟩:=r
    obtain ⟨u,rfl⟩:=Q
    obtain ⟨d,rfl⟩:=w
    refine call_range_3 v ?_ (.inl N)
    refine wpAny_pyIter_range (IsRange.new ..) M ?_
    have x:Inv X f z A {g with heap:=g.heap.push {cls:=.type "range",data:=.fields #[.int i t,.int j u,.int c d]},toks:=g.toks}:=J.kept λb o e=>Ln _ e
    refine ⟨(g.heap.push {cls:=.type "range",data:=.fields #[.int i t,.int j u,.int c d]}).objs.size,[(g.heap.push {cls:=.type "range",data:=.fields #[.int i t,.int j u,.int c d]}).objs.size],_,_,A,rfl,
     x.kept (t':=g.toks) λb o e=>Ln _ e,JY _ i c n,?_,λb T=>?_,q⟩
    .show IsRangeIter _ _ (i+((0:Nat):Int)*c) ((n:Int)-((0:Nat):Int)) c
     rw [show i+((0:Nat):Int)*c=i by simp,show (n:Int)-((0:Nat):Int)=n by simp,<-O]
     exact LJ _ rfl
    .have e:b=(g.heap.push {cls:=.type "range",data:=.fields #[.int i t,.int j u,.int c d]}).objs.size:=by simpa using T
     subst e
     exact x.gL (Lo _)<|x.ay.fresh<|Lo _
end
end L2
namespace FL
open PySem L2
inductive iD (G:Hp):List V->List Sl->Prop
 |nil:iD G [] []
 |cons {v:V} {s:Sl} {vs:List V} {ss:List Sl}:iL G (some (some v)) s->iD G vs ss->iD G (v::vs) (s::ss)
theorem iD.length:∀{a:List V} {b:List Sl},iD G a b->a.length=b.length
 |_,_,.nil=>rfl
 |_,_,.cons _ r=>Mq (· +1) r.length
theorem iD.get:∀{a:List V} {b:List Sl} {i:Nat} {s:Sl},iD G a b->b[i]?=some s->∃v,a[i]?=some v/\iL G (some (some v)) s
 |_,_,_,_,.nil,e=>by simp at e
 |_,_,0,_,.cons h _,e=>by simp at e;subst e;exact ⟨_,rfl,h⟩
 |_,_,i+1,s,.cons _ r,e=>by
  obtain ⟨v,c,d⟩:=iD.get (i:=i) (s:=s) r (by simpa using e)
  exact ⟨v,by simpa using c,d⟩
def Sl.shr:Sl->Sl
 |.k S=>.kd S|.t ps=>.td ps|.l xs=>.d (.lst xs)|s=>s
def nh (t:TA)(G:Hp)(σ:St)(ss:List Sl):Prop:=∀M H,ab G (but H M)->ap M H->∀Q:List V->Hp->Prop,(∀vs H',ab H H'->iD (but H' M) vs ss->Q vs H')->t σ H Q
def spS (R:List Sl->D->Prop):Sp:=λvs H Q _=>∃M ss d,ap M H/\iD (but H M) vs ss/\R ss d/\∀v H',ab H H'->al (but H' M) v d->Q v H'
def JX{R:List Sl->D->Prop}(c:∀a d,R a d->a.length=n):∀b H Q E,spS R b H Q E->b.length=n:=λb H Q E f=>by obtain ⟨M,a,d,l,r,e,k⟩:=f;rw [r.length];exact c a d e
section
variable {G:Hp}{σ:St}{δ:List Sl}{ta:TE}{t:TA}{d:D}{ss:List Sl}
def GF:nh bB G σ []:=λM H s l Q k=>k [] H (ab.refl _) .nil
def Ew (c:ae ta G σ d)(e:nh t G σ ss):nh (bn ta t) G σ (.d d::ss):=
 λM H s l Q k=>c M H s l _ λv f a g=>e M f (s.trans<|a.but M) (l.same a) _ λj h b i=>k _ h (a.trans b) (.cons ⟨v,rfl,g.mono<|b.but M⟩ i)
def bP.es{i:Nat}(e:bP G σ δ)(g:δ[i]?=some s)(j:s≠.no)(m:nh t G σ ss):nh (bn (aY i) t) G σ (s.shr::ss):=λM H c l Q k=>by
 have w:=(e.mono c).get i s g
 have:∃v,σ[i]?=some (some v)/\iL (but H M) (some<|some v) s.shr:=by
  cases s with
  |no=>exact absurd rfl j
  |d x=>obtain ⟨v,h,r⟩:=w;exact ⟨v,h,v,rfl,r⟩
  |l x=>obtain ⟨v,h,r⟩:=w;exact ⟨v,h,v,rfl,r⟩
  |k x=>obtain ⟨a,h,r⟩:=w;exact ⟨.ref a,h,a,rfl,r⟩
  |t x=>obtain ⟨a,b,h,r⟩:=w;exact ⟨.ref a,h,a,b,rfl,r⟩
  |kd x=>obtain ⟨a,h,r⟩:=w;exact ⟨.ref a,h,a,rfl,r⟩
  |td x=>obtain ⟨a,b,h,r⟩:=w;exact ⟨.ref a,h,a,b,rfl,r⟩
 obtain ⟨v,n,o⟩:=this
 exact ⟨v,n,m M H c l _ λu p f q=>k _ p f (.cons (o.mono<|f.but M) q)⟩
def Jp{R:List Sl->D->Prop}(b:R ss d)(h:nh t G σ ss):ae (ii (spS R) [] E t) G σ d:=
 λM H s l Q k=>h M H s l _ λi j a c=>⟨M,ss,d,l.same a,by rw [LV];exact c,b,λv e f g=>k v e (a.trans f) g⟩
end
def Gg {M:ZX}{H:Hp}{vs:List V}{ss:List Sl}(l:ap M H)(r:iD (but H M) vs ss)(ho:∀s∈ss,s.own=false)(N:ZY):Bx H M [] (L2.start N vs) H (ss++List.replicate (N.length-ss.length) .no):=by
 have hl:=r.length
 have own0:∀{j:Nat} {s:Sl},(ss++List.replicate (N.length-ss.length) Sl.no)[j]?=some s->s.own=true->False:=λ{j s} h k=>by
  rcases LI.mp (Lp h) with z|z
  .rw [ho s z] at k;cases k
  .rw [(List.mem_replicate.mp z).2] at k;cases k
 refine ⟨by simp [L2.start,hl],ab.refl _,l,(λa ha=>nomatch ha),λi s q=>?_,λi j s t a _ hs _ ks _ _ _=>own0 hs ks⟩
 by_cases hi:i<ss.length
 .rw [LO hi] at q
  obtain ⟨v,h1,h2⟩:=r.get q
  have hv:(L2.start N vs)[i]?=some (some v):=by
   unfold L2.start
   rw [LO (by simpa using (by omega:i<vs.length)),LA,h1]
   rfl
  rw [hv]
  have:=ho s (Lp q)
  cases s with
  |no=>trivial
  |d x=>exact h2
  |l x=>cases this
  |k x=>cases this
  |t x=>cases this
  |kd x=>exact h2
  |td x=>exact h2
 .rw [LQ (L8 hi)] at q
  obtain ⟨h1,h2⟩:=Li.mp q
  simp at h2
  subst h2
  trivial
section
variable {B:Hp}{M0:List Addr}{δ:List Sl}{E:Ends}{t:TA}
def dQ.CO {a b c:Int}{n:Nat}(p:c≠0)(r:Builtin.Range.small a b c=true)(s:Builtin.divisionGoesByPylong (b-a) c=false)(u:Builtin.Range.rangeSize a b c=n)(h:∀G f,bP G f δ->dO t G f [.int a,.int b,.int c]):dQ B M0 δ (BW t) ((List.range n).map λ(k:Nat)=>D.int (a+k*c)):=λv f H i R k=>h _ f i.wide _ H (ab.refl _) i.live _ λY w A g=>by
 cases g with
 |cons C g=>
  obtain ⟨y,z,rfl,I,J⟩:=pp g
  refine ⟨a,b,c,n,by rw [C.dL,I.dL,J.dL],p,r,s,u,?_⟩
  refine k _ w A (λj d L M l N hl=>?_) λL M N=>?_
  .rw [LA] at l
   obtain ⟨q,O,rfl⟩:=Mj.mp l
   obtain ⟨m,o⟩:=Li.mp O
   simp at m o
   subst o
   refine ⟨m,λx Q T=>?_⟩
   obtain ⟨e,U⟩:=T
   subst e;subst U
   exact ⟨ab.refl _,.int _⟩
  .show n<=_
   simp
end
end FL
namespace FL
open PySem L2
def wL (f:List D):Prop:=∃r xs,f=.str r::xs/\∀x∈xs,x.sc=true
def A4:List D->D->Prop:=λds d=>∃f,ds=[.tup f]/\wL f/\d=.bl true
def Co:List D->D->Prop:=λds d=>∃as,ds=[cq as]/\y6 as/\d=fA (aT [] as)
def Ct:List Sl->D->Prop:=λss d=>∃a ps,ss=[.d (.tup a),.td ps]/\xw a/\d=.bl (dF (ps.map (·.1)) a)
section
variable {G:Hp}{σ:St}{δ:List Sl}{ty:TE}{j:Nat}{ps:List (List D×D)}{key:List D}{d:D}
def bP.nM (e:bP G σ δ)(a:δ[j]?=some (.td ps)):bP G σ (δ.set j (.t ps))/\(δ.set j (.t ps))[j]?=some (.t ps):=⟨⟨by rw [MU];exact e.len,λi s q=>by
 rcases M5 q with ⟨rfl,rfl,_⟩|⟨_,h⟩
 .exact e.get _ (.td ps) a
 .exact e.get i s h⟩,Lx (Li.mp a).1⟩
def bP.J1 (e:bP G σ δ)(a:δ[j]?=some (.td ps))(b:bW key)(h:ae ty G σ (.tup key)):ae (oJ ty (aY j)) G σ (.bl (decide (key∈ps.map (·.1)))):=(e.nM a).1.Hs (e.nM a).2 b h
def bP.DT (e:bP G σ δ)(a:δ[j]?=some (.td ps))(b:bW key)(h:ae ty G σ (.tup key)):ae (nz ty (aY j)) G σ (.bl (!decide (key∈ps.map (·.1)))):=(e.nM a).1.zP (e.nM a).2 b h
end
structure dW (pool:List D):Prop where
 len:pool.length=3\/pool.length=10
 nodup:pool.Nodup
 gp:∀x∈pool,GP x
 nb:∀x∈pool,aH x=false
def tW.k(h:tW a):dW a:=⟨.inl h.len,h.nodup,h.gp,h.nb⟩
def tP:List D:=(List.range 10).map λ(k:Nat)=>D.int (0+(k:Int))
def JQ:dW tP:=⟨.inr (by simp [tP]),Z9,λx a=>by obtain ⟨k,_,rfl⟩:=LG.mp a;exact sn _,λx a=>by obtain ⟨k,_,rfl⟩:=LG.mp a;rfl⟩
def F3:D->List D
 |.lst l=>l|_=>[]
def fZ (ms:List Int):List D:=if ms.getD 0 0%4=3 then tP else F3 ((nV (ms.getD 1 0%1000)).getD (ms.getD 0 0/4%(4:Nat)).toNat .aq)
def zH (a:List Int):dW (fZ a):=by
 unfold fZ
 split
 .exact JQ
 .obtain ⟨d,_,c,f⟩:=fm (l:=nV<|a.getD 1 0%1000) (n:=4) (a.getD 0 0/4) Z1 rfl
  obtain ⟨b,e,g⟩:=zW (PR (a.getD 1 0) (show (1000:Int)≠0 by decide)) d c
  rw [<-f,e]
  exact g.k
def vV:List D->D->Prop:=λds d=>∃ms:List Int,ds=[.lst (ms.map D.int)]/\d=.lst (fZ ms)
def DU {x:D}(h:x.sc=true):(!ri x&& !fQ x)=false:=by
 have:=FV h
 unfold Bu at this
 revert this
 cases ri x<;>cases fQ x<;>simp
end FL
namespace FL
open PySem L2
def dy:List (Str×Nat):=[("road",2),("roam",2),("kin",2),("near",2),("mark",1),("rain",0)]
def jd:List (Str×Nat):=dy++([("less",2),("unlike",2)]:List (Str×Nat))
def iP (a:List D):Prop:=∃w xs,a=D.str w::xs/\(w,xs.length)∈jd/\∀x∈xs,GP x
def lw (pool h:List D):Prop:=∃w xs,h=D.str w::xs/\(w,xs.length)∈dy/\∀x∈xs,x∈pool\/x∈dh
def jf(h:(w,n)∈jd):mz (.str w)/\aH (.str w)=false/\n<=2/\(decide (D.str w=.str "less")||decide (D.str w=.str "unlike"))=decide ((w,n)∉dy)/\((w,n)∉dy->n=2):=by
 simp only [jd,dy,OO,NM,Lw,L1,Mo,Prod.mk.injEq] at h
 rcases h with ⟨rfl,rfl⟩|⟨rfl,rfl⟩|⟨rfl,rfl⟩|⟨rfl,rfl⟩|⟨rfl,rfl⟩|⟨rfl,rfl⟩|⟨rfl,rfl⟩|⟨rfl,rfl⟩<;>exact ⟨⟨by decide,_,_,rfl⟩,Z9,by decide,Z9,Z9⟩
def iP.at_(h:iP a):kO a:=by
 obtain ⟨w,f,rfl,b,c⟩:=h
 obtain ⟨d,e,g,_⟩:=jf b
 exact Jv d e c Z4
def iP.gd(h:iP a)(b:aK a=true):∃r x y,a=[.str r,x,y]:=by
 obtain ⟨w,c,rfl,d,g⟩:=h
 obtain ⟨_,_,_,e,f⟩:=jf d
 have b:(decide (D.str w=.str "less")||decide (D.str w=.str "unlike"))=true:=b
 rw [e] at b
 have:=f<|LD b
 match c,this with
 |[x,y],_=>exact ⟨w,x,y,rfl⟩
structure cY (pool:List D)(r:bo):Prop where
 at_:∀a∈r.2,iP a
 hd:lw pool r.1
 hb:∀y∈r.1,aH y=true->∃a∈r.2,aK a=false/\y∈a
 gb:∀g∈r.2,aK g=true->∀y∈g,aH y=true->∃a∈r.2,aK a=false/\y∈a
 dA:r.2.length<=3
def e9 (body:List (List D)):List (List D):=body.filter λa=> !aK a
def jQ{b:ZW}(h:∃a∈b,aK a=false/\y∈a)(c:aH y=true):y.name∈aT [] (e9 b):=by
 obtain ⟨a,d,e,f⟩:=h
 exact ni (Ly.mpr ⟨d,by rw [e];rfl⟩) f c
def cY.bi(h:cY b r):BI (e9 r.2) r.2:=by
 refine ⟨rfl,λa d=>(h.at_ a d).at_,λg c e=>?_,LN (LZ _ _) h.dA⟩
 obtain ⟨w,x,y,rfl⟩:=(h.at_ g c).gd e
 have f:=(h.at_ _ c).at_.hd
 exact ⟨⟨w,x,y,rfl⟩,Jl f (λq=>jQ (h.gb _ c e x Z8 q) q) λq=>jQ (h.gb _ c e y Z8 q) q⟩
theorem lw.sc(a:dW pool)(k:lw pool h):(∀x∈h,x.sc=true)/\h.length<=3:=by
 obtain ⟨w,e,rfl,b,c⟩:=k
 have f:=(jf<|Lu _ b).2.2.1
 refine ⟨λx d=>?_,by rw [Ma];omega⟩
 rcases Lw.mp d with z|z
 .rw [z];rfl
 .rcases c x z with q|q
  .exact (a.gp x q).1
  .exact (nQ x q).1
def oo(h:(w,2)∈jd)(a:GP x)(b:GP y):iP [.str w,x,y]:=⟨w,[x,y],rfl,h,by simp [a,b]⟩
def Fy(h:(w,1)∈jd)(a:GP x):iP [.str w,x]:=⟨w,[x],rfl,h,by simp [a]⟩
def dr{a:ZZ}(h:(w,2)∈dy)(b:x∈a\/x∈dh)(c:y∈a\/y∈dh):lw a [.str w,x,y]:=⟨w,[x,y],rfl,h,by simp [b,c]⟩
def uZ{a:ZZ}(h:(w,1)∈dy)(b:x∈a\/x∈dh):lw a [.str w,x]:=⟨w,[x],rfl,h,by simp [b]⟩
def kM:lw a [.str "rain"]:=⟨"rain",[],rfl,by simp [dy],by simp⟩
def uT (one two:D)(l r h:List D)(u v:D):List bo:=[
 ([.str "roam",.str "X",.str "Xy"],[[.str "road",.str "X",.str "Xy"]]),
 ([.str "roam",.str "X",.str "Z"],[[.str "roam",.str "X",.str "Xy"],[.str "road",.str "Xy",.str "Z"]]),
 ([.str "mark",.str "Xy"],[[.str "mark",.str "X"],[.str "road",.str "X",.str "Xy"]]),
 ([.str "kin",.str "Xy",.str "X"],[[.str "kin",.str "X",.str "Xy"]]),
 ([.str "near",.str "X",.str "Xy"],[[.str "road",.str "X",.str "Z"],[.str "unlike",.str "X",.str "Xy"],[.str "road",.str "Xy",.str "Z"]]),
 ([.str "rain"],[[.str "mark",one],[.str "roam",.str "X",.str "X"]]),
 ([.str "roam",.str "X",.str "Z"],[[.str "roam",.str "X",.str "Xy"],[.str "roam",.str "Xy",.str "Z"]]),
 ([.str "mark",two],[[.str "rain"]]),
 ([.str "kin",.str "X",.str "Z"],[[.str "kin",.str "X",.str "Xy"],[.str "kin",.str "Xy",.str "Z"],[.str "unlike",.str "X",.str "Z"]]),
 ([.str "road",.str "X",.str "Xy"],[[.str "less",.str "X",.str "Xy"],[.str "kin",.str "X",.str "Xy"]]),
 ([.str "kin",.str "X",one],[[.str "mark",.str "X"],[.str "less",two,.int 3]]),
 ([.str "mark",one],[[.str "less",.int 0,.int 1]]),
 (h,[l,r]),
 (h,[l,[.str "less",u,v],r])]
def wb(h:w∈(["road","roam","kin","near","mark","rain","less","unlike"]:ZY)):aH (.str w)=false:=by
 simp only [Lw,L1,Mo] at h
 rcases h with rfl|rfl|rfl|rfl|rfl|rfl|rfl|rfl<;>decide+kernel
def wg:aK (.str w::a)=(decide (w="less")||decide (w="unlike")):=by
 unfold aK
 simp
def qa:a∈a::l:=Lj
def iz{a:c}:b∈a::b::l:=Lg _ qa
def iT{a:d}:c∈a::b::c::l:=Lg _ iz
def hZ:List Str:=["road","roam","kin"]
def Jc(s:dW b)(E:f∈b)(G:g∈b)(L:k∈hZ)(M:l∈hZ)(N:C∈hZ)(O:∀x∈[i,c,d,j],x∈b\/x∈dh)(gh:∀x∈[o,q],x∈[i,c,d,j]):
  ∀r∈uT f g [.str k,i,c] [.str l,d,j] [.str C,o,q] c d,cY b r:=by
 have Q:=s.gp f E
 have T:=s.gp g G
 have n1:=s.nb f E
 have n2:=s.nb g G
 have n:∀x∈[i,c,d,j],GP x:=λx H=>(O x H).elim (s.gp x)<|nQ x
 have b1:=wb (w:="road") Z8
 have b2:=wb (w:="roam") Z8
 have b3:=wb (w:="kin") Z8
 have b4:=wb (w:="near") Z8
 have b5:=wb (w:="mark") Z8
 have b6:=wb (w:="rain") Z8
 have b7:=wb (w:="less") Z8
 have b8:=wb (w:="unlike") Z8
 have U:∀w∈hZ,(w,2)∈dy/\aH (.str w)=false/\¬w="less"/\¬w="unlike":=λw hw=>by
  simp only [hZ,Lw,L1,Mo] at hw
  rcases hw with rfl|rfl|rfl
  .exact ⟨by simp [dy],b1,by decide,by decide⟩
  .exact ⟨by simp [dy],b2,by decide,by decide⟩
  .exact ⟨by simp [dy],b3,by decide,by decide⟩
 obtain ⟨Y,aj,t,u⟩:=U k L
 obtain ⟨ac,am,v,y⟩:=U l M
 obtain ⟨af,an,ao,as⟩:=U C N
 have lB:∀{p:Str×Nat},p∈dy->p∈jd:=λh=>Lu _ h
 have A:=gh o Z8
 have B:=gh q Z8
 have xX:D.str "X"∈dh:=by simp [dh]
 have xY:D.str "Xy"∈dh:=by simp [dh]
 have xZ:D.str "Z"∈dh:=by simp [dh]
 have A0:iP [.str "rain"]:=⟨"rain",[],rfl,by simp [jd,dy],by simp⟩
 have hl:=oo (lB Y) (n i Z8)<|n c Z8
 have hr:=oo (lB ac) (n d Z8)<|n j Z8
 have hg:iP [.str "less",c,d]:=oo (by simp [jd]) (n c Z8)<|n d Z8
 have hh:lw b [.str C,o,q]:=dr af (O o A)<|O q B
 have e:∀{m:ZW},[D.str k,i,c]∈m->[D.str l,d,j]∈m->∀x∈[i,c,d,j],∃a∈m,aK a=false/\x∈a:=λ{m} m1 m2 x H=>by
  have I:aK [D.str k,i,c]=false:=by rw [wg];simp [t,u]
  have J:aK [D.str l,d,j]=false:=by rw [wg];simp [v,y]
  simp only [Lw,L1,Mo] at H
  rcases H with rfl|rfl|rfl|rfl
  .exact ⟨_,m1,I,by simp⟩
  .exact ⟨_,m1,I,by simp⟩
  .exact ⟨_,m2,J,by simp⟩
  .exact ⟨_,m2,J,by simp⟩
 have no:∀{x:D} {p:Prop},aH x=false->aH x=true->p:=λh z=>by rw [h] at z;cases z
 have I:¬aK [D.str k,i,c]=true:=by rw [wg];simp [t,u]
 have J:¬aK [D.str l,d,j]=true:=by rw [wg];simp [v,y]
 intro r hm
 simp only [uT,Lw,L1,Mo] at hm
 rcases hm with rfl|rfl|rfl|rfl|rfl|rfl|rfl|rfl|rfl|rfl|rfl|rfl|rfl|rfl
 all_goals refine ⟨?_,?_,?_,?_,by simp⟩
 all_goals dsimp only
 all_goals first
  |exact hh
  |exact kM
  |(refine dr (by simp [dy]) ?_ ?_<;>simp [dh,E,G])
  |(refine uZ (by simp [dy]) ?_<;>simp [dh,E,G])
  |skip
 all_goals simp only [List.forall_mem_cons,L1,false_imp_iff,implies_true,and_true]
 all_goals repeat' apply And.intro
 all_goals first
  |exact hl
  |exact hr
  |exact hg
  |exact A0
  |exact oo (by simp [jd,dy]) (by first|exact tF|exact sf|exact qJ|exact sn _|exact Q|exact T) (by first|exact tF|exact sf|exact qJ|exact sn _|exact Q|exact T)
  |exact Fy (by simp [jd,dy]) (by first|exact tF|exact sf|exact qJ|exact Q|exact T)
  |exact no (by first|assumption|rfl)
  |exact λ_=>⟨_,qa,by rw [wg];decide+kernel,iz⟩
  |exact λ_=>⟨_,qa,by rw [wg];decide+kernel,iT⟩
  |exact λ_=>⟨_,iz,by rw [wg];decide+kernel,iz⟩
  |exact λ_=>⟨_,iz,by rw [wg];decide+kernel,iT⟩
  |exact λ_=>⟨_,iT,by rw [wg];decide+kernel,iz⟩
  |exact λ_=>⟨_,iT,by rw [wg];decide+kernel,iT⟩
  |exact λ_=>e Z8 Z8 _ A
  |exact λ_=>e Z8 Z8 _ B
  |exact λz=>absurd z I
  |exact λz=>absurd z J
  |(intro z;rw [wg] at z;exact absurd z Z9)
  |skip
 all_goals intro _
 all_goals repeat' apply And.intro
 all_goals first
  |exact no (by first|assumption|rfl)
  |exact λ_=>⟨_,qa,by rw [wg];decide+kernel,iz⟩
  |exact λ_=>⟨_,qa,by rw [wg];decide+kernel,iT⟩
  |exact λ_=>⟨_,iz,by rw [wg];decide+kernel,iz⟩
  |exact λ_=>⟨_,iz,by rw [wg];decide+kernel,iT⟩
  |exact λ_=>⟨_,iT,by rw [wg];decide+kernel,iz⟩
  |exact λ_=>⟨_,iT,by rw [wg];decide+kernel,iT⟩
  |exact λ_=>e Z8 Z8 _ Z8
def j9 (w:Str)(xs:List D):bo:=(.str w::xs,[])
def vi{c:ZZ}(f:dW b)(h:(w,c.length)∈dy)(e:∀x∈c,x∈b):cY b (j9 w c):=by
 refine ⟨(λa d=>nomatch d),⟨w,c,rfl,h,λx q=>.inl<|e x q⟩,λy g q=>?_,(λa d=>nomatch d),LP _⟩
 rcases Lw.mp g with z|z
 .rw [z,(jf<|Lu _ h).2.1] at q;cases q
 .rw [f.nb y<|e y z] at q;cases q
theorem uI:∀{a:ZZ},bW a->D.fc a=0
 |[],_=>by simp [D.fc]
 |x::r,h=>by
  have b:=h x Lj
  have c:=uI (a:=r) λy d=>h y<|Lg _ d
  rw [D.fc,c]
  cases x<;>first|rfl|(simp [D.sc] at b)
theorem wQ:∀{l m:ZW},(∀a∈l,bW a)->(∀a∈m,bW a)->fO (l.map D.tup) (m.map D.tup)=true/\D.fc (l.map D.tup)<=1
 |[],m,_,_=>⟨by simp [fO],by simp [D.fc]⟩
 |a::l,m,h,k=>by
  have d:=h a Lj
  have e:D.fc ((a::l).map D.tup)<=1:=by
   rw [Me,D.fc,D.cR,uI d]
   exact Nat.max_le.mpr ⟨Lo _,(wQ (l:=l) (m:=[]) (λx c=>h x<|Lg _ c) λx c=>nomatch c).2⟩
  cases m with
  |nil=>exact ⟨by simp [fO],e⟩
  |cons b m=>
   refine ⟨?_,e⟩
   rw [Me,Me,fO,(wo d<|k b Lj).1]
   exact (wQ (l:=l) (m:=m) (λx c=>h x<|Lg _ c) λx c=>k x<|Lg _ c).1
def Gq {r s:bo}(b:bW r.1)(c:∀a∈r.2,bW a)(d:bW s.1)(e:∀a∈s.2,bW a):cr (aV r) (aV s)=true/\(aV r).cR<=40:=by
 obtain ⟨f,g⟩:=wQ c e
 unfold aV cq
 refine ⟨?_,?_⟩
 .rw [cr,fO,(wo b d).1,fO,cr,f]
  simp [fO]
 .rw [D.cR,D.fc,D.cR,uI b,D.fc,D.cR,D.fc]
  simp only [Nat.max_def]
  split<;>split<;>omega
def uv(h:aV r=aV s):r=s:=by
 unfold aV cq at h
 injection h with h
 injection h with d c
 injection d with d
 injection c with c _
 injection c with c
 have:r.2=s.2:=(NO λa b e=>by injection e).mp c
 exact Prod.ext d this
theorem cY.sc(b:dW pool)(h:cY pool r):bW r.1/\∀a∈r.2,bW a:=⟨(h.hd.sc b).1,λa c x d=>((h.at_ a c).at_.ok x d).1⟩
def y8 {r:bo}(c:bW r.1)(d:∀a∈r.2,bW a):(aV r).fx=true:=rm λx b=>by
 simp only [Lw,L1,Mo] at b
 rcases b with rfl|rfl
 .exact ji c
 .exact rm λy e=>by
   obtain ⟨a,f,rfl⟩:=LG.mp e
   exact ji<|d a f
def xa:bo:=([.str "mark",.str "Xy"],[[.str "mark",.str "X"],[.str "road",.str "X",.str "Xy"]])
def qu (pool:List D)(r:bo):Prop:=r=xa\/(∃x∈pool,∃y∈pool,r=j9 "road" [x,y])\/∃x∈pool,r=j9 "mark" [x]
structure fI (pool:List D)(rs:List bo):Prop where
 ok:∀r∈rs,cY pool r
 p6:pool.length=10->∀r∈rs,qu pool r
def fI.snoc(h:fI a b)(d:cY a r)(f:a.length=10->qu a r)(g:r∉b):fI a (b++[r]):=by
 refine ⟨λx c=>?_,λe x c=>?_⟩
 .rcases LI.mp c with z|z
  .exact h.ok x z
  .rw [LK.mp z];exact d
 .rcases LI.mp c with z|z
  .exact h.p6 e x z
  .rw [LK.mp z];exact f e
def yT (ds:List D):Prop:=∃seed pool a b c,ds=[.int seed,.lst pool,.int a,.int b,.int c]/\dW pool
def yO (ds:List D)(d:D):Prop:=∃seed pool a b c,∃rs:List bo,ds=[.int seed,.lst pool,.int a,.int b,.int c]/\d=.lst (rs.map aV)/\rs.length=14/\(∀r∈rs,cY pool r)/\rs[2]?=some xa
def BD (ds:List D):Prop:=∃ms:List Int,ds=[.lst (ms.map D.int)]/\ms.length<=1000
def xu (ds:List D)(d:D):Prop:=∃(ms:List Int) (rs:List bo),ds=[.lst (ms.map D.int)]/\d=.lst (rs.map aV)/\fI (fZ ms) rs/\rs.length<=30
def Ff {xs:List V}(k n:Nat):gG xs (some (k:Int)) (some ((k+n:Nat):Int))=(xs.drop k).take n:=by
 unfold gG
 rw [HT.p8,HT.p8]
 by_cases h:k<=xs.length
 .rw [OT h]
  by_cases h2:k+n<=xs.length
  .rw [OT h2,NC]
  .rw [OI Z4,LS Z8,LS (by rw [NZ];omega)]
 .rw [OI (show xs.length<=k by omega),NJ (Lo _),NJ Z4,Qa,Qa]
def DE{K:W.Frag}{k n m:Nat}(g:m=k+n)(h:ae c G b (.lst l)):ae (rH (vL K) c (pK (tC (.int (k:Int)))) (pK (tC (.int (m:Int))))) G b (.lst ((l.drop k).take n)):=
 λM H s d Q q=>h M H s d _ λx t e i=>⟨(k:Int),rfl,(m:Int),rfl,by
  obtain ⟨a,j,rfl,o,r⟩:=i.dI
  refine ⟨a,j,rfl,aQ.of (aw o).2,λp f=>?_⟩
  rw [g,Ff]
  exact q _ _ (e.trans<|c8 f _)<|mV (d.same e) f<|(r.drop k).take n⟩
end FL
namespace FL
open PySem L2
section
variable {B:Hp}{M0:List Addr}{δ:List Sl}{E:Ends}{te:TE}{d1 d2:D}
end
def xi{V:Str->D}(h:aH x=true):a8 V x=V x.name:=by unfold a8;rw [Lv h]
end FL
namespace FL
open PySem L2
section
variable {B:Hp}{M0 own:List Addr}{σ:St}{H:Hp}{δ:List Sl}{E:Ends}{te:TE}{d:D}
def Bx.free (b:Bx B M0 own σ H δ)(h:∀s∈δ,s.own=false):Bx B M0 [] σ H δ:=by
 refine ⟨b.len,b.same,b.f8,(λa e=>nomatch e),λi s q=>?_,λi j s t a _ f _ c _ _ _=>?_⟩
 .have w:=b.wide.get i s q
  have:=h s<|Lp q
  cases s with
  |no=>trivial
  |d x=>exact w
  |kd x=>exact w
  |td x=>exact w
  |l x=>cases this
  |k x=>cases this
  |t x=>cases this
 .rw [h s<|Lp f] at c;cases c
end
def IE {d:ZW}(g:∀a∈d,kO a):(aT [] d).length<=3:=by
 have i:∀b∈(aT [] d).map D.str,b∈dh:=λb j=>by
  obtain ⟨c,k,rfl⟩:=LG.mp j
  exact (Iu g k).1
 have h:=jJ (FP (f:=D.str) (qw (as:=d) NA) λx _ y _ e=>by injection e) i
 rw [Ll] at h
 exact h
end FL
namespace FL
open PySem PySem.Spec L2
section
variable {X:Cx}{pins:List (Addr×Obj)}{σ:St}{H:Hp}{s:Shared}{A:Around}{E:Value->Shared->Prop}{Q:Value->Shared->Prop}{b:Bool}
end
mutual
def D.plain:D->Bool
 |.int _=>true
 |.str _=>true
 |.tup l=>D.vB l
 |.lst l=>D.vB l
 |_=>false
def D.vB:List D->Bool
 |[]=>true
 |a::r=>D.plain a&&D.vB r
end
mutual
def D.sz:D->Nat
 |.tup l=>D.wU l+1
 |.lst l=>D.wU l+1
 |_=>1
def D.wU:List D->Nat
 |[]=>0
 |a::r=>D.sz a+D.wU r
end
end FL
namespace FL
open PySem L2
def fM (pool f:List D):Prop:=∃w xs,f=D.str w::xs/\(w,xs.length)∈dy/\∀x∈xs,x∈pool
structure Ce (pool:List D)(facts:List (List D)):Prop where
 hd:∀f∈facts,fM pool f
 nd:facts.Nodup
 dA:facts.length<=150
def fM.flat(d:dW a)(h:fM a f):iy f/\fD f/\wL f:=by
 obtain ⟨w,c,rfl,j,e⟩:=h
 have g:∀x∈c,x.sc=true:=λx b=>(d.gp x<|e x b).1
 have i:bW (D.str w::c):=λx b=>by
  rcases Lw.mp b with z|z
  .rw [z];rfl
  .exact g x z
 refine ⟨⟨(λz=>nomatch z),i⟩,⟨i,λx b=>?_⟩,⟨w,c,rfl,g⟩⟩
 rcases Lw.mp b with z|z
 .rw [z];exact (jf<|Lu _ j).2.1
 .exact d.nb x<|e x z
def oA (pool:List D):List (List D):=((["road","roam","kin","near"]:List Str).flatMap λw=>pool.flatMap λx=>pool.map λy=>[D.str w,x,y])++(pool.map λx=>[D.str "mark",x])++[[D.str "rain"]]
theorem nv(f:b->List c):∀l:List b,(∀x∈l,(f x).length=n)->(l.flatMap f).length=l.length*n
 |[],_=>by simp
 |a::r,h=>by
  rw [Mv,LC,h a Lj,nv f r λx d=>h x<|Lg _ d,Ma,PQ,Qe]
def xR {a:ZZ}(h:a.length<=10):(oA a).length<=411:=by
 unfold oA
 rw [LC,LC,Ll,nv (n:=a.length*a.length) _ _ λw _=>nv (n:=a.length) _ _ λx _=>by rw [Ll]]
 have:a.length*a.length<=10*10:=P7 h h
 show 4*_+_+1<=411
 omega
def fM.mem(h:fM a f):f∈oA a:=by
 obtain ⟨w,d,rfl,g,c⟩:=h
 have b:w∈(["road","roam","kin","near"]:ZY)->d.length=2->D.str w::d∈oA a:=λi j=>by
  match d,j,c with
  |[x,y],_,c=>exact Lu _<|Lu _<|MQ.mpr ⟨w,i,MQ.mpr ⟨x,c x Z8,LG.mpr ⟨y,c y Z8,rfl⟩⟩⟩
 simp only [dy,Lw,L1,Mo,Prod.mk.injEq] at g
 rcases g with ⟨rfl,e⟩|⟨rfl,e⟩|⟨rfl,e⟩|⟨rfl,e⟩|⟨rfl,e⟩|⟨rfl,e⟩
 .exact b Z8 e
 .exact b Z8 e
 .exact b Z8 e
 .exact b Z8 e
 .match d,e,c with
  |[x],_,c=>exact Lu _<|Lr _<|LG.mpr ⟨x,c x Z8,rfl⟩
 .match d,e with
  |[],_=>exact Lr _ Z8
def Ae {pool:ZZ}{r:bo}{facts:ZW}(hr:cY pool r)(hF:∀f∈facts,fM pool f){w:aF}(hw:w∈eQ r.2 facts):
  ∃V,w.1=au V (aT [] (e9 r.2))/\fR facts V (e9 r.2) w.2/\O5.gT (r.2.filter aK) (au V (aT [] (e9 r.2)))=true/\bh r.1 w=r.1.map (a8 V)/\(∀b∈aT [] (e9 r.2),V b∈pool)/\fM pool (bh r.1 w):=by
 obtain ⟨V,e,hf,hg⟩:=hr.bi.mem hw
 rw [e] at hg
 have hV:∀b∈aT [] (e9 r.2),V b∈pool:=λb hb=>by
  rcases sM hb with z|⟨a,ha,x,hx,hx1,rfl⟩
  .cases z
  .obtain ⟨wd,xs,e1,_,hx2⟩:=hF _ (vZ hf a ha)
   have A:=(hr.at_ a (Ly.mp ha).1).at_
   cases a with
   |nil=>cases hx
   |cons y l=>
    have hy:aH y=false:=A.hd
    rcases Lw.mp hx with z|z
    .rw [z,hy] at hx1;cases hx1
    .rw [Me] at e1
     injection e1 with _ e2
     exact hx2 (V x.name) (by rw [<-e2];exact LG.mpr ⟨x,z,xi hx1⟩)
 have hh:bh r.1 w=r.1.map (a8 V):=by
  unfold bh
  rw [e]
  exact LW λx hx=>lg (iA eB) λq=>jQ (hr.hb x hx q) q
 obtain ⟨wd,xs,e1,h1,h2⟩:=hr.hd
 have hwd:=(jf (Lu _ h1)).2.1
 refine ⟨V,e,hf,hg,hh,hV,wd,xs.map (a8 V),?_,by rw [Ll];exact h1,λx hx=>?_⟩
 .rw [hh,e1,Me]
  congr 1
  unfold a8
  rw [Lq (by rw [hwd];exact Ls)]
 .obtain ⟨y,hy,rfl⟩:=LG.mp hx
  by_cases q:aH y=true
  .rw [xi q]
   exact hV _ (jQ (hr.hb y (by rw [e1];exact Lg _ hy) q) q)
  .unfold a8
   rw [Lq q]
   rcases h2 y hy with z|z
   .exact z
   .exact absurd (by rw [(nQ y z).2.2];exact LH z) q
theorem ui:∀(b:ZW) (B:ZY) (W:ZW),(cF b B W).length=b.length/\∀s∈cF b B W,s.cB∈b/\s.of=[]
 |[],_,_=>⟨rfl,λs c=>nomatch c⟩
 |a::r,B,W=>by
  obtain ⟨e,d⟩:=ui r (ai B a)<|W.filter λg=> !cm g (ai B a)
  refine ⟨by rw [cF,Ma,e,Ma],λs c=>?_⟩
  rw [cF] at c
  rcases Lw.mp c with z|z
  .rw [z];exact ⟨Lj,rfl⟩
  .exact ⟨Lg _ (d s z).1,(d s z).2⟩
def cn (rules:List bo)(facts:List (List D)):List (List D×List aF):=rules.map λr=>(r.1,eQ r.2 facts)
def yP (a:List bo)(b:ZW):fj a (a.map λr=>bL r.2) b=cn a b:=by
 unfold fj cn
 induction a with
 |nil=>rfl
 |cons r l c=>rw [Me,List.zip_cons_cons,Me,c,Me];rfl
section
variable {pool:List D}{rules:List bo}{facts:List (List D)}
def ud (hR:∀r∈rules,cY pool r)(hF:∀f∈facts,fM pool f){T:ZW}{x:cj}(hx:x∈bb 0 (cn rules facts) T):x.1∉T/\fM pool x.1/\∃r w V,rules[x.2.1]?=some r/\w∈eQ r.2 facts/\x.1=bh r.1 w/\x.2.2=w.2/\fR facts V (e9 r.2) x.2.2/\O5.gT (r.2.filter aK) (au V (aT [] (e9 r.2)))=true/\x.1=r.1.map (a8 V)/\∀b∈aT [] (e9 r.2),V b∈pool:=by
 obtain ⟨h1,i,q,hq,hi,w,hw,e1,e2⟩:=pQ _ _ _ _ hx
 unfold cn at hq
 rw [LA] at hq
 obtain ⟨r,hr,rfl⟩:=Mj.mp hq
 have hrk:=hR r (Lp hr)
 obtain ⟨V,v1,v2,v3,v4,v5,v6⟩:=Ae hrk hF hw
 refine ⟨h1,by rw [e1];exact v6,r,w,V,by rw [hi,N0];exact hr,hw,e1,e2,by rw [e2];exact v2,v3,by rw [e1];exact v4,v5⟩
def FT (a:∀r∈rules,cY pool r)(b:∀f∈facts,fM pool f)(c:pool.length<=10)(T:ZW):(aC (bb 0 (cn rules facts) T)).length<=411:=
 LN (jJ (pA _ _ _) λf d=>by
  obtain ⟨x,e,rfl⟩:=LG.mp d
  exact (ud a b e).2.1.mem) (xR c)
def dW.le (h:dW pool):pool.length<=10:=by rcases h.len with z|z<;>omega
def G5 (c:dW pool)(e:∀r∈rules,cY pool r)(b:Ce pool facts):sm rules (rules.map λr=>bL r.2) [] facts:=by
 have h:∀g∈facts,iy g/\fD g:=λg d=>⟨((b.hd g d).flat c).1,((b.hd g d).flat c).2.1⟩
 have w:=b.dA
 refine ⟨h,(λg d=>nomatch d),λl m=>?_,λj r l i k=>?_,by rw [Ll],?_⟩
 .obtain ⟨r,n,rfl⟩:=LG.mp m
  have a:=e r n
  obtain ⟨o,p⟩:=ui (e9 r.2) []<|(r.2.filter aK).filter c6
  have x:=a.bi.rj
  refine ⟨?_,?_,λs f=>?_⟩
  .show (cF _ _ _).length<=100
   exact LN (PL o) Z4
  .show 0+facts.length<2^60
   omega
  .obtain ⟨t,u⟩:=p s f
   rw [u]
   refine ⟨(a.at_ _ (Ly.mp t).1).at_.kP,?_⟩
   show 0+facts.length<1000
   omega
 .rw [LA,i] at k
  cases k
  have a:=e r<|Lp i
  have f:=a.hd.sc c
  have z:=a.dA
  exact ⟨_,_,AH a.bi rfl h Z4 Z4 f.1 Z4 λy v q=>jQ (a.hb y v q) q,xr a.bi rfl Z4⟩
 .rw [yP,LC,xI facts [] (by rw [NM];exact b.nd),NM]
  have:=FT e b.hd c.le facts
  omega
def Ez (f:cY pool r)(l:c∈cG pool (aT [] r.2) [[]])(m:fy facts r.2 c=true):∃w,w∈eQ r.2 facts/\w.2=(e9 r.2).map (λa=>facts.idxOf (cz c a))/\bh r.1 w=cz c r.1:=by
 have i:=f.bi
 obtain ⟨V,rfl,y⟩:=(vg<|qw NA).mp l
 have j:cu (aT [] r.2):=iA eB
 have b:∀a∈r.2,∀x∈a,aH x=true->x.name∈aT [] r.2:=λa d x g e=>ni d g e
 obtain ⟨n,o⟩:=(yg i j b).mp m
 have k:∀a∈e9 r.2,cz (au V<|aT [] r.2) a=a.map (a8 V):=λa d=>by
  have A:=(f.at_ a (Ly.mp d).1).at_
  exact oZ j A.ne A.hd<|b a (Ly.mp d).1
 refine ⟨(au V<|aT []<|e9 r.2,(e9 r.2).map λa=>facts.idxOf<|cz (au V<|aT [] r.2) a),?_,rfl,?_⟩
 .rw [i.kD]
  refine Ly.mpr ⟨(lI i.good).mpr ⟨V,rfl,?_⟩,o⟩
  unfold fR
  rw [Mb]
  refine LW λa d=>?_
  show facts[facts.idxOf<|cz (au V<|aT [] r.2) a]?=some (a.map<|a8 V)
  rw [k a d]
  have p:=n a d
  have h:=Pt.mpr p
  rw [Lk h,Pj h]
 .obtain ⟨w,B,e,s,_⟩:=f.hd
  have t:=(jf<|Lu _ s).2.1
  rw [oZ j (by rw [e];exact λz=>nomatch z) (by rw [e];exact t) λx g q=>by
   obtain ⟨a,u,_,v⟩:=f.hb x g q
   exact ni u v q]
  unfold bh
  exact LW λx g=>lg (iA eB) λq=>jQ (f.hb x g q) q
end
end FL
namespace FL
open PySem L2
def aB (ds:List (List cj)):List (List D):=aC ds.flatten
def iB (a b:List (List cj)):aB (a++b)=aB a++aB b:=by unfold aB;rw [Ny,nH]
def jB (r:List cj):aB [r]=aC r:=by unfold aB;rw [M9,ND,LV]
def oq {a:List (List cj)}{i:Nat}{r:List cj}(h:a[i]?=some r):aB (a.take (i+1))=aB (a.take i)++aC r:=by
 rw [L0,h,iB]
 congr 1
 exact jB r
def CF (a:List (List cj))(i:Nat):∃G,aB a=aB (a.take i)++G:=⟨aB<|a.drop i,by rw [<-iB,OG]⟩
def Gf(h:cY a r)(d:w∈eQ r.2 (A++N))(f:df A.length w=false):w∈eQ r.2 A:=by
 have b:=h.bi
 rw [b.kD] at d⊢
 obtain ⟨i,j⟩:=Ly.mp d
 refine Ly.mpr ⟨?_,j⟩
 obtain ⟨V,e,g⟩:=(lI b.good).mp i
 refine (lI b.good).mpr ⟨V,e,?_⟩
 unfold fR at g⊢
 rw [<-g]
 refine LW λp k=>?_
 have c:p<A.length:=by
  unfold df at f
  have:=Ot.mp f p k
  exact Nat.lt_of_not_le λz=>this<|LH z
 rw [LO c]
def pd (pool:List D):List (List D):=(pool.flatMap λx=>pool.map λy=>[D.str "road",x,y])++(pool.map λx=>[D.str "mark",x])
structure pW (pool f:List D):Prop where
 fin:fM pool f
 p6:pool.length=10->f∈pd pool
def yp(h:(w,n)∈dy)(k:(dy.all λp=>decide (p.1=w->p.2=m))=true):n=m:=LD (MO.mp k _ h) rfl
def Kc{b:ZW}(m:cY a r)(n:qu a r)(o:∀f∈b,fM a f)(p:w∈eQ r.2 b):bh r.1 w∈pd a:=by
 obtain ⟨V,_,_,_,t,_,d,g,e,l,c⟩:=Ae m o p
 have i:∀s:Str,aH (.str s)=false->a8 V (.str s)=.str s:=λs h=>by unfold a8;rw [Lq (by rw [h];exact Ls)]
 have j:d="road"\/d="mark":=by
  rw [t] at e
  rcases n with rfl|⟨x,_,y,_,rfl⟩|⟨x,_,rfl⟩
  .have q:a8 V (.str "mark")=.str d:=(Nr e).1
   rw [i _ Z9] at q
   injection q with q
   exact .inr q.symm
  .have q:a8 V (.str "road")=.str d:=(Nr e).1
   rw [i _ Z9] at q
   injection q with q
   exact .inl q.symm
  .have q:a8 V (.str "mark")=.str d:=(Nr e).1
   rw [i _ Z9] at q
   injection q with q
   exact .inr q.symm
 rw [e]
 unfold pd
 rcases j with rfl|rfl
 .have k:g.length=2:=yp l Z9
  match g,k,c with
  |[x,y],_,c=>exact Lu _<|MQ.mpr ⟨x,c x Z8,LG.mpr ⟨y,c y Z8,rfl⟩⟩
 .have k:g.length=1:=yp l Z9
  match g,k,c with
  |[x],_,c=>exact Lr _<|LG.mpr ⟨x,c x Z8,rfl⟩
def Do {a:ZZ}(h:a.length=10):(pd a).length=110:=by
 unfold pd
 rw [LC,nv (n:=10) _ _ λx _=>by rw [Ll,h],Ll,h]
def CT {a:ZZ}(h:a.length=3):(oA a).length=40:=by
 unfold oA
 rw [LC,LC,nv (n:=9) _ _ λw _=>by rw [nv (n:=3) _ _ λx _=>by rw [Ll,h],h],Ll,h]
 rfl
def ox(e:dW a){F:ZW}(c:F.Nodup)(d:∀f∈F,pW a f):F.length<=110:=by
 rcases e.len with z|z
 .exact LN (jJ c λf b=>(d f b).fin.mem) (by rw [CT z];decide)
 .exact LN (jJ c λf b=>(d f b).p6 z) (by rw [Do z];decide)
structure dH (pool:List D)(rules:List bo)(ds:List (List cj)):Prop where
 step:∀(i:Nat) r,ds[i]?=some r->r=bb 0 (cn rules (aB (ds.take i))) (aB (ds.take i))/\r≠[]
 hd:∀f∈aB ds,pW pool f
 nd:(aB ds).Nodup
section
variable {pool:List D}{rules:List bo}{ds:List (List cj)}
def dH.nil:dH pool rules []:=⟨λi r h=>by simp at h,λf a=>(by cases a),NA⟩
def dH.Ir (a:dW pool)(h:dH pool rules ds):Ce pool (aB ds):=⟨λf b=>(h.hd f b).fin,h.nd,LN (ox a h.nd h.hd) Z1⟩
def yW(a:fI pool rules){F:ZW}(c:∀f∈F,pW pool f)(e:x∈bb 0 (cn rules F) F):x.1∉F/\pW pool x.1:=by
 obtain ⟨g,h,r,w,V,i,j,k,_⟩:=ud a.ok (λf b=>(c f b).fin) e
 have d:=Lp i
 exact ⟨g,h,λz=>by rw [k];exact Kc (a.ok r d) (a.p6 z r d) (λf b=>(c f b).fin) j⟩
def dH.next (d:fI pool rules)(h:dH pool rules ds):(∀f∈aB ds++aC (bb 0 (cn rules (aB ds)) (aB ds)),pW pool f)/\(aB ds++aC (bb 0 (cn rules (aB ds)) (aB ds))).Nodup:=by
 refine ⟨λf g=>?_,?_⟩
 .rcases LI.mp g with z|z
  .exact h.hd f z
  .obtain ⟨x,c,rfl⟩:=LG.mp z
   exact (yW d h.hd c).2
 .refine N3.mpr ⟨h.nd,pA _ _ _,λa i b j e=>?_⟩
  obtain ⟨x,c,rfl⟩:=LG.mp j
  exact (yW d h.hd c).1<|e▸i
def dH.snoc (hR:fI pool rules)(h:dH pool rules ds)(b:bb 0 (cn rules (aB ds)) (aB ds)≠[]):dH pool rules (ds++[bb 0 (cn rules (aB ds)) (aB ds)]):=by
 obtain ⟨c,d⟩:=h.next hR
 refine ⟨λi r a=>?_,by rw [iB,jB];exact c,by rw [iB,jB];exact d⟩
 by_cases z:i<ds.length
 .rw [LO z] at a
  rw [M6<|MK z]
  exact h.step i r a
 .rw [LQ<|L8 z] at a
  obtain ⟨q,e⟩:=Li.mp a
  rw [My] at q
  have f:i=ds.length:=by omega
  subst f
  rw [M6<|Lo _,MR]
  simp only [Qg,List.getElem_cons_zero] at e
  rw [<-e]
  exact ⟨rfl,b⟩
def dH.Dd(h:dH pool rules ds)(a:i<ds.length)(b:r∈rules)(c:w∈eQ r.2 (aB (ds.take i))):bh r.1 w∈aB (ds.take (i+1)):=by
 have e:=Lk a
 obtain ⟨d,_⟩:=h.step i _ e
 rw [oq e,d]
 rcases tT (cn rules<|aB<|ds.take i) 0 (aB<|ds.take i) (r.1,eQ r.2<|aB<|ds.take i) (LG.mpr ⟨r,b,rfl⟩) w c with z|z
 .exact Lu _ z
 .exact Lr _ z
def gq (rules:List bo)(ds:List (List cj)):List bN:=rules.map λr=>eU (bL r.2) ([]::ds.map aC)
def rY (ds:List (List cj)):([]::ds.map aC).flatten=aB ds:=by
 rw [M9,NM]
 unfold aB aC
 rw [List.map_flatten]
def Et (rules:List bo)(ds:List (List cj))(r:List cj):(gq rules ds).map (λa=>bR a (aC r))=gq rules (ds++[r]):=by
 unfold gq
 rw [Mb]
 refine LW λq _=>?_
 show bR _ _=_
 rw [<-pU,LU,OO]
 rfl
def ED (rules:List bo):(rules.map λr=>bL r.2).map (λa=>bR a [])=gq rules []:=by
 unfold gq
 rw [Mb]
 rfl
def HS (rules:List bo)(g:bo->bN)(a:ZW):fj rules (rules.map g) a=rules.map λr=>(r.1,fK (bR (g r) a)):=by
 unfold fj
 induction rules with
 |nil=>rfl
 |cons r l b=>rw [Me,List.zip_cons_cons,Me,b,Me]
def Ag (f:fI pool rules){r:List cj}(h:dH pool rules (ds++[r])):bb 0 (fj rules (gq rules ds) (aC r)) (aB (ds++[r]))=bb 0 (cn rules (aB (ds++[r]))) (aB (ds++[r])):=by
 have e:fj rules (gq rules ds) (aC r)=(cn rules<|aB<|ds++[r]).map λq=>(q.1,q.2.filter λw=>decide ((aB ds).length=0)||df (aB ds).length w):=by
  unfold gq cn
  rw [HS,Mb]
  refine LW λq _=>?_
  show (q.1,_)=(q.1,_)
  congr 1
  rw [<-pU,GA,rY,Ny,rY,M9,ND,LV,iB,jB]
 rw [e]
 refine yc _ _ _ _ λq g w c j=>?_
 obtain ⟨u,d,rfl⟩:=LG.mp g
 have b:=(NV.mp j).2
 rw [iB] at c
 have a:=Gf (f.ok u d) c b
 have:=h.Dd (i:=ds.length) (by rw [LC];exact MW _) d (w:=w) (by rw [M6<|Lo _,MR];exact a)
 rwa [LS (by rw [LC];exact Lo _)] at this
def Fd (rules:List bo):fj rules (rules.map λr=>bL r.2) []=cn rules []:=yP rules []
def C6 (a:ZW)(b:List ZW):(eU (bL a) b).steps=(bR (bL a) b.flatten).steps:=by
 have d:=mR b<|bL a
 have c:=mR [b.flatten]<|bL a
 rw [d.1]
 rw [M9,ND,LV] at c
 exact c.1.symm
theorem B9:∀(F:ZW) (s:bg) (n:Nat),(bX s n F).of.length<=s.of.length+F.length/\(bX s n F).cB=s.cB
 |[],s,n=>by rw [BG];exact ⟨Lo _,rfl⟩
 |g::F,s,n=>by
  rw [qW]
  obtain ⟨b,a⟩:=B9 F (cD s n g)<|n+1
  have h:(cD s n g).of.length<=s.of.length+1/\(cD s n g).cB=s.cB:=by
   unfold cD
   repeat' split
   all_goals first
    |exact ⟨Qi _,rfl⟩
    |(refine ⟨?_,rfl⟩;simp)
  rw [a,h.2,Ma]
  exact ⟨by omega,rfl⟩
end
end FL
namespace L2
open PySem PySem.Spec PyProof.Rows
section
variable {X:Cx}
variable {e:Expr}{te:TE}{p pos:Pos}
end
end L2
namespace FL
open PySem L2
end FL
namespace FL
open PySem L2
section
variable {B:Hp}{M0:List Addr}{δ:List Sl}{E:Ends}{te ty:TE}{d:D}{G:Hp}{σ:St}{j:Nat}
def t6 (h:∀G σ,bP G σ δ->ae te G σ d)(k:aW B M0 δ E.nx):aW B M0 δ (j6 te E):=λa σ H b=>
 h _ σ b.wide M0 H (ab.refl _) b.live _ λv c e f=>k a σ c<|b.grow e
end
def Ht (B:ZY)(n:Str):(bm (dY B) (Sum.inr n)).isSome=decide (n∈B):=by
 unfold bm
 rw [Ox]
 induction B with
 |nil=>rfl
 |cons b r a=>
  unfold dY at a⊢
  rw [Me,Mx]
  by_cases e:b=n
  .subst e;simp
  .have c:¬n=b:=λz=>e z.symm
   have:decide (((Sum.inr b:aJ),V.bl true).1=(Sum.inr n:aJ))=false:=by simp [e]
   rw [this]
   dsimp only
   rw [a]
   simp [c]
def Fs{H:Hp}{i:Nat}(e:a[i]?=some (some (.ref p)))(g:H p=some (.dK (dY B)))(l:ap M H)(h:ae c (but H M) a (.str n)):TV (tB (nz c (aY i))) a H (!decide (n∈B)):=
 λj b Q k=>h M j (b.but M) (l.same b) _ λy m f o=>⟨.ref p,e,p,bm (dY B)<|Sum.inr n,rfl,by rw [(fC (d:=.str n) rfl o).2];exact cT.k<|f _ _<|b _ _ g,_,rfl,by rw [Ht];exact k m f⟩
def io (B:List Str)(n:Str):List Str:=if n∈B then B else B++[n]
def Iq:m∈io B n↔m∈B\/m=n:=by
 unfold io
 split
 .constructor
  .exact .inl
  .rintro (h|h)
   .exact h
   .subst h;assumption
 .simp
theorem t9:∀{l B:ZY} {m:Str},m∈l.foldl io B↔m∈B\/m∈l
 |[],B,m=>by simp
 |n::r,B,m=>by
  rw [List.foldl_cons,t9,Iq,Lw]
  constructor
  .rintro ((h|h)|h)
   .exact .inl h
   .exact .inr (.inl h)
   .exact .inr (.inr h)
  .rintro (h|h|h)
   .exact .inl (.inl h)
   .exact .inl (.inr h)
   .exact .inr h
def HY (B:ZY)(n:Str):(io B n).length<=B.length+1:=by unfold io;split<;>simp
theorem uk:∀(l B:ZY),(l.foldl io B).length<=B.length+l.length
 |[],B=>by simp
 |n::r,B=>by
  have:=uk r<|io B n
  have:=HY B n
  rw [List.foldl_cons,Ma]
  omega
def qf (as:List (List D)):List Str:=(as.filter λa=> !aK a).foldl (λB a=>(ai [] a).foldl io B) []
def tK (v:V):TE:=λ_ H Q=>Q v H
def DW{i:Nat}(h:ax G a b)(e:a[i]?=some (some v))(r:al G v d):ax G a (b.set i (some d)):=by
 refine ⟨by rw [MU];exact h.len,λj c q=>?_⟩
 by_cases z:i=j
 .subst z
  have f:i<b.length:=by
   have:=(Li.mp q).1
   rwa [MU] at this
  rw [Lx f] at q
  cases q
  exact ⟨v,e,r⟩
 .rw [Lm z] at q
  exact h.get j c q
theorem xW:∀(l:ZW) (B:ZY),(n∈B\/∃b∈l,n∈ai [] b)->n∈l.foldl (λB a=>(ai [] a).foldl io B) B
 |[],B,h=>by rcases h with z|⟨b,c,_⟩;exact z;cases c
 |a::l,B,h=>xW l _ (by
  rcases h with z|⟨b,c,d⟩
  .exact .inl (t9.mpr (.inl z))
  .rcases Lw.mp c with rfl|w
   .exact .inl (t9.mpr (.inr d))
   .exact .inr ⟨b,w,d⟩)
def Bound (xs as:List (List D)):Prop:=∀a∈xs,∀n∈ai [] a,∃b∈as,aK b=false/\n∈ai [] b
def wn:List D->D->Prop:=λds d=>∃xs as,ds=[ci xs,cq as]/\(∀a∈xs,dz a)/\xs.length<=100/\(∀a∈as,dz a)/\as.length<=3/\Bound xs as/\d=.aq
def yM:List D->D->Prop:=λds d=>∃as,ds=[cq as]/\(∀a∈as,dz a)/\as.length<=3/\(∀g∈as,aK g=true->g.length=3)/\Bound (as.filter aK) as/\d=.aq
structure xx (r:bo):Prop where
 ok:∀a∈r.2,dz a
 dA:r.2.length<=3
 g3:∀g∈r.2,aK g=true->g.length=3
 gb:Bound (r.2.filter aK) r.2
 hd:dz r.1
 hg:aK r.1=false
 hb:Bound [r.1] r.2
def Bq:List D->D->Prop:=λds d=>∃r,ds=[aV r]/\xx r/\d=.aq
def uO:List D->D->Prop:=λds d=>∃rs:List cj,ds=[.lst (rs.map eX)]/\rs.length<=1000/\d=ci (aC rs)
def cY.sound(o:dW c)(h:cY c r):xx r:=by
 have k:∀{a:ZZ},(∀y∈a,aH y=true->∃b∈r.2,aK b=false/\y∈b)->∀n∈ai [] a,∃b∈r.2,aK b=false/\n∈ai [] b:=λ{a} f n p=>by
  rcases sM (B:=[]) (as:=[a]) p with z|⟨t,d,x,i,l,rfl⟩
  .cases z
  .rw [LK.mp d] at i
   obtain ⟨b,b1,b2,b3⟩:=f _ i l
   exact ⟨b,b1,b2,md b3 l⟩
 have q:iP r.1:=by
  obtain ⟨w,m,e,d,i⟩:=h.hd
  exact ⟨w,m,e,Lu _ d,λx s=>by rcases i x s with z|z;exact o.gp x z;exact nQ x z⟩
 refine ⟨λa f=>(h.at_ a f).at_.kP,h.dA,λg j e=>?_,λg j=>k<|h.gb g (Ly.mp j).1 (Ly.mp j).2,?_,?_,λa f=>by rw [LK.mp f];exact k h.hb⟩
 .obtain ⟨w,x,y,rfl⟩:=(h.at_ g j).gd e
  rfl
 .exact q.at_.kP
 .obtain ⟨w,m,e,d,i⟩:=h.hd
  rw [e]
  exact (jf<|Lu _ d).2.2.2.1.trans<|LR λz=>z d
end FL
namespace FL
open PySem L2
def cY.FK(h:cY b r):oR r.2/\rM r.2:=⟨⟨λa c=>(h.at_ a c).at_.kP,by have:=h.dA;omega⟩,λg d e=>(h.at_ g d).gd e⟩
end FL
namespace FL
open PySem L2
def jL (rds:List (List cj)):List D:=rds.map λr=>.lst (r.map eX)
def rD (ds:List D):Prop:=∃pool rules,ds=[.lst (rules.map aV)]/\dW pool/\fI pool rules/\rules.length<=100
structure d8 (pool:List D)(rules:List bo)(rds:List (List cj)):Prop where
 pk:dW pool
 rk:fI pool rules
 run:dH pool rules rds
 fin:bb 0 (cn rules (aB rds)) (aB rds)=[]
def Bp (ds:List D)(d:D):Prop:=∃pool rules rds,ds=[.lst (rules.map aV)]/\d=.lst (jL rds)/\d8 pool rules rds
section
variable {pool:List D}{rules:List bo}{ds:List (List cj)}
def wM (h:dH pool rules ds):ds.length<=(aB ds).length:=by
 have:∀{l:List (List cj)},(∀r∈l,r≠[])->l.length<=(aB l).length:=λ{l}=>by
  induction l with
  |nil=>exact λ_=>Lo _
  |cons r l b=>
   intro a
   have f:=b λx c=>a x<|Lg _ c
   have g:=List.length_pos_iff.mpr<|a r Lj
   rw [show r::l=[r]++l from rfl,iB,jB,LC,LC,My]
   unfold aC
   rw [Ll]
   omega
 exact this λr d=>by
  obtain ⟨i,e⟩:=Mf.mp d
  exact (h.step i r e).2
def F7 (a:dW pool)(b:fI pool rules):sm rules (rules.map λr=>bL r.2) [] []:=G5 a b.ok ⟨λf c=>(by cases c),NA,LP _⟩
def vq (d:dW pool)(hR:fI pool rules){r:List cj}(h:dH pool rules (ds++[r])):sm rules (gq rules ds) (aB (ds++[r])) (aC r):=by
 have i:=h.Ir d
 have k:∀g∈aB (ds++[r]),iy g/\fD g:=λg a=>⟨((i.hd g a).flat d).1,((i.hd g a).flat d).2.1⟩
 have b:∀g∈aC r,g∈aB (ds++[r]):=λg a=>by rw [iB,jB];exact Lr _ a
 have o:(aB ds).length+(aC r).length<=110:=by
  have:=ox d h.nd h.hd
  rw [iB,jB,LC] at this
  exact this
 have e:∀q:bo,(bR (eU (bL q.2) ([]::ds.map aC))<|aC r).steps=(bR (bL q.2)<|aB<|ds++[r]).steps:=λq=>by
  rw [<-pU,C6,Ny,rY,M9,ND,LV,iB,jB]
 refine ⟨λg a=>k g<|b g a,λg a=>(k g a).2,λv w=>?_,λj q v p l=>?_,by unfold gq;rw [Ll],?_⟩
 .obtain ⟨q,x,rfl⟩:=LG.mp w
  have c:=hR.ok q x
  obtain ⟨m,_,t⟩:=mR ([]::ds.map aC)<|bL q.2
  obtain ⟨z,A⟩:=ui (e9 q.2) []<|(q.2.filter aK).filter c6
  have L:=c.bi.rj
  rw [rY] at m t
  refine ⟨?_,?_,λs f=>?_⟩
  .rw [m,Ll]
   show (cF _ _ _).length<=100
   exact LN (PL z) Z4
  .rw [t]
   show 0+(aB ds).length+_<2^60
   omega
  .rw [m] at f
   obtain ⟨u,n,rfl⟩:=LG.mp f
   obtain ⟨B,C⟩:=A u n
   obtain ⟨E,G⟩:=B9 (aB ds) u (bL q.2).taken
   rw [C] at E
   rw [G]
   refine ⟨(c.at_ _ (Ly.mp B).1).at_.kP,?_⟩
   have:([]:List dg).length=0:=rfl
   omega
 .unfold gq at l
  rw [LA,p] at l
  cases l
  have c:=hR.ok q<|Lp p
  have f:=c.hd.sc d
  have M:=c.dA
  have N:=i.dA
  exact ⟨_,_,AH c.bi (e q) k Z4 Z4 f.1 Z4 λy H q=>jQ (c.hb y H q) q,xr c.bi (e q) Z4⟩
 .rw [vO _ _ b,Ag hR h]
  obtain ⟨I,J⟩:=h.next hR
  exact LN (ox d J I) Z1
end
end FL
namespace FL
open PySem L2
section
variable {pool:List D}{rules:List bo}{rds:List (List cj)}
def d8.closed(h:d8 a rules rds)(b:r∈rules)(d:cY pool r)(e:c∈cG pool (aT [] r.2) [[]])(f:fy (aB rds) r.2 c=true):cz c r.1∈aB rds:=by
 obtain ⟨w,g,_,i⟩:=Ez d e f
 rw [<-i]
 rcases tT (cn rules<|aB rds) 0 (aB rds) (r.1,eQ r.2<|aB rds) (LG.mpr ⟨r,b,rfl⟩) w g with z|z
 .exact z
 .rw [h.fin] at z;cases z
end
end FL
namespace L2
open PySem
section
variable {X:Cx}{e e':Expr}{te te':TE}{p pos:Pos}
end
end L2
namespace FL
open PySem L2
def xS (ds:List D)(d:D):Prop:=∃pool rules rds,ds=[.lst (rules.map aV)]/\d=.lst (rds.map λr=>ci (aC r))/\d8 pool rules rds
def bP.C4{j:Nat}(e:bP G d f)(g:f[j]?=some (.t c)):ae (cI pS (bn (aY j) bB)) G d (.int c.length):=λM H s l Q k=>by
 obtain ⟨a,b,h,i,m⟩:=(e.mono s).get j _ g
 refine ⟨.ref a,h,.inr ⟨a,b,rfl,Rd.of (aw i).2,?_⟩⟩
 rw [show b.length=c.length from m.length]
 exact k _ H (ab.refl _) (.int _)
def bP.Km{j:Nat}(e:bP G a b)(d:b[j]?=some (.td c)):ae (cI pS (bn (aY j) bB)) G a (.int c.length):=(e.nM d).1.C4 (e.nM d).2
section
variable {pool:List D}{rules:List bo}{rds:List (List cj)}
theorem dH.any(b:fI pool rules)(h:dH a rules rds):∀n,dH pool rules (rds.take n)
 |0=>dH.nil
 |n+1=>by
  have c:=dH.any b h n
  cases e:rds[n]? with
  |none=>rw [L0,e];show dH _ _<|_++[];rw [LV];exact c
  |some r=>
   obtain ⟨d,f⟩:=h.step n r e
   rw [L0,e]
   show dH _ _<|_++[r]
   rw [d]
   exact c.snoc b (by rw [<-d];exact f)
theorem d8.any(c:dW pool)(b:fI pool rules)(h:d8 a rules rds):d8 pool rules rds:=⟨c,b,by have:=h.run.any b rds.length;rwa [MR] at this,h.fin⟩
end
end FL
namespace FL
open PySem L2
def DX{T c:ZW}(h:∀f∈T,f∈c)(b:dF T a=true):dF c a=true:=by
 unfold dF at b⊢
 split
 .next e=>rw [Lv e] at b;exact b
 .next e=>
  rw [Lq e] at b
  split
  .next e2=>rw [Lv e2] at b;exact b
  .next e2=>
   rw [Lq e2] at b
   exact LH<|h _<|LD b
def zK{T d:ZW}(h:∀f∈T,f∈d)(e:fy T b c=true):fy d b c=true:=by
 unfold fy at e⊢
 exact MO.mpr λa g=>DX h<|MO.mp e a g
def J9{F c:ZW}(j:cY b r)(h:∀f∈F,f∈c)(i:w∈eQ r.2 F):∃k∈eQ r.2 c,bh r.1 k=bh r.1 w:=by
 have g:=j.bi
 rw [g.kD] at i
 obtain ⟨l,m⟩:=Ly.mp i
 obtain ⟨V,e,n⟩:=(lI g.good).mp l
 refine ⟨(w.1,(e9 r.2).map λa=>c.idxOf<|a.map<|a8 V),?_,rfl⟩
 rw [g.kD]
 refine Ly.mpr ⟨(lI g.good).mpr ⟨V,e,?_⟩,m⟩
 unfold fR
 rw [Mb]
 refine LW λa o=>?_
 have p:=h _<|vZ n a o
 have d:=Pt.mpr p
 show c[c.idxOf<|a.map<|a8 V]?=some (a.map<|a8 V)
 rw [Lk d,Pj d]
section
variable {pool:List D}{A B:List bo}{ra rb:List (List cj)}
def CA:f∈aC (bb 0 (cn a F) F)↔f∉F/\∃r∈a,∃w∈eQ r.2 F,bh r.1 w=f:=by
 constructor
 .intro h
  obtain ⟨x,g,rfl⟩:=LG.mp h
  obtain ⟨b,i,q,j,_,w,c,e,_⟩:=pQ _ _ _ _ g
  obtain ⟨r,d,rfl⟩:=LG.mp<|Lp j
  exact ⟨b,r,d,w,c,e.symm⟩
 .rintro ⟨b,r,d,w,c,rfl⟩
  rcases tT (cn a F) 0 F (r.1,eQ r.2 F) (LG.mpr ⟨r,d,rfl⟩) w c with z|z
  .exact absurd z b
  .exact z
def wV(i:∀r∈A,cY pool r)(a:∀r∈A,r∈B){F b:ZW}(h:∀f,f∈F↔f∈b)(j:f∈aC (bb 0 (cn A F) F)):f∈aC (bb 0 (cn B b) b):=by
 obtain ⟨k,r,d,w,l,e⟩:=CA.mp j
 obtain ⟨m,c,n⟩:=J9 (i r d) (λg o=>(h g).mp o) l
 exact CA.mpr ⟨λz=>k<|(h f).mpr z,r,a r d,m,c,n.trans e⟩
def Eo(h:∀f,f∉aC l):l=[]:=by
 cases l with
 |nil=>rfl
 |cons x l=>exact absurd (LG.mpr ⟨x,Lj,rfl⟩)<|h x.1
theorem A2 (c:d8 pool A ra)(d:d8 pool B rb)(a:∀r,r∈A↔r∈B):∀k,∀f,f∈aB (ra.take k)↔f∈aB (rb.take k)
 |0,f=>Iff.rfl
 |k+1,f=>by
  have g:=A2 c d a k
  have i:∀{A B:List bo} {ra rb:List (List cj)},d8 pool A ra->d8 pool B rb->(∀r∈A,r∈B)->(∀f,f∈aB (ra.take k)↔f∈aB (rb.take k))->f∈aB (ra.take<|k+1)->f∈aB (rb.take<|k+1):=λ{A B ra rb} c d a g b=>by
   have j:f∈aB (rb.take k)->f∈aB (rb.take<|k+1):=λz=>by
    cases e:rb[k]? with
    |none=>rw [L0,e];show f∈aB (_++[]);rw [LV];exact z
    |some r=>rw [oq e];exact Lu _ z
   cases e:ra[k]? with
   |none=>
    rw [L0,e] at b
    have b:f∈aB (ra.take k++[]):=b
    rw [LV] at b
    exact j<|(g f).mp b
   |some r=>
    rw [oq e] at b
    rcases LI.mp b with z|z
    .exact j<|(g f).mp z
    .rw [(c.run.step k r e).1] at z
     have l:=wV c.rk.ok a g z
     cases m:rb[k]? with
     |none=>
      have n:rb.length<=k:=MF.mp m
      have:=d.fin
      rw [LS n,this] at l
      cases l
     |some o=>rw [oq m,(d.run.step k o m).1];exact Lr _ l
  exact ⟨i c d (λr h=>(a r).mp h) g,i d c (λr h=>(a r).mpr h) λf=>(g f).symm⟩
def xO(m:d8 pool A ra)(l:d8 pool B rb)(d:∀r,r∈A↔r∈B){k:Nat}(h:ra[k]?=some r):∃g,rb[k]?=some g/\(∀f,f∈aC r↔f∈aC g)/\r.length=g.length:=by
 have p:=A2 m l d k
 have o:=m.run.step k r h
 have i:∀f,f∈aC r↔f∈aC (bb 0 (cn B<|aB<|rb.take k)<|aB<|rb.take k):=λf=>by
  rw [o.1]
  exact ⟨wV m.rk.ok (λr h=>(d r).mp h) p,wV l.rk.ok (λr h=>(d r).mpr h) λf=>(p f).symm⟩
 have c:∀{a b:List cj},(aC a).Nodup->(∀f∈aC a,f∈aC b)->a.length<=b.length:=λ{a b} n s=>by
  have:=jJ n s
  unfold aC at this
  rwa [Ll,Ll] at this
 cases e:rb[k]? with
 |none=>
  have t:rb.length<=k:=MF.mp e
  refine absurd (Eo λf j=>?_) o.2
  have:=(i f).mp j
  rw [LS t,l.fin] at this
  cases this
 |some g=>
  have q:=(l.run.step k g e).1
  rw [<-q] at i
  refine ⟨g,rfl,i,Nat.le_antisymm (c ?_ λf j=>(i f).mp j)<|c ?_ λf j=>(i f).mpr j⟩
  .rw [o.1];exact pA _ _ _
  .rw [q];exact pA _ _ _
def By (b:d8 pool A ra)(c:d8 pool B rb)(a:∀r,r∈A↔r∈B):ra.length<=rb.length:=L8 λz=>by
 obtain ⟨d,h,_⟩:=xO b c a<|Lk z
 have:=(Li.mp h).1
 omega
def d8.why(h:d8 pool A ra){i:Nat}(C:ra[i]?=some r)(s:f∈aC r):∃q∈A,∃c∈cG pool (aT [] q.2) [[]],fy (aB (ra.take i)) q.2 c=true/\cz c q.1=f:=by
 have u:=h.rk
 obtain ⟨G,E⟩:=CF ra i
 have H:∀f∈aB (ra.take i),fM pool f:=λf s=>(h.run.hd f (by rw [E];exact Lu _ s)).fin
 obtain ⟨x,o,rfl⟩:=LG.mp s
 rw [(h.run.step i r C).1] at o
 obtain ⟨g1,g2,k,w,V,I,g4,g5,g6,J,L,M,t⟩:=ud u.ok H o
 have m:=Lp I
 have d:=u.ok k m
 have N:=d.bi
 have v:cu (aT [] k.2):=iA eB
 have n:∀a∈k.2,∀x∈a,aH x=true->x.name∈aT [] k.2:=λa l x o e=>ni l o e
 refine ⟨k,m,au V<|aT [] k.2,(vg<|qw NA).mpr ⟨V,rfl,λb O=>?_⟩,(yg N v n).mpr ⟨λa l=>vZ J a l,L⟩,?_⟩
 .refine t b ?_
  rcases sM O with z|⟨a,l,y,p,j,rfl⟩
  .cases z
  .by_cases g:aK a=true
   .exact jQ (d.gb a l g y p j) j
   .exact jQ ⟨a,l,by simpa using g,p⟩ j
 .obtain ⟨wd,xs,e,Q,_⟩:=d.hd
  have T:=(jf<|Lu _ Q).2.1
  rw [oZ v (by rw [e];exact λz=>nomatch z) (by rw [e];exact T) λy p q=>by
   obtain ⟨a,U,_,Y⟩:=d.hb y p q
   exact ni U Y q]
  exact M.symm
theorem d8.least(h:d8 pool A ra)(g:∀q∈A,∀c∈cG pool (aT [] q.2) [[]],fy L q.2 c=true->cz c q.1∈L):∀k,∀f∈aB (ra.take k),f∈L
 |0,f,a=>by cases a
 |k+1,f,a=>by
  have b:=d8.least h g k
  cases e:ra[k]? with
  |none=>
   rw [L0,e] at a
   have a:f∈aB (ra.take k++[]):=a
   rw [LV] at a
   exact b f a
  |some r=>
   rw [oq e] at a
   rcases LI.mp a with z|z
   .exact b f z
   .obtain ⟨q,i,c,d,j,rfl⟩:=h.why e z
    exact g q i c d<|zK b j
end
end FL
namespace FL
open PySem L2
section
variable {G:Hp}{σ:St}{ta tb tl te:TE}{tt:TT}{t:TA}{d:D}{ds:List D}{K:PySem.W.Frag}{wi:TI}
def Dp{E:Ends}{caps:St->St}{p:D->Bool}{f:D->D}(l:ap M H)(hE:ax (but H M) σ δ)(hn:n<δ.length)(hw:Walk wi (but H M) σ ds)
  (ht:∀B v d,ab (but H M) B->d∈ds->al B v d->bJ tt B ((caps σ).set i (some v)) (p d))
  (he:∀B v d,ab (but H M) B->d∈ds->p d=true->al B v d->ae te B ((caps σ).set i (some v)) (f d)) (hz:ds.length<sizeLine)
  (k:∀q vs u h,(∀j:Nat,j≠n->u[j]?=σ[j]?)->u[n]?=some (some (.ref q))->q∉M->h q=some (.lst vs)->az (but h (q::M)) vs ((ds.filter p).map f)->ap (q::M) h->(∀b o,H b=some o->b≠q/\h b=some o)->ax (but h (q::M)) u (δ.set n none)->E.nx u h):
  dZ (gH wi caps (cf i) tt te) (cf n) E σ H:=hw M H (ab.refl _) l _ λJ Y L ac C D N=>by
 have lf:D∉M:=(l.same L).fresh N
 have af:ab (but H M) (but Y M):=L.but M
 refine ⟨λj m τ h=>m=ds.length-j/\j<=ds.length/\(∀v,τ.set i (some v)=(caps σ).set i (some v))/\ab Y h/\∃s,h D=some (.lst s)/\az (but h (D::M)) s (((ds.take j).filter p).map f),
  ⟨ds.length,by simp,LP _,λ_=>rfl,c8 N _,[],aN,by simpa using az.nil⟩,?_⟩
 rintro j m τ h ⟨rfl,hj,aj,O,s,w,Q⟩
 have hs:ab (but Y M) (but h (D::M)):=gX N O
 have hl:ap (D::M) h:=((l.same L).same O).cons w
 by_cases I:j<ds.length
 .have hd:ds[j]?=some ds[j]:=Lk I
  obtain ⟨go,gy⟩:=ac j _ (D::M) h hd hs hl
  refine .inr ⟨go,λT g=>(∀v,T.set i (some v)=(caps σ).set i (some v))/\ab Y g/\∃s,g D=some (.lst s)/\az (but g (D::M)) s (((ds.take<|j+1).filter p).map f),
   λT g q0=>by obtain ⟨a,b,c⟩:=q0;exact ⟨ds.length-(j+1),by omega,rfl,I,a,b,c⟩,λx g hy=>?_⟩
  obtain ⟨z,rx⟩:=gy x g hy
  have hm:ds[j]∈ds:=NE I
  have sG:ab (but H M) (but g (D::M)):=af.trans<|hs.trans<|z.but _
  have U:=hl.same z
  show tt (τ.set i<|some x) g _
  rw [aj x]
  have tk:(ds.take<|j+1).filter p=(ds.take j).filter p++(if p ds[j]=true then [ds[j]] else []):=by
   rw [L0,hd,MD]
   congr 1
   by_cases A:p ds[j]=true
   .simp [A]
   .simp [A]
  refine ht _ x _ sG hm rx (D::M) g (ab.refl _) U _ λH4 y=>?_
  have r:∀v,((caps σ).set i<|some x).set i (some v)=(caps σ).set i (some v):=λv=>by rw [P8]
  by_cases A:p ds[j]=true
  .rw [Lv A]
   refine he _ x _ (sG.trans<|y.but _) hm A (rx.mono<|y.but _) (D::M) H4 (ab.refl _) (U.same y) _ λv H5 s5 r5=>?_
   have am:H5 D=some (.lst s):=s5 _ _<|y _ _<|z _ _ w
   have an:=Q.length
   have ao:(((ds.take j).filter p).map f).length<=j:=by
    rw [Ll]
    have:=LZ p<|ds.take j
    rw [L9] at this
    omega
   refine ⟨s,am,by omega,r,?_,s++[v],aN,?_⟩
   .intro b o e
    rw [aA<|cU e N]
    exact s5 _ _<|y _ _<|z _ _<|O _ _ e
   .rw [dw Lj,tk,Lv A,LU]
    exact (Q.mono<|((z.trans y).trans s5).but _).snoc r5
  .rw [Lq A]
   refine ⟨r,O.trans<|z.trans y,s,y _ _<|z _ _ w,?_⟩
   rw [tk,Lq A,LV]
   exact Q.mono<|(z.trans y).but _
 .have e:j=ds.length:=by omega
  subst e
  rw [LS<|Lo _] at Q
  have as:=hE.len
  refine .inl ⟨C (D::M) h hs,k D s _ h (λj hj=>Lm<|Ml hj) (Lx Z4) lf w Q hl (λb o eb=>?_) ?_⟩
  .have e1:=L _ _ eb
   exact ⟨cU e1 N,O _ _ e1⟩
  .have h2:ax (but h (D::M)) σ δ:=⟨hE.len,λj d q=>let ⟨v,a,b⟩:=(hE.same L).get j d q;⟨v,a,b.mono hs⟩⟩
   exact h2.off n _
end
end FL
namespace FL
open PySem L2
section
variable {B:Hp}{M0:List Addr}{δ:List Sl}{E:Ends}{wi:TI}{tt:TT}{te:TE}{t:TA}{ds:List D}
def DY{idx:List Nat}(p:D->Bool)(f:D->D)(x:D.gw ((ds.filter p).map f)=true)(M:n<δ.length)(h:∀G w,bP G w δ->Walk wi G w ds)
  (O:∀m g d,d∈ds->bP m g ((idx.map (λj=>δ.getD j Sl.no)++List.replicate k Sl.no).set i (.d d))->bJ tt m g (p d))
  (Q:∀m g d,d∈ds->p d=true->bP m g ((idx.map (λj=>δ.getD j Sl.no)++List.replicate k Sl.no).set i (.d d))->ae te m g (f d)) (T:ds.length<sizeLine)
  (U:aW B M0 (δ.set n (.l ((ds.filter p).map f))) E.nx):aW B M0 δ (dZ (gH wi (a5 idx k) (cf i) tt te) (cf n) E):=λy w H b=>by
 have e:=b.wide
 refine Dp (δ:=δ.map λ_=>none) b.live ⟨by rw [Ll];exact b.len,λj d q=>by rw [LA] at q;cases e:δ[j]?<;>rw [e] at q<;>cases q⟩ (by rw [Ll];exact M) (h _ w e) (λm v d s A r=>O m _ d A<|e.caps s idx k i r) (λm v d s A Y r=>Q m _ d A Y<|e.caps s idx k i r) T λq C g o o1 o2 hq h1 h2 l2 I E2=>?_
 have J:g=w.set n (some (.ref q)):=by
  refine M8 λj=>?_
  by_cases z:n=j
  .subst z
   rw [o2,Lx (by rw [b.len];exact M)]
  .rw [o1 j<|Ml z,Lm z]
 have ac:H q=none:=by
  cases c:H q with
  |none=>rfl
  |some u=>exact absurd rfl (I q u c).1
 have eH:o=upd (but o [q]) q (.lst C):=by
  funext a
  by_cases z:a=q
  .rw [z,aN];exact h1
  .rw [aA z,bf (by simpa using z)]
 have N:Bx B M0 y w (but o [q]) δ:=b.grow λa u c=>by
  rw [bf (by simpa using (I a u c).1)]
  exact (I a u c).2
 have L:but o [q] q=none:=by unfold FL.but;rw [Lv Z8]
 rw [J,eH]
 refine U _ _ _<|N.new n L rfl ⟨q,C,rfl,Lj,aN,?_⟩
 have hr:az (but (but o [q]) M0) C ((ds.filter p).map f):=by
  have:but (but o [q]) M0=but o (q::M0):=by
   funext a
   unfold FL.but
   by_cases z1:a=q<;>by_cases z2:a∈M0<;>simp [z1,z2]
  rw [this];exact h2
 exact az.narrow N.kd x hr
def sk (pre:List D->Prop)(post:List D->List (List D×D)->Prop):Sp:=λvs H Q _=>∃M ds,ap M H/\az (but H M) vs ds/\pre ds/\∀ps a kvs H',post ds ps->ab H H'->but H' M a=some (.dT kvs)->dv (but H' M) kvs ps->Q (.ref a) H'
def Jd{a:ZZ->Prop}(d:∀ds,a ds->ds.length=n):∀c H Q E,sk a b c H Q E->c.length=n:=λc H Q E e=>by obtain ⟨M,ds,_,r,p,_⟩:=e;rw [r.length];exact d ds p
def Dt{d:ZZ->Prop}{c:ZZ->List (ZZ×D)->Prop}(h:∀G g,ax G g (δ.map Sl.dat)->dO t G g ds)(n:d ds)(k:∀e,c ds e->aW B M0 (δ.set i (.td e)) E.nx):aW B M0 δ (dZ (ii (sk d c) [] m t) (cf i) E):=λf g H b=>
 h _ g b.iV _ H (ab.refl _) b.hX _ λw x l o=>⟨f++M0,ds,b.hX.same l,by rw [LV];exact o,n,λe a j p q r u v=>k e q f _ p<|(b.grow<|l.trans r).zw i (s:=.td e) rfl ⟨a,j,rfl,u,v⟩⟩
def FJ{j:Nat}(f:δ[j]?=some (.t e))(k:∀a c d,ab B d->but d M0 a=some (.dT c)->dv (but d M0) c e->E.rt (.ref a) d):aW B M0 δ (m8 (aY j) E):=λg n H b=>by
 obtain ⟨a,c,h,i,l,m⟩:=b.slot j _ f
 exact ⟨.ref a,h,k a c H b.same (by rw [bf<|b.out i];exact l)<|m.mono b.seen⟩
end
theorem AW(g:b->Bool):∀l:List b,D.gw (l.map λa=>D.bl (g a))=true
 |[]=>rfl
 |a::l=>by rw [Me,D.gw,AW g l];rfl
def v9:List D->D->Prop:=λds d=>∃fs:List (List (List D)),ds=[.lst (fs.map ci)]/\(∀l∈fs,l≠[]/\∀f∈l,wL f)/\d=.bl true
def D6(h:cY b r)(k:c∈cG b (aT [] r.2) [[]]):fM b (cz c r.1):=by
 obtain ⟨V,rfl,l⟩:=(vg<|qw NA).mp k
 obtain ⟨m,n,e,i,o⟩:=h.hd
 have j:=(jf<|Lu _ i).2.1
 have d:∀y∈r.1,aH y=true->y.name∈aT [] r.2:=λy f q=>by
  obtain ⟨a,p,_,s⟩:=h.hb y f q
  exact ni p s q
 rw [oZ (iA eB) (by rw [e];exact λz=>nomatch z) (by rw [e];exact j) d,e,Me]
 refine ⟨m,n.map<|a8 V,?_,by rw [Ll];exact i,λx t=>?_⟩
 .congr 1
  unfold a8
  rw [Lq (by rw [j];exact Ls)]
 .obtain ⟨y,f,rfl⟩:=LG.mp t
  have g:y∈r.1:=by rw [e];exact Lg _ f
  by_cases q:aH y=true
  .rw [xi q]
   exact l _<|d y g q
  .unfold a8
   rw [Lq q]
   rcases o y f with z|z
   .exact z
   .exact absurd (by rw [(nQ y z).2.2];exact LH z) q
def xj (pool:List D)(rules:List bo)(T:List (List D)):Prop:=∀q∈rules,∀c∈cG pool (aT [] q.2) [[]],fy T q.2 c=true->cz c q.1∈T
def AX (ds:List D):Prop:=∃(pool:List D) (rules:List bo),ds=[.lst (rules.map aV),.lst pool]/\dW pool/\∀r∈rules,cY pool r
structure kh (pool:List D)(rules:List bo)(L:List (List D)):Prop where
 nd:L.Nodup
 fin:∀f∈L,fM pool f
 low:∀T,xj pool rules T->∀f∈L,f∈T
def An (ds:List D)(ps:List (List D×D)):Prop:=∃(pool:List D) (rules:List bo),ds=[.lst (rules.map aV),.lst pool]/\kh pool rules (ps.map (·.1))/\xj pool rules (ps.map (·.1))
def kh.dA(c:dW a)(h:kh a b L):L.length<=411:=LN (jJ h.nd λf d=>(h.fin f d).mem)<|xR c.le
def kh.snoc(h:kh g d L)(l:r∈d)(m:cY g r)(k:c∈cG g (aT [] r.2) [[]])(n:fy L r.2 c=true)(o:cz c r.1∉L):kh g d (L++[cz c r.1]):=by
 refine ⟨N3.mpr ⟨h.nd,by simp,λa p b q e=>o (by rw [LK.mp q] at e;rw [<-e];exact p)⟩,λf i=>?_,λT j f i=>?_⟩
 .rcases LI.mp i with z|z
  .exact h.fin f z
  .rw [LK.mp z];exact D6 m k
 .rcases LI.mp i with z|z
  .exact h.low T j f z
  .rw [LK.mp z];exact j r l c k<|zK (h.low T j) n
def Du{K:W.Frag}{n:Nat}(i:ae f G d (.lst l))(j:ae g G d (.int (n:Int))):ae (rH (vL K) f w8 (pK g)) G d (.lst (l.take n)):=
 λM H s e Q q=>i M H s e _ λx k b m=>j M k (s.trans<|b.but M) (e.same b) _ λy v c o=>⟨(n:Int),o.dL,by
  obtain ⟨a,r,rfl,t,u⟩:=m.dI
  refine ⟨a,r,rfl,aQ.of<|c _ _ (aw t).2,λp h=>?_⟩
  rw [A7]
  exact q _ _ (b.trans<|c.trans<|c8 h _)<|mV (e.same<|b.trans c) h<|(u.mono<|c.but M).take n⟩
def B1 (j L n:Nat):Bool:=Builtin.Range.small (0+(j:Int)) (L:Int) (n:Int)&&(!Builtin.divisionGoesByPylong ((L:Int)-(0+(j:Int))) (n:Int)&&(decide (Builtin.Range.rangeSize (0+(j:Int)) (L:Int) (n:Int)=(((Builtin.Range.rangeSize (0+(j:Int)) (L:Int) (n:Int)).toNat:Nat):Int))&&(decide ((Builtin.Range.rangeSize (0+(j:Int)) (L:Int) (n:Int)).toNat*n<=L+n)&&((List.range (Builtin.Range.rangeSize (0+(j:Int)) (L:Int) (n:Int)).toNat).all (λi=>decide (j+i*n<L))&&(List.range L).all λk=> !decide (k%n=j)||decide (k/n<(Builtin.Range.rangeSize (0+(j:Int)) (L:Int) (n:Int)).toNat)))))
def CQ:((List.range 4).all λj=>(List.range 31).all λL=>(List.range 5).all λn=>decide (n=0)||B1 j L n)=true:=by decide+kernel
def Dq {j L n:Nat}(a:j<4)(b:L<31)(c:n<5)(r:0<n):Builtin.Range.small (0+(j:Int)) (L:Int) (n:Int)=true/\Builtin.divisionGoesByPylong ((L:Int)-(0+(j:Int))) (n:Int)=false/\Builtin.Range.rangeSize (0+(j:Int)) (L:Int) (n:Int)=(((Builtin.Range.rangeSize (0+(j:Int)) (L:Int) (n:Int)).toNat:Nat):Int)/\(Builtin.Range.rangeSize (0+(j:Int)) (L:Int) (n:Int)).toNat*n<=L+n/\(∀i:Nat,i<(Builtin.Range.rangeSize (0+(j:Int)) (L:Int) (n:Int)).toNat->j+i*n<L)/\∀k:Nat,k<L->k%n=j->k/n<(Builtin.Range.rangeSize (0+(j:Int)) (L:Int) (n:Int)).toNat:=by
 have h:=MO.mp (MO.mp (MO.mp CQ j<|NY.mpr a) L<|NY.mpr b) n<|NY.mpr c
 rw [LR (show¬n=0 by omega),P9] at h
 unfold B1 at h
 obtain ⟨d,h⟩:=Mt.mp h
 obtain ⟨f,h⟩:=Mt.mp h
 obtain ⟨g,h⟩:=Mt.mp h
 obtain ⟨l,h⟩:=Mt.mp h
 obtain ⟨m,o⟩:=Mt.mp h
 refine ⟨d,by simpa using f,LD g,LD l,λi p=>LD<|MO.mp m i<|NY.mpr p,λk q e=>?_⟩
 have:=MO.mp o k<|NY.mpr q
 rw [LH e] at this
 exact LD this
end FL
namespace a7
open PySem L2 FL
section
variable {P:Program}{w:World}{K:PySem.W.Frag}{mg:Str->Option Value}{base:Heap}{f:Addr}{fd:FuncData}
abbrev zV:List Str:=["_law_script","_law_rules","_law_step","_law_others","_law_first","_law_k","_law_left","_law_right","_law_there","_law_told","_law_row","_law_fact"]
def fN:bV zV ["_law_script"] (be lA):=⟨rfl,rfl,rfl,Z9,rfl,Z9,Z9⟩
def Fn (F:aI K "law" "law" lA f fd)(B:Bl mg)(af:a6 P w K mg base 1 "_law_mixed" ["_law_script"] (bA A6))(O:a6 P w K mg base 2 "_law_pool_by" ["_law_script"] (bA vV))(J:a6 P w K mg base 3 "_law_rules_by" ["_law_script"] (iQ BD xu))(a0:a6 P w K mg base 1 "_law_at" ["_law_script","_law_k"] (bA pY))(U:a6 P w K mg base 12 "rounds" ["rules"] (iQ rD xS))(t:a6 P w K mg base 3 "_law_rounds_hold" ["_law_found"] (bA v9))(aj:a6 P w K mg base 3 "_law_least" ["_law_rules","_law_pool"] (sk AX An)):bp P w K mg base bD 13 f fd ["_law_script"] (sP K):=by
 refine F.ok fN (λvs H Q E h=>?_) λey A dt s H vs Q E C h=>?_
 .obtain ⟨a,ns,rfl,_⟩:=h
  rfl
 obtain ⟨a,ns,rfl,hS,a4,q⟩:=h
 have hu:=eC C
 have dx:=fJ C
 refine ⟨_,(aD (bj 0 fN.nd<|mr uD (pv 0) on<|ki aO)
   (aD (bj 0 fN.nd<|bI af C<|ak (pv 0) ar)
   (aD (bj 1 fN.nd<|bI J C<|ak (pv 0) ar)
   (aD (bj 2 fN.nd<|cC jK aO<|cC eo (cC gt (bI a0 C<|ak (pv 0)<|ak aO ar) aO) aO)
   (aD (bj 3 fN.nd<|dj ar)
   (aD (cO LM rfl (oE rfl B.range<|ak (pv 2) ar) (bq 4 fN.nd)<|aE<|cO LM rfl (GN rfl B.range<|ak (pv 4)<|ak (da B<|pv 1)<|ak (pv 2) ar) (bq 5 fN.nd)<|aE<|iZ (pv 3)<|bG (pv 1)<|cC wT (cC wT (da B<|pv 1) aO)<|pv 5)
   (aD (il<|pI MP Na Nt sJ (pv 3)<|ak (mr uD (pv 1) on<|ki<|pv 2) ar)
   (aD (bj 6 fN.nd<|bI U C<|ak (Bw B<|pv 1) ar)
   (aD (bj 7 fN.nd<|bI U C<|ak (pv 3) ar)
   (aD (cx (kQ (gg<|dN<|bI t C<|ak (pv 6) ar)<|kQ (gg<|dN<|bI t C<|ak (pv 7) ar)<|ng<|cX (jO (by exact hu)) (da B<|pv 6)<|da B<|pv 7).pt (aE<|bE eh) cM)
   (aD (bj 8 fN.nd<|bI aj C<|ak (pv 1)<|ak (bI O C<|ak (pv 0) ar) ar)
   (aD (bj 9 fN.nd<|dj ar)
   (aD (cO LM rfl (ck<|pv 6) (bq 10 fN.nd)<|aE<|il<|pI MP Na Nt sJ (pv 9)<|ak (pv 10) ar)
   (aD (cx (cX (jO (by exact hu)) (da B<|pv 9)<|x8 B<|pv 8) (aE<|bE eh) cM)
   (aD (cO LM rfl (oE rfl B.range<|ak (da B<|pv 6) ar) (bq 5 fN.nd) (aD (cx (cX (jO (by exact hu)) (da B<|bG (pv 6)<|pv 5)<|da B<|bG (pv 7)<|pv 5) (aE<|bE eh) cM)
   (aE<|cO LM rfl (ck<|bG (pv 6)<|pv 5) (bq 11 fN.nd)<|aE<|cx (kQ (cX (wG hu) (pv 11)<|bG (pv 7)<|pv 5)<|ng<|jt<|ny (by exact dx) (pv 11)<|pv 8).pt (aE<|bE eh) cM)))
   (aE<|bE eh)))))))))))))))),?_⟩
 refine ⟨_,rfl,500,rfl,a,_,rfl,hS,λp Y=>?_⟩
 rw [Fb a4]
 have E1:=Ey (H:=H) (p:=p) (ns:=ns) zV a 11 rfl
 dsimp only
 have b0:Bx _ [] [] _ _ [Sl.d (.lst<|ns.map D.int),.no,.no,.no,.no,.no,.no,.no,.no,.no,.no,.no]:=Bx.Fk ap.nil Z8 E1
 refine aW.JG b0 ?_
 clear b0 E1 hS
 generalize upd H p (HO.lst<|List.map V.int ns)=H1
 refine bu<|gW (i:=0) (d:=.lst<|(lq ns).map D.int) (λG σ e=>bQ ⟨ns,rfl,a4,rfl⟩<|aa (e.vd rfl) ag) ?_
 have d0:(lq ns).length<=63:=by rw [Hz];exact a4
 generalize lq ns=ms at d0
 clear a4
 refine bu<|qo (i:=1) (ds:=[.lst<|ms.map D.int]) (λG σ e=>aa (e.vd rfl) ag) ⟨ms,rfl,by omega⟩ λd hd=>?_
 obtain ⟨d1,o,he,rfl,bc,ez⟩:=hd
 simp only [Of,D.lst.injEq] at he
 have em:ms=d1:=(NO λa b e=>by injection e).mp he.1
 subst em
 have hP:=zH ms
 have hR:=bc.ok
 obtain ⟨n,hn,a1,d2⟩:∃n:Nat,1+ms.getD 1 0/14%4=(n:Int)/\0<n/\n<5:=⟨(1+ms.getD 1 0/14%4).toNat,by omega,by omega,by omega⟩
 refine bu<|gW (i:=2) (d:=.int (n:Int)) (λG σ e=>ae.eq (kl av<|eD Z1 (gm ⟨by decide,by decide⟩ (bQ (kK ms 1)<|aa (e.vd rfl)<|aa av ag) av) av) (by rw [hn])) ?_
 refine bu<|rl (i:=3) ?_
 let Got:List bo->Nat->Prop:=λos k=>∀r,o[o.length-1-k]?=some r->r∈os
 refine bu<|gP (i:=4) (dQ.xp (n:=n) Z4 λG σ e=>aa (e.v rfl) ag) (λj u=>∃(os:List bo) (s4 s5:Sl),(∀r∈os,r∈o)/\os.length*n<=j*(30+n)/\(∀k<o.length,k%n<j->Got os k)/\u=[Sl.d (.lst<|ms.map D.int),.d (.lst<|o.map aV),.d (.int (n:Int)),.l<|os.map aV,s4,s5,.no,.no,.no,.no,.no,.no]) ⟨[],_,_,(λr C=>nomatch C),by simp,(λk _ h=>absurd h<|Nat.not_lt_zero _),rfl⟩ (λB' sB hk j z u hj Y=>?_) λu Y=>?_
 .obtain ⟨os,s4,s5,b7,b8,bd,rfl⟩:=Y
  obtain ⟨e0,rfl⟩:=oF 0 _ j z hj
  obtain ⟨r1,r2,r3,r4,r5,r6⟩:=Dq (j:=j) (L:=o.length) (n:=n) Z4 Z4 d2 a1
  generalize (Builtin.Range.rangeSize (0+(j:Int)) (o.length:Int) (n:Int)).toNat=N at r3 r4 r5 r6
  refine gP (i:=5) (dQ.CO (a:=0+(j:Int)) (b:=(o.length:Int)) (c:=(n:Int)) (n:=N) Z4 r1 r2 r3 λG σ e=>aa (e.v rfl)<|aa ((dX (K:=K)<|aa (e.v rfl) ag).eq (by rw [Ll]))<|aa (e.v rfl) ag) (λi u=>∃(M:List bo) (s5:Sl),(∀r∈M,r∈o)/\M.length<=os.length+i/\(∀r∈os,r∈M)/\(∀i'<i,Got M<|j+i'*n)/\u=[Sl.d (.lst<|ms.map D.int),.d (.lst<|o.map aV),.d (.int (n:Int)),.l<|M.map aV,.d (.int<|0+(j:Int)),s5,.no,.no,.no,.no,.no,.no]) ⟨os,_,b7,Lo _,(λr h=>h),(λi' h=>absurd h<|Nat.not_lt_zero _),rfl⟩ (λB2 d3 cl i x cd hi Y=>?_) λcd Y=>?_
  .obtain ⟨M,s5,h1,h2,h3,h4,rfl⟩:=Y
   rw [LA] at hi
   obtain ⟨i2,d4,rfl⟩:=Mj.mp hi
   obtain ⟨co,ei⟩:=Li.mp d4
   rw [N5] at co
   rw [List.getElem_range] at ei
   subst ei
   have e2:=r5 i co
   have e3:i<=i*n:=PH i a1
   have am:=Lk (show o.length-1-(j+i*n)<o.length by omega)
   have bi:=NE (show o.length-1-(j+i*n)<o.length by omega)
   generalize e4:o[o.length-1-(j+i*n)]'(show o.length-1-(j+i*n)<o.length by omega)=r at am bi
   have g1:dM (o.map aV) ((o.length:Int)-1-(0+(j:Int)+(i:Int)*(n:Int)))=some (aV r):=me Z4 (by rw [show ((o.length:Int)-1-(0+(j:Int)+(i:Int)*(n:Int))).toNat=o.length-1-(j+i*n) by omega,LA,am];rfl)
   have ew:os.length<=200:=by
    have:os.length<=os.length*n:=PH _ a1
    have:j*(30+n)<=4*34:=P7 Z4 Z4
    omega
   refine uP (j:=3) (d:=aV r) rfl (λG σ e=>cP g1 (e.v rfl)<|w9 (w9 ((dX (K:=K)<|aa (e.v rfl) ag).eq (by rw [Ll])) av)<|e.v rfl) (y8 ((hR r bi).hd.sc hP).1 λa ha x hx=>(((hR r bi).at_ a ha).at_.kP.sc x hx).1) (by rw [Ll];exact cp Z4) ?_
   rw [show M.map aV++[aV r]=(M++[r]).map aV by rw [LU];rfl]
   refine eR ⟨M++[r],.d (.int<|0+(j:Int)+(i:Int)*(n:Int)),λq hq=>?_,by rw [LC,My];omega,λq hq=>Lu _<|h3 q hq,λi' e5 q hq=>?_,rfl⟩
   .rcases LI.mp hq with z|z
    .exact h1 q z
    .rw [LK.mp z];exact bi
   .by_cases z:i'=i
    .subst z
     rw [am] at hq
     cases hq
     exact Lr _<|LK.mpr rfl
    .exact Lu _<|h4 i' Z4 q hq
  .obtain ⟨M,s5,h1,h2,h3,h4,rfl⟩:=Y
   rw [Ll,N5] at h2 h4
   refine eR ⟨M,_,s5,h1,?_,λk cs cl=>?_,rfl⟩
   .have e1:M.length*n<=(os.length+N)*n:=P6 n h2
    rw [Nat.add_mul] at e1
    rw [Nat.add_mul,Nat.one_mul]
    omega
   .by_cases z:k%n<j
    .exact λr C=>h3 r<|bd k cs z r C
    .have d5:k%n=j:=by omega
     have:=r6 k cs d5
     have e:=Nat.mod_add_div k n
     have:=h4 (k/n) this
     rwa [show j+k/n*n=k by rw [Qf (k/n) n];omega] at this
 obtain ⟨os,s4,s5,b7,b8,bd,rfl⟩:=Y
 rw [Ll,N5] at b8 bd
 have e6:os.length<=34:=by
  have:os.length*n<=(30+n)*n:=by rw [Qf (30+n) n];exact b8
  have:=Nat.le_of_mul_le_mul_right this a1
  omega
 dsimp only
 refine bu<|AJ (j:=3) (ys:=(o.take n).map aV) rfl (λG σ e=>ae.eq (Du (n:=n) (e.vd rfl)<|e.vd rfl) (by rw [Qb])) (by rw [Ll,Ll,L9];exact MK<|cp Z4) ?_
 rw [<-LU]
 have ac:∀r,r∈o↔r∈os++o.take n:=λr=>by
  constructor
  .intro C
   obtain ⟨m,hm⟩:=Mf.mp C
   have ex:=(Li.mp hm).1
   refine Lu _<|bd (o.length-1-m) Z4 (Nat.mod_lt _ a1) r ?_
   rw [show o.length-1-(o.length-1-m)=m by omega]
   exact hm
  .intro C
   rcases LI.mp C with z|z
   .exact b7 r z
   .exact OW z
 have bt:(os++o.take n).length<=100:=by rw [LC,L9];omega
 generalize os++o.take n=an at ac bt
 have ct:fI (fZ ms) an:=⟨λr C=>hR r<|(ac r).mpr C,λe r C=>bc.p6 e r<|(ac r).mpr C⟩
 refine Js (i:=3) (xs:=an.map aV) rfl ?_
 dsimp only
 refine bu<|qo (i:=6) (ds:=[.lst<|o.map aV]) (λG σ e=>aa (D3<|aa (e.vd rfl) ag) ag) ⟨_,o,rfl,hP,bc,by omega⟩ λd hd=>?_
 obtain ⟨ea,bk,ra,c0,rfl,I⟩:=hd
 simp only [Of,D.lst.injEq] at c0
 have eb:o=bk:=(NO λa b e=>uv e).mp c0.1
 subst eb
 refine bu<|qo (i:=7) (ds:=[.lst<|an.map aV]) (λG σ e=>aa (e.vd rfl) ag) ⟨_,an,rfl,hP,ct,bt⟩ λd hd=>?_
 obtain ⟨ec,c1,rb,c2,rfl,ao⟩:=hd
 simp only [Of,D.lst.injEq] at c2
 have ed:an=c1:=(NO λa b e=>uv e).mp c2.1
 subst ed
 have I:=I.any hP bc
 have ao:=ao.any hP ct
 have c3:ra.length=rb.length:=Nat.le_antisymm (By I ao ac)<|By ao I λr=>(ac r).symm
 have e7:(aB ra).length<=110:=ox I.pk I.run.nd I.run.hd
 have e8:=wM I.run
 have bx:∀{o:List bo} {T:List (List cj)},d8 (fZ ms) o T->v9 [.lst<|T.map λr=>ci<|aC r] (.bl true):=λ{o T} hE=>by
  refine ⟨T.map aC,by rw [Mb];rfl,λl hl=>?_,rfl⟩
  obtain ⟨r,C,rfl⟩:=LG.mp hl
  obtain ⟨i,hi⟩:=Mf.mp C
  refine ⟨λz=>(hE.run.step i r hi).2<|OZ.mp z,λf hf=>?_⟩
  obtain ⟨x,hx,rfl⟩:=LG.mp hf
  exact ((hE.run.hd x.1<|LG.mpr ⟨x,Mc.mpr ⟨r,C,hx⟩,rfl⟩).fin.flat hP).2.2
 refine lR (λG σ e=>li (b:=false) (c:=false) (bJ.eq (f6<|dP<|bQ (bx I)<|aa (e.v rfl) ag) rfl) λ_=>li (b:=false) (c:=false) (bJ.eq (f6<|dP<|bQ (bx ao)<|aa (e.v rfl) ag) rfl) λ_=>bJ.eq (c7<|pf (dX (K:=K)<|aa (e.v rfl) ag)<|dX (K:=K)<|aa (e.v rfl) ag) (by rw [Ll,Ll,c3];simp)) ?_
 refine bu<|Dt (i:=8) (ds:=[.lst<|o.map aV,.lst<|fZ ms]) (λG σ e=>aa (e.vd rfl)<|aa (bQ ⟨ms,rfl,rfl⟩<|aa (e.vd rfl) ag) ag) ⟨_,o,rfl,hP,hR⟩ λps eg=>?_
 obtain ⟨nC,bs,ch,c4,ej⟩:=eg
 simp only [Of,D.lst.injEq] at ch
 have ek:o=bs:=(NO λa b e=>uv e).mp ch.1
 subst ek
 have ep:fZ ms=nC:=ch.2.1
 subst ep
 have a2:∀f,f∈aB ra↔f∈ps.map (·.1):=λf=>by
  constructor
  .intro hf
   refine I.least ej ra.length f ?_
   rw [MR];exact hf
  .exact c4.low _ (λq hq c hc hs=>I.closed hq (hR q hq) hc hs) f
 have en:(aB ra).length=ps.length:=by
  have h1:=jJ I.run.nd λf hf=>(a2 f).mp hf
  have h2:=jJ c4.nd λf hf=>(a2 f).mpr hf
  rw [Ll] at h1 h2
  omega
 refine bu<|rl (i:=9) ?_
 refine bu<|gP (i:=10) (ds:=ra.map λr=>ci<|aC r) (dQ.of λG σ e=>dn<|e.vd rfl) (λj u=>∃a3,u=[Sl.d (.lst<|ms.map D.int),.d (.lst<|o.map aV),.d (.int (n:Int)),.d (.lst<|an.map aV),s4,s5,.d (.lst<|ra.map λr=>ci<|aC r),.d (.lst<|rb.map λr=>ci<|aC r),.td ps,.l<|(aB<|ra.take j).map D.tup,a3,.no]) ⟨_,rfl⟩ (λB' sB hk j x u hj Y=>?_) λu Y=>?_
 .obtain ⟨a3,rfl⟩:=Y
  rw [LA] at hj
  obtain ⟨r,C,rfl⟩:=Mj.mp hj
  have ht:=oq C
  obtain ⟨G0,er⟩:=CF ra<|j+1
  refine AJ (j:=9) (ys:=(aC r).map D.tup) rfl (λG σ e=>e.vd rfl) ?_ (eR ⟨.d<|ci<|aC r,?_⟩)
  .have h1:=Mq List.length er
   rw [ht,LC,LC] at h1
   rw [Ll,Ll]
   exact MK<|cp Z4
  .rw [ht,LU]
   rfl
 obtain ⟨a3,rfl⟩:=Y
 rw [Ll,MR]
 dsimp only
 refine lR (λG σ e=>bJ.eq (c7<|pf (dX (K:=K) (l:=(aB ra).map D.tup)<|aa (e.v (i:=9) rfl) ag)<|e.Km (j:=8) rfl) (by rw [Ll,en];simp)) ?_
 refine bu<|gP (i:=5) (dQ.xp (n:=ra.length) Z4 λG σ e=>aa ((dX (K:=K)<|aa (e.v rfl) ag).eq (by rw [Ll])) ag) (λj u=>∃s5 as,u=[Sl.d (.lst<|ms.map D.int),.d (.lst<|o.map aV),.d (.int (n:Int)),.d (.lst<|an.map aV),s4,s5,.d (.lst<|ra.map λr=>ci<|aC r),.d (.lst<|rb.map λr=>ci<|aC r),.td ps,.l<|(aB ra).map D.tup,a3,as]) ⟨_,_,rfl⟩ (λB' sB hk j z u hj Y=>?_) λu Y=>?_
 .obtain ⟨s5,as,rfl⟩:=Y
  obtain ⟨c5,rfl⟩:=oF 0 _ j z hj
  have am:=Lk c5
  generalize ra[j]'c5=r at am
  obtain ⟨r',b6,dc,dd⟩:=xO I ao ac am
  have g1:dM (ra.map λr=>ci<|aC r) (0+(j:Int))=some (ci<|aC r):=wW (by rw [LA,am];rfl)
  have g2:dM (rb.map λr=>ci<|aC r) (0+(j:Int))=some (ci<|aC r'):=wW (by rw [LA,b6];rfl)
  have di:∀{o:List bo} {T:List (List cj)} {r:List cj},d8 (fZ ms) o T->T[j]?=some r->∀f∈aC r,fM (fZ ms) f/\f∈aB T:=λ{o T r} hE C f hf=>by
   obtain ⟨x,hx,rfl⟩:=LG.mp hf
   have hm:x.1∈aB T:=LG.mpr ⟨x,Mc.mpr ⟨r,Lp C,hx⟩,rfl⟩
   exact ⟨(hE.run.hd x.1 hm).fin,hm⟩
  refine lR (λG σ e=>bJ.eq (c7<|pf (dX (K:=K) (l:=(aC r).map D.tup)<|aa (cP g1 (e.v rfl)<|e.v rfl) ag)<|dX (K:=K) (l:=(aC r').map D.tup)<|aa (cP g2 (e.v rfl)<|e.v rfl) ag) (by unfold aC;rw [Ll,Ll,Ll,Ll,dd];simp)) ?_
  refine gP (i:=11) (ds:=(aC r).map D.tup) (dQ.of λG σ e=>dn<|cP g1 (e.vd rfl)<|e.vd rfl) (λi u=>∃as,u=[Sl.d (.lst<|ms.map D.int),.d (.lst<|o.map aV),.d (.int (n:Int)),.d (.lst<|an.map aV),s4,.d (.int<|0+(j:Int)),.d (.lst<|ra.map λr=>ci<|aC r),.d (.lst<|rb.map λr=>ci<|aC r),.td ps,.l<|(aB ra).map D.tup,a3,as]) ⟨_,rfl⟩ (λB2 d3 cl i x cd hi Y=>?_) λcd Y=>?_
  .obtain ⟨as,rfl⟩:=Y
   obtain ⟨g,hg,rfl⟩:=LG.mp<|Lp hi
   obtain ⟨et,eu⟩:=di I am g hg
   have dp:=(et.flat hP).1.2
   exact fP (b:=false) (λG σ e=>li (b:=false) (c:=false) (bJ.eq (c7 (xo (d:=.tup g) (es:=(aC r').map D.tup) (λy hy=>by
    obtain ⟨g2,ev,rfl⟩:=LG.mp hy
    exact wo ((di ao b6 g2 ev).1.flat hP).1.2 dp) (e.v rfl)<|cP g2 (e.v rfl)<|e.v rfl)) (by rw [LH<|JM.mpr<|(dc g).mp hg];rfl)) λ_=>bJ.eq (dP<|e.DT (j:=8) rfl dp<|e.v rfl) (by rw [LH<|(a2 g).mp eu];rfl)) (λz=>nomatch z) λ_=>ik<|eR ⟨_,rfl⟩
  .obtain ⟨as,rfl⟩:=Y
   exact eR ⟨_,_,rfl⟩
 obtain ⟨s5,as,rfl⟩:=Y
 dsimp only
 refine f7 (d:=.bl true) (λG σ e=>jw (b:=true)) λv H' s' r'=>?_
 rw [r'.jl]
 exact q H'
end
end a7
namespace a7
open PySem L2 FL
section
variable {P:Program}{w:World}{K:PySem.W.Frag}{mg:Str->Option Value}{base:Heap}{f:Addr}{fd:FuncData}
def uA:bV ["_law_found","_law_row","_law_fact"] ["_law_found"] (be tZ):=⟨rfl,rfl,rfl,Z9,rfl,Z9,Z9⟩
def CN (F:aI K "_law_rounds_hold" "_law_rounds_hold" tZ f fd)(B:Bl mg)(a:a6 P w K mg base 2 "_law_is_fact" ["_law_found"] (bA A4)):bp P w K mg base bD 3 f fd ["_law_found"] (bA v9):=by
 refine F.ok uA (eI (n:=1) λL d N=>by obtain ⟨_,e,_⟩:=N;rw [e];rfl) λO A r s H vs Q E J h=>?_
 obtain ⟨M,L,d,T,U,⟨t,rfl,Y,rfl⟩,q⟩:=h
 have hu:=eC J
 refine ⟨_,(aD (cx (gg<|dN<|jg B (pv 0) B.list NK) (aE<|bE eh) cM)
   (aD (cO LM rfl (ck<|pv 0) (bq 1 uA.nd) (aD (cx (kQ (gg<|dN<|jg B (pv 1) B.list NK)<|ng<|cX (f9 (by exact hu)) (da B<|pv 1) aO).pt (aE<|bE eh) cM)
   (aE<|cO LM rfl (ck<|pv 1) (bq 2 uA.nd)<|aE<|cx (gg<|dN<|bI a J<|ak (pv 2) ar) (aE<|bE eh) cM)))
   (aE<|bE eh))),?_⟩
 have b0:Bx H M [] _ H [Sl.d (.lst<|t.map ci),.no,.no]:=hJ T U ["_law_found","_law_row","_law_fact"]
 refine aW.run b0 ?_
 refine lR (λG p e=>bJ.eq (f6<|dP<|BR<|e.v rfl) rfl) ?_
 refine bu<|gP (i:=1) (dQ.of λG p e=>dn<|e.vd rfl) (λ_ k=>∃u m,k=[Sl.d (.lst<|t.map ci),u,m]) ⟨_,_,rfl⟩ (λB' sB hk j x k hj o=>?_) λk o=>?_
 .obtain ⟨u,m,rfl⟩:=o
  obtain ⟨l,hl,rfl⟩:=LG.mp<|Lp hj
  obtain ⟨y,C⟩:=Y l hl
  refine lR (λG p e=>li (b:=false) (c:=false) (bJ.eq (f6<|dP<|BR<|e.v rfl) rfl) λ_=>bJ.eq (c7<|jF (dX (K:=K) (l:=l.map D.tup)<|aa (e.v rfl) ag) av)<|LR λz=>y<|MH (by rw [Ll] at z;omega)) ?_
  refine gP (i:=2) (ds:=l.map D.tup) (dQ.of λG p e=>dn<|e.vd rfl) (λ_ k=>∃m,k=[Sl.d (.lst<|t.map ci),.d<|ci l,m]) ⟨_,rfl⟩ (λB2 ac af i x I hi o=>?_) λI o=>?_
  .obtain ⟨m,rfl⟩:=o
   obtain ⟨g,hg,rfl⟩:=LG.mp<|Lp hi
   exact fP (b:=false) (λG p e=>bJ.eq (f6<|dP<|bQ (d:=.bl true) ⟨_,rfl,C g hg,rfl⟩<|aa (e.v rfl) ag) rfl) (λz=>nomatch z) λ_=>ik<|eR ⟨_,rfl⟩
  .obtain ⟨m,rfl⟩:=o
   exact eR ⟨_,_,rfl⟩
 .obtain ⟨u,m,rfl⟩:=o
  dsimp only
  exact f7 (λG p e=>jw (b:=true)) q
abbrev Ci:List Str:=["_law_rules","_law_pool","_law_there","_law_more","_law_head","_law_body","_law_things","_law_fact","_law_meets"]
def jq:bV Ci ["_law_rules","_law_pool"] (be qM):=⟨rfl,rfl,rfl,Z9,rfl,Z9,Z9⟩
def De (F:aI K "_law_least" "_law_least" qM f fd)(B:Bl mg)(O:a6 P w K mg base 1 "_law_choices" ["_law_blanks","_law_pool"] qV)(L:a6 P w K mg base 1 "_law_blanks_in" ["_law_atoms"] (bA Co))(af:a6 P w K mg base 2 "_law_true" ["_law_atom","_law_there"] (spS Ct))(I:a6 P w K mg base 1 "_law_fill_in" ["_law_atom","_law_things"] (jo ur)):bp P w K mg base bD 3 f fd ["_law_rules","_law_pool"] (sk AX An):=by
 refine F.ok jq (Jd (n:=2) λds q0=>by obtain ⟨_,_,e,_⟩:=q0;rw [e];rfl) λc5 A cl s H vs Q E hr h=>?_
 obtain ⟨M,ds,lv,rs,⟨C,u,rfl,hP,co⟩,q⟩:=h
 have hu:=eC hr
 have bt:=fJ hr
 refine ⟨_,(aD (bj 2 jq.nd vk)
   (aD (bj 3 jq.nd eh)
   (aD (ve LM (dN<|pv 3) (aD (bj 3 jq.nd eh)
   (aE (cO LM rfl (ck<|pv 0) (ml rfl<|fb (bq 4 jq.nd)<|fb (bq 5 jq.nd) jM) (aE (cO LM rfl (ck<|bI O hr<|ak (bI L hr<|ak (pv 5) ar)<|ak (pv 1) ar) (bq 6 jq.nd) (aD (bj 7 jq.nd<|bI I hr<|ak (pv 4)<|ak (pv 6) ar)
   (aD (oH (i:=8) ["_law_there","_law_things","_law_atom"] [2,6] 1 jq.nd rfl (Or.inl rfl) (ck<|pv 5) (λ_ _ _ _ _=>(bq 2 (show (["_law_there","_law_things","_law_atom"]:ZY).Nodup from by decide+kernel))) (λ_ _ _ _ _=>iG) λ_ _ _ _ _=>(iN af hr<|ak (iN I hr<|ak (pv 2)<|ak (pv 1) ar)<|ak (pv 0) ar))
   (aE (cx (kG (jt<|ny (by exact bt) (pv 7)<|pv 2)<|kR<|dN<|vJ B<|pv 8).pt (aD (ly bt (pv 2) (pv 7) eh rfl)
   (aE<|bj 3 jq.nd eh)) cM))))))))))
   (aE<|bE<|pv 2)))),?_⟩
 have b0:Bx H M [] _ H [Sl.d (.lst<|u.map aV),.d (.lst C),.no,.no,.no,.no,.no,.no,.no]:=hJ lv rs Ci
 refine aW.run b0<|bu<|Kp (i:=2) ?_
 dsimp only
 refine bu<|el (i:=3) (d:=.bl true) (λG σ e=>jw) rfl ?_
 refine bu<|EE (λm aj=>∃(U:List (ZZ×D)) (l:Bool) (s4 s5 s6 s7 s8:Sl),kh C u (U.map (·.1))/\(l=false->xj C u (U.map (·.1)))/\m=2*(1000-U.length)+(if l=true then 1 else 0)/\aj=[Sl.d (.lst<|u.map aV),.d (.lst C),.t U,.d (.bl l),s4,s5,s6,s7,s8]) _ ⟨[],true,_,_,_,_,_,⟨NA,(λf hf=>nomatch hf),(λT hT f hf=>nomatch hf)⟩,(λz=>nomatch z),rfl,rfl⟩ λB' sB hk m aj hp=>?_
 obtain ⟨U,l,s4,s5,s6,s7,s8,hL,cs,rfl,rfl⟩:=hp
 refine ⟨l,λG σ e=>dP<|e.v rfl,λhm=>?_,λhm=>?_⟩
 .subst hm
  refine bu<|el (i:=3) (d:=.bl false) (λG σ e=>jw) rfl ?_
  let Up:bo->aP->Prop:=λr c=>fy (U.map (·.1)) r.2 c=true->cz c r.1∈U.map (·.1)
  let Iv:List (ZZ×D)->Bool->Prop:=λJ l=>kh C u (J.map (·.1))/\(l=false->J=U)/\(l=true->U.length<J.length)
  refine DC (i:=4) (i':=5) (dQ.of λG σ e=>dn<|e.vd rfl) (λj aj=>∃J l s4 s5 s6 s7 s8,Iv J l/\(l=false->∀r∈u.take j,∀c∈cG C (aT [] r.2) [[]],Up r c)/\aj=[Sl.d (.lst<|u.map aV),.d (.lst C),.t J,.d (.bl l),s4,s5,s6,s7,s8]) ⟨U,false,_,_,_,_,_,⟨hL,λ_=>rfl,λz=>nomatch z⟩,(λ_ r hr=>nomatch hr),rfl⟩ (λB2 dc dd k x aj hx hp=>?_) λaj hp=>?_
  .obtain ⟨J,l,s4,s5,s6,s7,s8,ct,as,rfl⟩:=hp
   rw [LA] at hx
   obtain ⟨r,a2,rfl⟩:=Mj.mp hx
   have bx:=Lp a2
   have an:=co r bx
   have c0:u.take (k+1)=u.take k++[r]:=by rw [L0,a2];rfl
   obtain ⟨Y,o⟩:=r
   refine ⟨.tup Y,cq o,rfl,?_⟩
   have hI:BI (e9 o) o:=an.bi
   have hA:=hI.at_
   have di:o.length<=3:=an.dA
   have a3:∀a∈o,∀x∈a,x.sc=true:=λa ha x hx=>((hA a ha).ok x hx).1
   obtain ⟨w,xs,hw⟩:∃w xs,Y=D.str w::xs:=by
    obtain ⟨w,xs,e,_⟩:=an.hd
    exact ⟨w,xs,e⟩
   have a4:Y≠[]:=by rw [hw];exact λz=>nomatch z
   have bc:(∀x∈Y,x.sc=true)/\Y.length<=3:=an.hd.sc hP
   refine JA (i:=6) (Bs:=aT [] o) (pool:=C) (λG σ e=>aa (bQ ⟨o,rfl,Fz hA Z4,rfl⟩<|aa (e.vd rfl) ag)<|aa (e.vd rfl) ag) (λx hx=>(hP.gp x hx).1) (IE hA) (by rcases hP.len with z|z<;>omega) (λj aj=>∃J l s6 s7 s8,Iv J l/\(l=false->∀r∈u.take k,∀c∈cG C (aT [] r.2) [[]],Up r c)/\(l=false->∀c∈(cG C (aT [] o) [[]]).take j,Up (Y,o) c)/\aj=[Sl.d (.lst<|u.map aV),.d (.lst C),.t J,.d (.bl l),.d (.tup Y),.d<|cq o,s6,s7,s8]) ⟨J,l,_,_,_,ct,as,(λ_ c hc=>nomatch hc),rfl⟩ (λB3 dp dt j c c1 hc hp=>?_) λc1 hp=>?_
   .obtain ⟨J,l,s6,s7,s8,⟨am,N,ac⟩,bd,a0,rfl⟩:=hp
    have b6:=Lp hc
    have b7:∀p∈c,p.2.sc=true:=sj C _ [[]] c (λx hx=>(hP.gp x hx).1) (λm hm p hp=>by rw [LK.mp hm] at hp;cases hp) b6
    have bk:=yx a4 bc.1 b7
    have ao:=am.dA hP
    rw [Ll] at ao
    refine bu<|el (i:=7) (d:=.tup<|cz c Y) (λG σ e=>e.Ai (j:=6) (.inr rfl) a4 bc.1 (LN bc.2 Z1)<|e.v rfl) (ji bk) ?_
    refine bu<|DY (n:=8) (idx:=[2,6]) (k:=1) (i:=2) (ds:=o.map D.tup) (λ_=>true) (λd=>match d with|.tup a=>.bl (dF (J.map (·.1))<|cz c a)|_=>.aq) ?_ Z8 (λG σ e=>jy<|e.v rfl) (λG' c2 d Y e'=>jn) (λG' c2 d Y _ e'=>?_) (by rw [Ll];exact cp Z4) ?_
    .rw [Mp.mpr λ_ _=>rfl,Mb]
     exact AW _ _
    .obtain ⟨a,ha,rfl⟩:=LG.mp Y
     have Aa:=hA a ha
     exact Jp ⟨cz c a,J,rfl,KR Aa.ne (a3 a ha) b7 λg=>(hI.gd a ha g).1,rfl⟩<|Ew (e'.Ai (j:=1) (.inr rfl) Aa.ne (a3 a ha) Aa.len<|e'.v rfl)<|e'.es (i:=0) rfl (λz=>nomatch z) GF
    have em:((o.map D.tup).filter λ_=>true).map (λd=>match d with|.tup a=>D.bl (dF (J.map (·.1))<|cz c a)|_=>.aq)=(o.map λa=>dF (J.map (·.1))<|cz c a).map D.bl:=by
     rw [Mp.mpr λ_ _=>rfl,Mb,Mb]
     rfl
    rw [em]
    have b8:(o.map λa=>dF (J.map (·.1))<|cz c a).all id=fy (J.map (·.1)) o c:=by
     unfold fy
     rw [Oz]
     rfl
    dsimp only
    refine fP (b:= !decide (cz c Y∈J.map (·.1))&&fy (J.map (·.1)) o c) (λG σ e=>mi (dP<|e.zP (j:=2) rfl bk<|e.v rfl) λ_=>bJ.eq (dP<|uW (bs:=o.map λa=>dF (J.map (·.1))<|cz c a)<|aa (e.v (i:=8) rfl) ag) b8) (λz=>?_) λz=>?_
    .obtain ⟨z1,z2⟩:=Mt.mp z
     have a1:cz c Y∉J.map (·.1):=by simpa using z1
     have cd:mQ J (cz c Y) (.bl true)=J++[(cz c Y,.bl true)]:=by
      have:=sR (cz c Y) J
      rw [LR a1] at this
      exact DK (by
       cases e:fE J (cz c Y) with
       |none=>rfl
       |some d=>rw [e] at this;cases this)
     refine bu<|Gj (j:=2) (key:=cz c Y) (d:=.bl true) rfl bk (λG σ e=>jw) (λG σ e=>e.v rfl) Z4 ?_
     rw [cd]
     dsimp only
     refine el (i:=3) (d:=.bl true) (λG σ e=>jw) rfl<|eR ⟨J++[(cz c Y,.bl true)],true,.kd c,_,_,⟨?_,(λz=>nomatch z),λ_=>?_⟩,(λz=>nomatch z),(λz=>nomatch z),rfl⟩
     .rw [LU]
      exact am.snoc bx an b6 z2 a1
     .rw [LC]
      cases l with
      |true=>have:=ac rfl;omega
      |false=>rw [N rfl];exact MW _
    .refine ik (eR ⟨J,l,.kd c,_,_,⟨am,N,ac⟩,bd,λhm c' ch=>?_,rfl⟩)
     rw [L0,hc] at ch
     rcases LI.mp ch with y|y
     .exact a0 hm c' y
     .rw [LK.mp y]
      intro hs
      rw [N hm] at z
      refine Classical.byContradiction λa1=>?_
      rw [LR a1,show fy (U.map (·.1)) o c=true from hs] at z
      cases z
   .obtain ⟨J,l,s6,s7,s8,c3,bd,a0,rfl⟩:=hp
    rw [MR] at a0
    refine eR ⟨J,l,_,_,s6,s7,s8,c3,λhm r hr c hc=>?_,rfl⟩
    rw [c0] at hr
    rcases LI.mp hr with z|z
    .exact bd hm r z c hc
    .have z:=LK.mp z
     subst z
     exact a0 hm c hc
  .obtain ⟨J,l,s4,s5,s6,s7,s8,⟨am,N,ac⟩,as,rfl⟩:=hp
   rw [Ll,MR] at as
   have ao:=am.dA hP
   rw [Ll] at ao
   refine eR ⟨_,?_,J,l,s4,s5,s6,s7,s8,am,λhm=>?_,rfl,rfl⟩
   .cases l with
    |true=>have:=ac rfl;simp;omega
    |false=>rw [N rfl];simp
   .rw [N hm]
    exact as hm
 .subst hm
  exact FJ (j:=2) rfl λa c4 H' s' ha hr=>q U a c4 H' ⟨C,u,rfl,hL,cs rfl⟩ (sB.trans s') ha hr
end
end a7
namespace a7
open PySem L2 FL
section
variable {P:Program}{w:World}{K:PySem.W.Frag}{mg:Str->Option Value}{base:Heap}{f:Addr}{fd:FuncData}
def Kw:bV ["self","asker","shared","guards"] ["self","asker","shared","guards"] (be mI):=⟨rfl,rfl,rfl,Z9,rfl,Z9,Z9⟩
def GD(F:aI K "__init__" "Step.__init__" mI f fd)(T:ky K C):bp P w K mg base bD 1 f fd ["self","asker","shared","guards"] (BX C):=by
 refine F.ok Kw (λk H Q E l=>by obtain ⟨_,_,_,_,_,e,_⟩:=l;rw [e];rfl) λm A d s H k Q E o h=>?_
 obtain ⟨x,b,g,i,j,rfl,n,q⟩:=h
 refine ⟨_,(aD (fw (pv 0) (pv 1) rfl)
   (aD (fw (pv 0) (pv 2) rfl)
   (aD (fw (pv 0) (pv 3) rfl)
   (aD (fw (pv 0) vk rfl)
   (aE<|fw (pv 0) (lH mB aO) rfl))))),?_⟩
 refine ⟨g,rfl,.ref x,rfl,x,C,b,[],rfl,n,T.cl,T.nA,by decide,?_⟩
 refine ⟨i,rfl,.ref x,rfl,x,C,b,_,rfl,aN,T.cl,T.nS,(show 1<1000 by decide),?_⟩
 refine ⟨j,rfl,.ref x,rfl,x,C,b,_,rfl,aN,T.cl,T.nG,(show 2<1000 by decide),?_⟩
 rw [kB,kB]
 intro p c
 have a:p≠x:=λz=>by rw [z,aN] at c;cases c
 rw [aA a] at c
 refine ⟨.ref x,rfl,x,C,b,[("asker",g),("shared",i),("guards",j)],rfl,by rw [aA<|Ml a];exact aN,T.cl,T.nO,(show 3<1000 by decide),?_⟩
 rw [D8 a]
 refine ⟨1,rfl,.ref x,rfl,x,C,b,_,rfl,aN,T.cl,T.nN,(show 4<1000 by decide),?_⟩
 rw [kB]
 exact q p c a
def rL:bV ["self","place","fact","setting","shared_things","pairs"] ["self","place","fact"] (be lW):=⟨rfl,rfl,rfl,Z9,rfl,Z9,Z9⟩
def Ex(F:aI K "offer" "Step.offer" lW f fd)(T:ky K C)(B:Bl mg)(r:a6 P w K mg base 2 "matched" ["atom","fact","setting"] (bA yt)):bp P w K mg base bD 3 f fd ["self","place","fact"] (zo C):=by
 refine F.ok rL (λvs H Q E q0=>by obtain ⟨_,_,_,_,_,_,_,e,_⟩:=q0;rw [e];rfl) λcs A bt s H vs Q E hr h=>?_
 obtain ⟨Z,os,st,a,n,g,v2,rfl,lv,an,v,Y,hA,hg,hz,q⟩:=h
 have ac:=fJ hr
 refine ⟨_,(aD (bj 3 rL.nd<|bI r hr<|ak (dB (pv 0) rfl)<|ak (pv 2)<|ak (dj ar) ar)
   (aE (cx (cX Hh (pv 3) vz) (aD (bj 4 rL.nd<|sK B<|fh ["self","blank","thing"] [0] 2 (ck<|pv 3) (λ_ _ _ _ _=>(wu (n:=2) rfl<|fb (bq 1 (show (["self","blank","thing"]:ZY).Nodup from by decide+kernel))<|fb (bq 2 (show (["self","blank","thing"]:ZY).Nodup from by decide+kernel)) jM)) (λ_ _ _ _ _=>(iI<|jt<|tY (by exact ac) (pv 1)<|oM (pv 0) rfl)) λ_ _ _ _ _=>(pv 2))
   (aD (oH (i:=5) ["self","blank","thing"] [0] 2 rL.nd rfl (Or.inl rfl) (ck<|pv 3) (λ_ _ _ _ _=>(wu (n:=2) rfl<|fb (bq 1 (show (["self","blank","thing"]:ZY).Nodup from by decide+kernel))<|fb (bq 2 (show (["self","blank","thing"]:ZY).Nodup from by decide+kernel)) jM)) (λ_ _ _ _ _=>(iI<|jt<|ny (by exact ac) (pv 1)<|oM (pv 0) rfl)) λ_ _ _ _ _=>(eE<|ak (pv 1)<|ak (pv 2) ar))
   (aD (iZ (zR ac (dB (pv 0) rfl) (pv 4) (dj ar) ⟨rfl,rfl,rfl,rfl⟩)<|eE<|ak (pv 1)<|ak (pv 5) ar)
   (aE<|fw (pv 0) (pv 1) rfl)))) cM))),?_⟩
 obtain ⟨dx,v0,sa,w2,l,ls,oS,G,ha,r0,as,rg,hO⟩:=an.at_
 have aZ:a∈Z:=v a (by rw [G];simp)
 have a0:l∈Z:=v l (by rw [G];simp)
 have a1:∀x∈ls,x∈Z:=λx c=>v x (by rw [G];simp [c])
 obtain ⟨I,af,bx⟩:∃I:ZX,(∀x,x∈a::I↔x∈Z)/\a∉I:=⟨Z.filter λy=>decide<|y≠a,λx=>by
  by_cases e:x=a
  .simp [e,aZ]
  .simp [e],by simp⟩
 have G1:ab (but H Z) (but H I):=dR λx c=>(af x).mp<|Lg _ c
 have lr:ap I H:=λx c=>lv x<|(af x).mp<|Lg _ c
 have ga:but H I a=some (.ins C dx<|iY v0 sa w2 l st.newest):=by rw [bf bx];exact ha
 have E0:ax (but H I) (L2.start ["self","place","fact","setting","shared_things","pairs"] [.ref a,.int ((n:Nat):Int),v2]) [none,some (.int ((n:Nat):Int)),some (.tup g),none,none,none]:=fB (.raw (.dat (.int _) (.dat (Y.mono G1) .nil))) _
 refine fV (i:=3) lr E0 (bQ (d:=nE<|bC st.cB g []) ⟨st.cB,g,[],rfl,hA.sc,hg.2,(λp hp=>nomatch hp),hA.len,LP _,hA.ne,hg.1,rfl⟩<|aa (gz T.cl T.nA rfl ga rfl<|r0.mono G1)<|aa (aG E0 rfl)<|aa (fg (ds:=pairD []) ag (hz:=LP _)) ag) λa2 H4 o4 s4 l4 E4=>?_
 have c0:a2[0]?=some (some (.ref a)):=o4 0 Z1
 refine ij l4 E4 (c7<|Im<|aG E4 rfl) (λe H5 s5 l5 E5=>?_) λe H5 s5 l5 E5=>?_
 .obtain ⟨m,J⟩:∃m,bC st.cB g []=some m:=by
   cases J:bC st.cB g [] with
   |some m=>exact ⟨m,rfl⟩
   |none=>rw [J] at e;exact absurd e Z1
  have cJ:=B6 J (λt ht=>nomatch ht) hg.2
  have ct:=yU J
  have c1:=hA.len
  rw [J] at E5
  have E5:ax (but H5 I) a2 [none,some (.int ((n:Nat):Int)),some (.tup g),some (.lst<|pairD m),none,none]:=E5
  have a3:=((s4.trans s5).but I) _ _ ga
  have a4:=((s4.trans s5).but I) _ _<|G1 _ _ as
  have c2:(iS m).length<=100:=by unfold iS;rw [Ll];omega
  refine fV (i:=4) l5 E5 (qk<|aa (ae.eq (xU (K:=K) (caps:=a5 [0] 2) (i:=1) (j:=2) Z1 (ps:=iS m) (p:=λq=>decide<|q.1.name∈eY st) (f:=λq=>q.2) (dn<|(aG E5 rfl).eq (by rw [Bh])) (λG' v1 v2 q sG hq r1 Y=>?_) (λG' v1 v2 q sG hq _ r1 Y=>cA (by simp [a5]) Y)<|cp Z4) (by rw [IZ])) ag) λc3 H6 o6 s6 l6 E6=>?_
  .obtain ⟨t,ht,rfl⟩:=LG.mp hq
   exact Fe (n:=t.1) (a:=a) T.cl T.nS (by simp [a5,c0]) (sG _ _ a3) rfl (sG _ _ a4)<|cA (by simp [a5]) r1
  have d0:=(o6 0 Z1).trans c0
  have b0:=(s6.but I) _ _ a3
  have b6:=(s6.but I) _ _ a4
  refine fV (i:=5) l6 E6 (ae.eq (xU (K:=K) (caps:=a5 [0] 2) (i:=1) (j:=2) Z1 (ps:=iS m) (p:=λq=> !decide (q.1.name∈eY st)) (f:=λq=>.tup [q.1,q.2]) (dn<|(aG E6 rfl).eq (by rw [Bh])) (λG' v1 v2 q sG hq r1 Y=>?_) (λG' v1 v2 q sG hq _ r1 Y=>aR<|aa (cA (by simp [a5]) r1)<|aa (cA (by simp [a5]) Y) ag)<|cp Z4) (by rw [Ih])) λbc H7 o7 s7 l7 E7=>?_
  .obtain ⟨t,ht,rfl⟩:=LG.mp hq
   exact F4 (n:=t.1) (a:=a) T.cl T.nS (by simp [a5,d0]) (sG _ _ b0) rfl (sG _ _ b6)<|cA (by simp [a5]) r1
  have S7:ab H H7:=s4.trans<|s5.trans<|s6.trans s7
  have e0:bc[0]?=some (some (.ref a)):=(o7 0 Z1).trans d0
  have aj:=S7 _ _ ha
  have b7:ax (but H7 Z) bc [none,some (.int ((n:Nat):Int)),some (.tup g),some (.lst<|pairD m),some (.tup<|dm (eY st) m),some (.lst<|pairD<|restOf (eY st) m)]:=by
   have:=E7.eW aj rfl
   rw [jv af] at this
   exact this
  have b8:but H7 (ls++l::Z)=but H7 Z:=jv<|sV a0 a1
  have cd:ap (ls++l::Z) H7:=λx c=>(lv.same S7) x<|(sV a0 a1 x).mp c
  have L:=b7
  rw [<-b8] at L
  refine KO (K:=K) (to:=kz K (aY 0) "offers") (ty:=aY 4) (te:=sZ<|bn (aY 1)<|bn (aY 5) bB) (M:=Z) (o:=(n,restOf (eY st) m)) (key:=dm (eY st) m) cd (λQ q=>⟨.ref a,e0,a,C,dx,_,.ref l,rfl,aj,T.cl,T.nO,rfl,q⟩) (hO.same S7) (Hf cJ _) hz (aG L (i:=4) rfl) (aR<|aa (aG L (i:=1) rfl)<|aa (aG L (i:=5) rfl) ag) λk H8 n8 i8 k8 l8 O8=>?_
  have N:a≠l:=λz=>by
   obtain ⟨c4,O,_⟩:=hO.kvs
   rw [<-z,ha] at O;cases O
  have bd:a∉ls:=λz=>by
   obtain ⟨vs,O⟩:=hO.lists a z
   rw [ha] at O;cases O
  have bi:=k8 _ _ N bd aj
  have am:a∉k:=λz=>by
   obtain ⟨vs,O⟩:=O8.lists a z
   rw [bi] at O;cases O
  obtain ⟨u1,bk,ch⟩:=E7.get 1 _ rfl
  have co:=ch.dL
  subst co
  refine ⟨.int ((n:Nat):Int),bk,.ref a,e0,a,C,dx,_,rfl,bi,T.cl,T.nN,(show 5<1000 by decide),?_⟩
  have U:∀x∈a::l::k,x∈os\/H x=none:=λx c=>by
   rw [G]
   rcases Lw.mp c with z|z
   .exact .inl (by rw [z];simp)
   .rcases Lw.mp z with z|z
    .exact .inl (by rw [z];simp)
    .rcases n8 x z with w|w
     .exact .inl (by simp [w])
     .refine .inr ?_
      cases qq:H x with
      |none=>rfl
      |some u=>rw [S7 _ _ qq] at w;cases w
  have bl:∀x∈os,x∈a::l::k:=λx c=>by
   rw [G] at c
   rcases Lw.mp c with z|z
   .rw [z];simp
   .rcases Lw.mp z with z|z
    .rw [z];simp
    .exact Lg _<|Lg _<|i8 x z
  have bs:∀b u,b∉os->H b=some u->upd H8 a (.ins C dx<|iY v0 sa w2 l ((n:Nat):Int)) b=some u:=λb u hb qb=>by
   rw [G] at hb
   simp only [Lw,Qh] at hb
   rw [aA hb.1]
   exact k8 b u hb.2.1 hb.2.2<|S7 _ _ qb
  have SZ:ab (but H Z) (but (upd H8 a (.ins C dx<|iY v0 sa w2 l ((n:Nat):Int)))<|(a::l::k)++Z):=xg U v bs
  have O9:eF (upd H8 a (.ins C dx<|iY v0 sa w2 l ((n:Nat):Int))) ((a::l::k)++Z) l k (st.of++[(dm (eY st) m,(n,restOf (eY st) m))]):=by
   have hc:∀x,x∈k++l::Z↔x∈k++l::((a::l::k)++Z):=λx=>by
    simp only [LI,Lw]
    constructor
    .rintro (z|z|z)
     .exact .inl z
     .exact .inr (.inl z)
     .exact .inr (.inr (.inr z))
    .rintro (z|z|(z|z|z)|z)
     .exact .inl z
     .exact .inr (.inl z)
     .exact .inr (.inr (by rw [z];exact aZ))
     .exact .inr (.inl z)
     .exact .inl z
     .exact .inr (.inr z)
   refine (O8.IQ hc).frame Z8 (λx c=>by simp [c]) Z8 (λx c=>by simp [c]) (λb u hb qb=>?_) ?_
   .rw [aA]
    .exact qb
    .intro z
     rcases Lw.mp hb with w|w
     .exact N (by rw [<-z,w])
     .exact am (by rw [<-z];exact w)
   .rw [dw Z8]
    exact ab.refl _
  refine q (a::l::k) _ U bl bs (λx c=>?_) ?_
  .refine (l8.upd (a:=a)) x ?_
   rcases LI.mp c with z|z
   .rcases Lw.mp z with z|z
    .rw [z];exact Lr _<|Lg _ aZ
    .rcases Lw.mp z with z|z
     .rw [z];exact Lr _ Lj
     .exact Lu _ z
   .exact Lr _<|Lg _ z
  .have eS:cD st n g={st with of:=st.of++[(dm (eY st) m,(n,restOf (eY st) m))],newest:=n}:=by unfold cD;rw [J]
   rw [eS]
   exact ⟨⟨dx,v0,sa,w2,l,k,oS,rfl,aN,r0.mono SZ,SZ _ _ as,rg.mono SZ,O9⟩⟩
 .have J:bC st.cB g []=none:=by
   cases J:bC st.cB g [] with
   |none=>rfl
   |some m=>rw [J] at e;exact absurd e (by simp [nE])
  have S5:=s4.trans s5
  have eS:cD st n g=st:=by unfold cD;rw [J]
  have hc:∀x,x∈os++Z↔x∈Z:=λx=>⟨λh=>by
   rcases LI.mp h with z|z
   .exact v x z
   .exact z,λh=>Lr _ h⟩
  refine q os H5 (λx c=>.inl c) (λx c=>c) (λb u _ qb=>S5 _ _ qb) (λx c=>(lv.same S5) x<|(hc x).mp c) ?_
  rw [eS]
  refine an.frame v (λx c=>Lu _ c) (λb u _ qb=>S5 _ _ qb) ?_
  rw [jv hc]
  exact S5.but Z
end
end a7
namespace a7
open PySem L2 FL
section
variable {P:Program}{w:World}{K:PySem.W.Frag}{mg:Str->Option Value}{base:Heap}{f:Addr}{fd:FuncData}
def vo:bV ["self","setting","guard","slots"] ["self","setting"] (be lp):=⟨rfl,rfl,rfl,Z9,rfl,Z9,Z9⟩
def JB(F:aI K "allows" "Step.allows" lp f fd)(T:ky K C)(B:Bl mg)(k:a6 P w K mg base 1 "filled" ["atom","setting"] (bA oX))(l:a6 P w K mg base 1 "holds" ["guard"] (bA qU)):bp P w K mg base bD 2 f fd ["self","setting"] (vG C):=by
 refine F.ok vo (λvs H Q E q0=>by obtain ⟨_,_,_,_,_,e,_⟩:=q0;rw [e];rfl) λa2 A ac s H vs Q E hr h=>?_
 obtain ⟨M,st,S,v0,v1,rfl,lv,af,r1,hS,hg,q⟩:=h
 obtain ⟨a,dx,w0,sa,w3,ao,oS,rfl,ga,g0,g1,g3,g2⟩:=af
 refine ⟨_,(aD (cO LM rfl (ck<|dB (pv 0) rfl) (ml rfl<|fb (bq 2 vo.nd)<|fb (bq 3 vo.nd) jM)<|aE<|cx (gg<|dN<|bI l hr<|ak (bI k hr<|ak (pv 2)<|ak (fh ["setting","slot"] [1] 1 (ck<|pv 3) (λ_ _ _ _ _=>(bq 1 (show (["setting","slot"]:ZY).Nodup from by decide+kernel))) (λ_ _ _ _ _=>iG) λ_ _ _ _ _=>(m6 (pv 0)<|pv 1)) ar) ar) (aE<|bE eh) cM)
   (aE<|bE eh)),?_⟩
 have E0:ax (but H M) (L2.start ["self","setting","guard","slots"] [.ref a,v1]) [none,some (.lst<|pairD S),none,none]:=fB (.raw (.dat r1 .nil)) _
 refine gK (M:=M) (ds:=st.gs.map k9) (dn<|gz T.cl T.nG rfl ga rfl g3) lv λH1 I=>?_
 refine ⟨λj b G=>ab H1 G/\b[0]?=some (some (.ref a))/\ax (but G M) b [none,some (.lst<|pairD S),none,none]/\eV S (st.gs.take j)=true,⟨ab.refl _,rfl,E0.same I,rfl⟩,λj b G q3=>by obtain ⟨x,_⟩:=q3;exact ⟨x.but M,(lv.same I).same x⟩,?_,?_⟩
 .rintro j d x b G J o ⟨L,i0,E',c⟩ Y rx
  obtain ⟨g,t,rfl⟩:∃g,st.gs[j]?=some g/\d=k9 g:=by
   rw [LA] at o
   cases e:st.gs[j]? with
   |none=>rw [e] at o;cases o
   |some y=>rw [e] at o;exact ⟨y,rfl,(LB o).symm⟩
  obtain ⟨⟨r,a1,b1,eg,N,O,aj⟩,hi,hz⟩:=hg g<|Lp t
  refine nZ rx λu1 u2 q1 q2=>?_
  have E3:ax (but J M) ((b.set 2<|some u1).set 3<|some u2) [none,some (.lst<|pairD S),some (.tup g.1),some (.lst<|g.2.map λn=>D.int (n:Nat))]:=((E'.same Y).set 2 q1).set 3 q2
  have l3:ap M J:=(lv.same<|I.trans L).same Y
  obtain ⟨vS,am,rS⟩:=E3.get 1 _ rfl
  have hp:=yA hS hi
  have cJ:∀y∈g.1,y.sc=true:=λy hy=>by
   rw [eg] at hy
   simp only [Lw,L1,Mo] at hy
   rcases hy with rfl|rfl|rfl
   .rfl
   .exact N
   .exact O
  have an:bY (ee S g.2) (.str r)=.str r:=by
   refine ka ?_
   cases e:eM (ee S g.2) (.str r) with
   |false=>rfl
   |true=>
    obtain ⟨p,u,e2⟩:=Oq.mp e
    have e2:D.str p.1=.str r:=LD e2
    have:=(hp p u).2
    rw [e2,aj] at this;cases this
  have m:g.1.map (bY<|ee S g.2)=[.str r,bY (ee S g.2) a1,bY (ee S g.2) b1]:=by
   rw [eg,Me,Me,Me,an];rfl
  have z:∀p∈ee S g.2,p.2.sc=true:=λp u=>(hp p u).1
  have U:holdsA (g.1.map<|bY<|ee S g.2)=holdsD r (bY (ee S g.2) a1) (bY (ee S g.2) b1):=by rw [m];rfl
  have as:=bQ (R:=qU) (E:=L2.E0) (d:=.bl<|holdsA<|g.1.map<|bY<|ee S g.2) (ds:=[.tup<|g.1.map<|bY<|ee S g.2]) ⟨r,_,_,by rw [m],(kT N z).2,(kT O z).2,by rw [U]⟩
   (aa (bQ (R:=oX) (E:=L2.E0) (ds:=[.tup g.1,.lst<|pairD<|ee S g.2]) ⟨g.1,ee S g.2,rfl,cJ,z,by rw [eg];exact (show 3<=1000 by decide),rfl⟩<|aa (aG E3 (i:=2) rfl)<|aa (ae.eq (gk (caps:=a5 [1] 1) (i:=1) (p:=λ_=>true) (f:=λd=>match d with|.int n=>Cn (S.getD n.toNat (("":Str),.aq))|_=>.aq) (tt:=j7) (te:=bZ (gS K) (aY 0)<|aY 1) (dn (K:=K)<|aG E3 (i:=3) rfl) (λG' v d _ _ _=>jn) (λG' v d sG o _ rv=>?_) (by rw [Ll];exact cp Z4)) ?_) ag) ag)
  .refine ij l3 E3 (f6<|dP as) (λe H4 s4 l4 E4=>?_) (λe H4 s4 l4 E4=>nx ?_)
   .have hf:eV S st.gs=false:=by
     unfold eV
     rw [List.all_eq_false]
     exact ⟨g,Lp t,by simpa using e⟩
    rw [hf] at q
    exact q H4<|I.trans<|L.trans<|Y.trans s4
   .refine ⟨L.trans<|Y.trans s4,?_,(E4.drop 2).drop 3,?_⟩
    .rw [Lm Z1,Lm Z1];exact i0
    .unfold eV at c⊢
     rw [L0,t,List.all_append,c]
     simpa using e
  .obtain ⟨n,hn,rfl⟩:=LG.mp o
   have a0:=hi n hn
   have h0:((a5 [1] 1<|(b.set 2<|some u1).set 3<|some u2).set 1<|some v)[0]?=some (some vS):=by simp only [a5,Me,Ow,am];rfl
   have h1:((a5 [1] 1<|(b.set 2<|some u1).set 3<|some u2).set 1<|some v)[1]?=some (some v):=by simp [a5]
   refine cP (ds:=pairD S) ?_ (cA h0<|rS.mono sG)<|cA h1 rv
   refine me Z4 ?_
   show (pairD S)[n]?=some (Cn<|S.getD n (("":Str),.aq))
   unfold pairD
   rw [LA,List.getD,Lk a0]
   rfl
  .rw [Mp.mpr λ_ _=>rfl]
   unfold ee pairD
   rw [Mb,Mb]
   rfl
 .rintro b G ⟨L,i0,E',c⟩
  rw [Ll,LS<|Lo _] at c
  rw [c] at q
  exact q G<|I.trans L
def kg:bV ["self","way","lowest","setting","places","shared_things","found","place","pairs","further"] ["self","way","lowest"] (be mn):=⟨rfl,rfl,rfl,Z9,rfl,Z9,Z9⟩
def Ii(F:aI K "carry_on" "Step.carry_on" mn f fd)(T:ky K C)(B:Bl mg)(t:d7 P w K mg base 2 C "allows" ["self","setting"] (vG C)):bp P w K mg base bD 3 f fd ["self","way","lowest"] (vY C):=by
 refine F.ok kg (λvs H Q E q0=>by obtain ⟨_,_,_,_,_,_,e,_⟩:=q0;rw [e];rfl) λeg A cd s H vs Q E hr h=>?_
 obtain ⟨M,st,w0,lo,v0,v1,rfl,lv,an,r1,hS,a0,a1,Y,q⟩:=h
 obtain ⟨a,dx,w1,sa,w3,ao,oS,rfl,ga,g0,gs,g3,g2⟩:=id an
 have ch:=fJ hr
 have mx:=T.cl
 refine ⟨_,(aD (bj 3 kg.nd<|bG (pv 1) aO)
   (aD (bj 4 kg.nd<|bG (pv 1) aO)
   (aD (bj 5 kg.nd<|sK B<|fh ["setting","slot"] [3] 1 (GQ<|GJ<|dB (pv 0) rfl) (λ_ _ _ _ _=>(bq 1 (show (["setting","slot"]:ZY).Nodup from by decide+kernel))) (λ_ _ _ _ _=>iG) λ_ _ _ _ _=>(m6 (m6 (pv 0)<|pv 1) aO))
   (aD (bj 6 kg.nd<|dj ar)
   (aD (cO LM rfl (KN B.reversed<|ak (sT ch (dB (pv 0) rfl) (pv 5) (dj ar) ⟨rfl,rfl,rfl,rfl⟩) ar) (ml rfl<|fb (bq 7 kg.nd)<|fb (bq 8 kg.nd) jM) (aD (cx (cX m5 (pv 7)<|pv 2) (aE FS) cM)
   (aD (bj 9 kg.nd<|cC qc (pv 3)<|pv 8)
   (aE<|cx (dN<|jH (pv 0) mx t hr<|ak (pv 9) ar) (aE<|iZ (pv 6)<|eE<|ak (pv 9)<|ak (cC AR (pv 4)<|eE<|ak (pv 7) ar) ar) cM))))
   (aE<|bE<|pv 6)))))),?_⟩
 have E0:ax (but H M) (L2.start ["self","way","lowest","setting","places","shared_things","found","place","pairs","further"] [.ref a,v1,.int lo]) [none,some<|cQ w0,some (.int lo),none,none,none,none,none,none,none]:=fB (.raw (.dat r1 (.dat (.int lo) .nil))) _
 obtain ⟨S,c⟩:=w0
 have hS:jb S:=hS
 have a0:S.length<=500:=a0
 have a1:c.length<=500:=a1
 have Y:j8 S.length st:=Y
 refine fV (i:=3) lv E0 (cv (ds:=[.lst<|pairD S,.tup<|c.map λn=>D.int (n:Nat)]) (d:=.lst<|pairD S) jr (aG E0 rfl) av) λei H1 o1 s1 l1 E1=>?_
 refine fV (i:=4) l1 E1 (cv (ds:=[.lst<|pairD S,.tup<|c.map λn=>D.int (n:Nat)]) (d:=.tup<|c.map λn=>D.int (n:Nat)) rfl (aG E1 rfl) av) λac H2 o2 s2 l2 E2=>?_
 have a2:ac[0]?=some (some (.ref a)):=(o2 0 Z1).trans<|(o1 0 Z1).trans rfl
 have a3:ab (but H M) (but H2 M):=(s1.trans s2).but M
 obtain ⟨vS,co,rS⟩:=E2.get 3 _ rfl
 have cs:(fH st.shared).map (·.2)=(st.shared.map λp=>((p.2:Nat):Int)).map V.int:=by unfold fH;rw [Mb,Mb];rfl
 refine fV (i:=5) (d:=.tup<|fG S<|gi st) l2 E2 (qk<|aa (ae.eq (gk (caps:=a5 [3] 1) (i:=1) (p:=λ_=>true) (f:=λd=>match d with|.int n=>(S.getD n.toNat (("":Str),.aq)).2|_=>.aq) (tt:=j7) (te:=bZ (gS K) (bZ (gS K) (aY 0)<|aY 1)<|tC (.int 1)) (F2 (kL T.cl T.nS a2 (a3 _ _ ga) rfl) (a3 _ _ gs) cs) (λG' v d _ _ _=>jn) (λG' v d sG hd _ rv=>?_) (by rw [Ll,Ll];have:=Y.shl;exact cp Z4)) ?_) ag) λej H3 o3 s3 l3 E3=>?_
 .obtain ⟨z,ct,rfl⟩:=LG.mp hd
  obtain ⟨p,c1,rfl⟩:=LG.mp ct
  have af:=Y.sh p.2<|LG.mpr ⟨p,c1,rfl⟩
  generalize p.2=n at af rv
  have h0:((a5 [3] 1 ac).set 1<|some v)[0]?=some (some vS):=by simp only [a5,Me,Ow,co];rfl
  have h1:((a5 [3] 1 ac).set 1<|some v)[1]?=some (some v):=by simp [a5]
  have hp:(pairD S)[n]?=some (.tup [.str S[n].1,S[n].2]):=by unfold pairD;rw [LA,Lk af];rfl
  have hg:S.getD n (("":Str),.aq)=S[n]:=by rw [List.getD,Lk af];rfl
  refine ae.eq (cv (ds:=[.str S[n].1,S[n].2]) (d:=S[n].2) rfl (cP (ds:=pairD S) (d:=.tup [.str S[n].1,S[n].2]) (me (i:=(n:Int)) Z4 (by rw [Nn];exact hp)) (cA h0<|rS.mono sG)<|cA h1 rv) av) ?_
  show S[n].2=(S.getD (n:Int).toNat (("":Str),.aq)).2
  rw [Nn,hg]
 .show D.lst _=D.lst (fG S<|gi st)
  rw [Mp.mpr λ_ _=>rfl]
  unfold fG ee gi
  rw [Mb,Mb,Mb,Mb]
  rfl
 have a4:=Fq hS Y.sh
 refine m4 (i:=6) l3 E3 Z8 ag (LP _) λb c2 c3 H5 o5 i5 n5 h5 r5 l5 k5 E5=>?_
 have bc:ab H H5:=(s1.trans<|s2.trans s3).trans λb o e=>(k5 b o e).2
 have aj:H b=none:=none_of (s1.trans<|s2.trans s3) k5
 have SG:ab (but H M) (but H5 (b::M)):=gX aj bc
 have bd:c3[0]?=some (some (.ref a)):=(o5 0 Z1).trans<|(o3 0 Z1).trans a2
 generalize bi:fG S (gi st)=m at a4 E5 q
 unfold ff at q
 rw [show fG ((S,c):aF).1 (gi st)=m from bi] at q
 have c4:((eJ st.of m).reverse).length<=st.of.length:=by rw [OY];exact LZ _ _
 have bk:∀o∈(eJ st.of m).reverse,o∈st.of:=λo hm=>(Ly.mp<|M4.mp hm).1
 have bl:(hU st.of m).reverse=((eJ st.of m).reverse).map λo=>mN o.2:=by unfold hU;rw [PF]
 generalize (eJ st.of m).reverse=L at q c4 bk bl
 refine gK (M:=b::M) (ds:=L.map λo=>mN o.2) (by
  have:=Hn (K:=K) (aa (GC T.cl T.nO bd (SG _ _ ga) rfl (g2.mono SG) a4<|aG E5 (i:=5) rfl) ag)
  rw [bl] at this
  exact this) l5 λH6 s6=>?_
 refine ⟨λj k J=>∃ws,k[0]?=some (some (.ref a))/\k[6]?=some (some (.ref b))/\J b=some (.lst ws)/\az (but J (b::M)) ws (((L.take j).map<|fk (S,c)).filter (λx=>eV x.1 st.gs)|>.map cQ)/\ab H J/\ap (b::M) J/\ab (but H6 (b::M)) (but J (b::M))/\ax (but J (b::M)) k [none,some<|cQ (S,c),some (.int lo),some (.lst<|pairD S),some (.tup<|c.map λn=>D.int (n:Nat)),some (.tup m),none,none,none,none]/\∀o∈L.take j,fresh lo o=true,
  ⟨c2,bd,i5,s6 _ _ h5,r5.mono<|s6.but _,bc.trans s6,l5.same s6,ab.refl _,E5.same s6,λo hm=>by simp at hm⟩,λj k J q3=>by obtain ⟨_,_,_,_,_,_,x,y,_,_⟩:=q3;exact ⟨y,x⟩,?_,?_⟩
 .rintro j d x k J bs hd ⟨ws,j0,j5,hb,rb,S0,l',S',E',u⟩ r rx
  obtain ⟨o,G,rfl⟩:∃o,L[j]?=some o/\d=mN o.2:=by
   rw [LA] at hd
   cases e:L[j]? with
   |none=>rw [e] at hd;cases hd
   |some y=>rw [e] at hd;exact ⟨y,rfl,(LB hd).symm⟩
  have dc:=Lp G
  have am:=Y.of o<|bk o dc
  have ek:=(Li.mp G).1
  have ed:=Y.wX
  refine nZ rx λu1 u2 q1 q2=>?_
  have E7:ax (but bs (b::M)) ((k.set 7<|some u1).set 8<|some u2) [none,some<|cQ (S,c),some (.int lo),some (.lst<|pairD S),some (.tup<|c.map λn=>D.int (n:Nat)),some (.tup m),none,some (.int (o.2.1:Nat)),some (.lst<|pairD o.2.2),none]:=((E'.same r).set 7 q1).set 8 q2
  have l7:=l'.same r
  have c0:((k.set 7<|some u1).set 8<|some u2)[0]?=some (some (.ref a)):=by rw [Lm Z1,Lm Z1];exact j0
  have c5:((k.set 7<|some u1).set 8<|some u2)[6]?=some (some (.ref b)):=by rw [Lm Z1,Lm Z1];exact j5
  have dd:pairD S++pairD o.2.2=pairD (S++o.2.2):=by unfold pairD;rw [LU]
  have bt:∀ps:aP,(pairD ps).length=ps.length:=λps=>by unfold pairD;rw [Ll]
  refine ij l7 E7 (c7<|mP (aG E7 rfl)<|aG E7 rfl) (λe bx I b0 N=>?_) λe bx I b0 N=>?_
  .have di:fresh lo o=false:=by
    have h1:=LD e
    unfold FL.fresh
    exact LR Z4
   refine ⟨.ref b,c5,q (.ref b) bx (S0.trans<|r.trans I)<|lS n5 (I _ _<|r _ _ hb) ?_⟩
   rw [zF u G di]
   exact rb.mono<|(r.trans I).but _
  refine nx ?_
  have b6:fresh lo o=true:=by
   have h1:=Mu e
   unfold FL.fresh
   exact LH Z4
  have U:∀x∈L.take (j+1),fresh lo x=true:=λx hx=>by
   rw [L0,G] at hx
   rcases LI.mp hx with z|z
   .exact u x z
   .have:x=o:=by simpa using z
    rw [this];exact b6
  refine fV (i:=9) b0 N ((oK (by rw [bt,bt];have:=am.2.1;omega) (aG N rfl)<|aG N rfl).eq (by rw [dd])) λem H8 o8 s8 l8 E8=>?_
  have l:ab bs H8:=I.trans s8
  have d0:=(o8 0 Z1).trans c0
  have d5:=(o8 6 Z1).trans c5
  have dp:jb (S++o.2.2):=λp hp=>by
   rcases LI.mp hp with z|z
   .exact hS p z
   .exact am.1 p z
  have dt:ab (but H M) (but H8 (b::M)):=gX aj<|S0.trans<|r.trans l
  have tk:(L.take<|j+1).map (fk (S,c))=(L.take j).map (fk (S,c))++[(S++o.2.2,c++[o.2.1])]:=by
   rw [L0,G,LU];rfl
  refine ij l8 E8 (JJ d0 (an.mono dt) dp (λg hg=>by rw [LC];exact am.2.2 g hg)<|aG E8 rfl) (λe H9 O l9 E9=>?_) λe H9 O l9 E9=>nx ?_
  .have d1:∀(L:List aF),((L.filter λx=>eV x.1 st.gs).map cQ).length<=L.length:=λL=>by rw [Ll];exact LZ _ _
   have b7:=d1<|(L.take j).map<|fk (S,c)
   rw [Ll (as:=List.take j L),L9] at b7
   refine tM l9 E9 (a:=b) Z8 d5 (O _ _<|l _ _<|r _ _ hb) (rb.mono<|(r.trans<|l.trans O).but _) (cp<|LN b7 Z4) (aR<|aa (aG E9 rfl)<|aa (zU (by simp;omega) (aG E9 rfl)<|aR<|aa (aG E9 rfl) ag) ag) λen d2 b8 d3 d4 ea eb=>?_
   have ec:ab (but H9 (b::M)) (but d2 (b::M)):=lD Z8 b8
   refine ⟨_,d0,d5,d4,?_,mJ (S0.trans<|r.trans<|l.trans O) aj b8,d3,S'.trans<|((r.trans<|l.trans O).but _).trans ec,((eb.drop 7).drop 8).drop 9,U⟩
   rw [tk,MD,LU]
   have e1:List.map cQ (List.filter (λx=>eV x.1 st.gs) [((S++o.2.2,c++[o.2.1]):aF)])=[cQ (S++o.2.2,c++[o.2.1])]:=by simp [e]
   rw [e1]
   have e2:cQ (S++o.2.2,c++[o.2.1])=.tup [.lst<|pairD<|S++o.2.2,.tup<|(c.map λn=>D.int (n:Nat))++[.int (o.2.1:Nat)]]:=by unfold cQ;rw [LU];rfl
   rw [e2]
   exact ea
  .refine ⟨ws,d0,d5,O _ _<|l _ _<|r _ _ hb,?_,S0.trans<|r.trans<|l.trans O,l9,S'.trans<|(r.trans<|l.trans O).but _,((E9.drop 7).drop 8).drop 9,U⟩
   rw [tk,MD,LU]
   have e1:List.map cQ (List.filter (λx=>eV x.1 st.gs) [((S++o.2.2,c++[o.2.1]):aF)])=[]:=by simp [e]
   rw [e1,LV]
   exact rb.mono<|(r.trans<|l.trans O).but _
 .rintro k J ⟨ws,j0,j5,hb,rb,S0,l',S',E',u⟩
  rw [Ll,LS<|Lo _] at rb u
  refine ⟨.ref b,j5,q (.ref b) J S0<|lS n5 hb ?_⟩
  rw [oO u]
  exact rb
end
end a7
namespace a7
open PySem L2 FL
section
variable {P:Program}{w:World}{K:PySem.W.Frag}{mg:Str->Option Value}{base:Heap}{f:Addr}{fd:FuncData}
def jA:bV ["body","waiting","slots","steps","asker","shared","blank","guards"] ["body"] (be qG):=⟨rfl,rfl,rfl,Z9,rfl,Z9,Z9⟩
def GO(F:aI K "steps_for" "steps_for" qG f fd)(B:Bl mg)(L:a6 P w K mg base 2 "guards_in" ["body"] (bA ph))(N:a6 P w K mg base 2 "askers_in" ["body"] (bA um))(c:a6 P w K mg base 2 "blanks_in" ["atom"] (bA nD))(U:a6 P w K mg base 3 "slots_of" ["atom","slots"] (jo uK))(G:a6 P w K mg base 4 "is_ready" ["guard","slots"] (jo Cm))(bc:iU P w K mg base 1 C "Step" ["self","asker","shared","guards"] (BX C)):bp P w K mg base bD 6 f fd ["body"] (yV C):=by
 refine F.ok jA (λvs H Q E q0=>by obtain ⟨_,_,_,e,_⟩:=q0;rw [e];rfl) λf2 A em s H vs Q E hr h=>?_
 obtain ⟨M,O,v0,rfl,lv,r1,hB,q⟩:=h
 have hu:=eC hr
 have bs:=fJ hr
 refine ⟨_,(aD (oH (i:=1) ["guard"] [] 1 jA.nd rfl (Or.inl rfl) (ck<|bI L hr<|ak (pv 0) ar) (λ_ _ _ _ _=>(bq 0<|jP _)) (λ_ _ _ _ _=>(iI<|AC (iN c hr<|ak (pv 0) ar) λ_=>rfl)) λ_ _ _ _ _=>(pv 0))
   (aD (bj 2 jA.nd ro)
   (aD (bj 3 jA.nd<|dj ar)
   (aD (cO LM rfl (ck<|bI N hr<|ak (pv 0) ar) (bq 4 jA.nd) (aD (bj 5 jA.nd<|Hc<|vR B<|fh ["slots","blank"] [2] 1 (ck<|bI c hr<|ak (pv 4) ar) (λ_ _ _ _ _=>(bq 1 (show (["slots","blank"]:ZY).Nodup from by decide+kernel))) (λ_ _ _ _ _=>(iI<|jt<|tY (by exact bs) (pv 1)<|pv 0)) λ_ _ _ _ _=>(eE<|ak (pv 1)<|ak (CC (by exact bs) (pv 0) (pv 1) λ_ _=>rfl) ar))
   (aD (cO LM rfl (ck<|bI c hr<|ak (pv 4) ar) (bq 6 jA.nd)<|aE<|il<|zR bs (pv 2) (pv 6) (x8 B<|pv 2) ⟨rfl,rfl,rfl,rfl⟩)
   (aD (oH (i:=7) ["slots","guard"] [2] 1 jA.nd rfl (Or.inl rfl) (ck<|pv 1) (λ_ _ _ _ _=>(bq 1 (show (["slots","guard"]:ZY).Nodup from by decide+kernel))) (λ_ _ _ _ _=>(iI<|dN<|iN G hr<|ak (pv 1)<|ak (pv 0) ar)) λ_ _ _ _ _=>(eE<|ak (pv 1)<|ak (iN U hr<|ak (pv 1)<|ak (pv 0) ar) ar))
   (aD (oH (i:=1) ["slots","guard"] [2] 1 jA.nd rfl (Or.inl rfl) (ck<|pv 1) (λ_ _ _ _ _=>(bq 1 (show (["slots","guard"]:ZY).Nodup from by decide+kernel))) (λ_ _ _ _ _=>(iI<|gg<|dN<|iN G hr<|ak (pv 1)<|ak (pv 0) ar)) λ_ _ _ _ _=>(pv 1))
   (aE<|iZ (pv 3)<|vE bc hr<|ak (pv 4)<|ak (pv 5)<|ak (pv 7) ar))))))
   (aE<|bE<|pv 3))))),?_⟩
 have E0:ax (but H M) (L2.start ["body","waiting","slots","steps","asker","shared","blank","guards"] [v0]) [some<|cq O,none,none,none,none,none,none,none]:=fB (.dat r1 .nil) _
 have en:(O.filter aK).length<=100:=LN (LZ _ _) hB.2
 refine fV (i:=1) (d:=ci<|(O.filter aK).filter c6) lv E0 (ae.eq (gk (caps:=a5 [] 1) (i:=0) (p:=rE c6) (f:=λd=>d) (dn (ds:=(O.filter aK).map D.tup)<|bQ ⟨O,rfl,hB.1,hB.2,rfl⟩<|aa (aG E0 rfl) ag) (λG' v d sG J r=>?_) (λG' v d sG J _ r=>cA (by simp [a5]) r) (by rw [Ll];exact cp Z4)) ?_) λf3 H1 o1 s1 l1 E1=>?_
 .obtain ⟨g,hg,rfl⟩:=LG.mp J
  exact zL<|bQ (d:=fA<|ai [] g) ⟨g,rfl,hB.1 g (Ly.mp hg).1,rfl⟩<|aa (cA (by simp [a5]) r) ag
 .exact Mq D.lst<|qg _ c6 _ D.tup _ (λ_ _=>rfl) λ_ _=>rfl
 refine vH (i:=2) l1 E1 Z8 λp f4 H2 o2 i2 n2 h2 l2 k2 E2=>?_
 refine m4 (i:=3) l2 E2 Z8 ag (LP _) λb ep er H3 o3 i3 n3 h3 r3 l3 k3 E3=>?_
 have es:er[2]?=some (some (.ref p)):=(o3 2 Z1).trans i2
 obtain ⟨a0,et⟩:=k3 _ _ h2
 have co:ep=[]:=by cases r3;rfl
 subst co
 have cs:ab H1 H2:=λx o e=>(k2 x o e).2
 have eu:ab H2 H3:=λx o e=>(k3 x o e).2
 have ev:ab H H3:=s1.trans<|cs.trans eu
 have ew:H p=none:=none_of s1 k2
 have ct:H b=none:=none_of (s1.trans cs) k3
 have ex:b∉M:=λz=>n3<|Lg _ z
 have ey:(O.filter λa=> !aK a).length<=100:=LN (LZ _ _) hB.2
 have c0:∀a∈(O.filter λa=> !aK a),dz a:=λa ha=>hB.1 a (Ly.mp ha).1
 refine gK (M:=b::p::M) (ds:=(O.filter λa=> !aK a).map D.tup) (dn<|bQ ⟨O,rfl,hB.1,hB.2,rfl⟩<|aa (aG E3 rfl) ag) l3 λH4 s4=>?_
 unfold eG at q
 generalize fv:(O.filter λa=> !aK a)=ac at q ey c0
 have c1:∀g∈(O.filter aK).filter c6,dz g:=λg hg=>hB.1 g (Ly.mp (Ly.mp hg).1).1
 have c2:((O.filter aK).filter c6).length<=100:=LN (LZ _ _) en
 generalize (O.filter aK).filter c6=W0 at q c1 c2 E3
 refine ⟨λj t T=>∃m Wj done us am,cF ac [] W0=done++cF (ac.drop j) m Wj/\m.length<=100*j/\done.length<=j/\(∀g∈Wj,dz g)/\Wj.length<=100/\t[2]?=some (some (.ref p))/\t[3]?=some (some (.ref b))/\T p=some (.dK<|dJ m)/\T b=some (.lst us)/\ge C (but T (b::p::M)) us am done/\(∀os∈am,∀x∈os,H x=none)/\ab H T/\ap (b::p::M) T/\ab (but H4 (b::p::M)) (but T (b::p::M))/\ax (but T (b::p::M)) t [some<|cq O,some<|ci Wj,none,none,none,none,none,none],
  ⟨[],W0,[],[],[],rfl,Lo _,Lo _,c1,c2,es,i3,s4 _ _ et,s4 _ _ h3,.nil,(λos ho=>nomatch ho),ev.trans s4,l3.same s4,ab.refl _,E3.same s4⟩,λj t T q1=>by obtain ⟨_,_,_,_,_,_,_,_,_,_,_,_,_,_,_,_,_,x,y,_⟩:=q1;exact ⟨y,x⟩,?_,?_⟩
 .rintro j d x t T bt J ⟨m,Wj,done,us,am,I,ez,e0,a1,bi,j3,j4,hp,hb,a2,a3,S0,l',S',E'⟩ s5 rx
  obtain ⟨a,c3,rfl⟩:∃a,ac[j]?=some a/\d=.tup a:=by
   rw [LA] at J
   cases e:ac[j]? with
   |none=>rw [e] at J;cases J
   |some y=>rw [e] at J;exact ⟨y,rfl,(LB J).symm⟩
  have bx:=c0 a<|Lp c3
  obtain ⟨e1,e2⟩:=Li.mp c3
  rw [Nk e1,e2] at I
  have E5:ax (but bt (b::p::M)) (t.set 4<|some x) [some<|cq O,some<|ci Wj,none,none,some (.tup a),none,none,none]:=(E'.same s5).set 4 rx
  have b3:(t.set 4<|some x)[2]?=some (some (.ref p)):=(Lm Z1).trans j3
  have b4:(t.set 4<|some x)[3]?=some (some (.ref b)):=(Lm Z1).trans j4
  have c4:=s5 _ _ hp
  have l5:=l'.same s5
  have lV:∀{X:Hp},ap (b::p::M) X->ap (b::M) X:=λl z hz=>l z (by
   rcases Lw.mp hz with w|w
   .rw [w];exact Lj
   .exact Lg _<|Lg _ w)
  have pV:p∉b::M:=λz=>by
   rcases Lw.mp z with z|z
   .exact a0 z
   .exact n2 z
  have c5:(ai [] a).Nodup:=xF NA
  have e3:=jS a []
  rw [Nq] at e3
  have f0:=bx.len
  have dc:but bt (b::M) p=some (.dK<|dJ m):=by rw [bf pV];exact c4
  refine Ko (i:=5) (M:=b::M) (ps:=((ai [] a).filter λb=>decide<|b∈m).map λb=>(b,D.int (m.idxOf b:Nat))) (lV l5) (E5.mono uu) Z8 (ae.eq (gk (caps:=a5 [2] 1) (i:=1) (p:=λd=>decide<|d.name∈m) (f:=λd=>.tup [d,.int (m.idxOf d.name:Nat)]) (dn (ds:=(ai [] a).map D.str)<|bQ ⟨a,rfl,bx,rfl⟩<|aa (aG (E5.mono uu) rfl) ag) (λG' v d sG J r=>?_) (λG' v d sG J e4 r=>?_) (by rw [Ll];exact cp Z4)) ?_) (λz hz=>?_) ?_ λsa oS b0 H7 o7 i7 n7 m7 h7 s7 f5 E7=>?_
  .obtain ⟨n,hn,rfl⟩:=LG.mp J
   exact BJ (n:=n) (a:=p) (by simp [a5,b3]) (sG _ _ dc)<|cA (by simp [a5]) r
  .obtain ⟨n,hn,rfl⟩:=LG.mp J
   exact aR<|aa (cA (by simp [a5]) r)<|aa (Aj (n:=n) (a:=p) (by simp [a5,b3]) (sG _ _ dc) (LD e4)<|cA (by simp [a5]) r) ag
  .unfold pairD
   rw [Nb,Mb,Mb]
   rfl
  .obtain ⟨n,hn,rfl⟩:=LG.mp hz
   rfl
  .rw [Mb]
   show (List.map (λb=>b) _).Nodup
   rw [OB]
   exact P5 _ c5
  have e5:bK (((ai [] a).filter λb=>decide<|b∈m).map λb=>(b,D.int (m.idxOf b:Nat)))=fH (jc a m):=by
   unfold bK fH jc
   rw [Mb,Mb]
   rfl
  rw [e5] at h7
  have d3:b0[2]?=some (some (.ref p)):=(o7 2 Z1).trans b3
  have d4:b0[3]?=some (some (.ref b)):=(o7 3 Z1).trans b4
  have b6:=s7 _ _ c4
  have l7:ap (b::p::M) H7:=l5.same s7
  have dd:ax (but H7 (b::p::M)) b0 [some<|cq O,some<|ci Wj,none,none,some (.tup a),none,none,none]:=zJ E7 b6
  have bk:sa≠p:=λz=>by rw [z,b6] at h7;cases h7
  have di:sa≠b:=λz=>m7 (by rw [z];exact Lj)
  have dp:sa∉M:=λz=>m7<|Lg _ z
  refine gK (M:=b::p::M) (ds:=(ai [] a).map D.str) (dn<|bQ ⟨a,rfl,bx,rfl⟩<|aa (aG dd rfl) ag) l7 λH8 s8=>?_
  refine ⟨λk t T=>t[2]?=some (some (.ref p))/\t[3]?=some (some (.ref b))/\t[5]?=some (some (.ref sa))/\T p=some (.dK<|dJ<|m++((ai [] a).take k).filter λx=> !decide (x∈m))/\(∀z o,z≠p->H8 z=some o->T z=some o)/\ap (b::p::M) T/\ab (but H8 (b::p::M)) (but T (b::p::M))/\ax (but T (b::p::M)) t [some<|cq O,some<|ci Wj,none,none,some (.tup a),none,none,none],
   ⟨d3,d4,i7,by rw [List.take_zero,List.filter_nil,LV];exact s8 _ _ b6,λz o _ e=>e,l7.same s8,ab.refl _,dd.same s8⟩,λk t T q2=>by obtain ⟨_,_,_,_,_,x,y,_⟩:=q2;exact ⟨y,x⟩,?_,?_⟩
  .rintro k d y τ X X' J ⟨t3,t4,t7,tp,tk,tl,tS,tE⟩ s9 ry
   obtain ⟨n,e6,rfl⟩:∃n,(ai [] a)[k]?=some n/\d=.str n:=by
    rw [LA] at J
    cases e:(ai [] a)[k]? with
    |none=>rw [e] at J;cases J
    |some y=>rw [e] at J;exact ⟨y,rfl,(LB J).symm⟩
   have E9:ax (but X' (b::p::M)) (τ.set 6<|some y) [some<|cq O,some<|ci Wj,none,none,some (.tup a),none,some (.str n),none]:=(tE.same s9).set 6 ry
   have w3:(τ.set 6<|some y)[2]?=some (some (.ref p)):=(Lm Z1).trans t3
   refine IY (n:=n) (tl.same s9) E9 Z8 w3 (s9 _ _ tp) ?_ (aG E9 rfl) λY kY lY hY EY=>?_
   .have h1:(m++((ai [] a).take k).filter λx=> !decide (x∈m)).length<=100*j+100:=by
     rw [LC]
     have:=LZ (λx=> !decide (x∈m))<|(ai [] a).take k
     rw [L9] at this
     omega
    exact NI (LN h1 (show 100*j+100<=20000 by omega)) (show 20000<sizeLine by decide)
   .have SY:ab (but X' (b::p::M)) (but Y (b::p::M)):=lD Z8 kY
    refine ⟨w3,(Lm Z1).trans t4,(Lm Z1).trans t7,?_,λz o hz e=>kY z o hz<|s9 _ _<|tk z o hz e,lY,tS.trans<|(s9.but _).trans SY,EY.drop 6⟩
    rw [<-DN c5 e6]
    exact hY
  .rintro τ X ⟨t3,t4,t7,tp,tk,tl,tS,tE⟩
   rw [Ll,LS<|Lo _,<-lu] at tp
   have b7:but X (b::M) p=some (.dK<|dJ<|ai m a):=by rw [bf pV];exact tp
   have dt:(ai m a).length<=100*(j+1):=by have:=jS a m;omega
   have EV:=tE.mono<|uu (p:=p)
   refine fV (i:=7) (M:=b::M) (d:=.lst<|((Wj.filter λg=>cm g<|ai m a).map λg=>(g,cV g<|ai m a)).map k9) (lV tl) EV (ae.eq (gk (caps:=a5 [2] 1) (i:=1) (p:=rE λg=>cm g<|ai m a) (f:=Bb λg=>k9 (g,cV g<|ai m a)) (dn (ds:=Wj.map D.tup)<|aG EV rfl) (λG' v d sG J r=>?_) (λG' v d sG J _ r=>?_) (by rw [Ll];exact cp Z4)) ?_) λga H9 o9 s9 l9 E9=>?_
   .obtain ⟨g,hg,rfl⟩:=LG.mp J
    exact dP<|oT (d:=.bl<|cm g<|ai m a) ⟨g,_,rfl,a1 g hg,rfl⟩<|pC (cA (by simp [a5]) r)<|pZ (a:=p) (by simp [a5,t3]) (sG _ _ b7) pN
   .obtain ⟨g,hg,rfl⟩:=LG.mp J
    exact aR<|aa (cA (by simp [a5]) r)<|aa (oT ⟨g,_,rfl,a1 g hg,rfl⟩<|pC (cA (by simp [a5]) r)<|pZ (a:=p) (by simp [a5,t3]) (sG _ _ b7) pN) ag
   .rw [qg _ (λg=>cm g<|ai m a) _ (λg=>k9 (g,cV g<|ai m a)) _ (λ_ _=>rfl) λ_ _=>rfl,Mb]
    rfl
   have d0:=(s9.but (b::M)) _ _ b7
   have w3:=(o9 2 Z1).trans t3
   refine fV (i:=1) (M:=b::M) (d:=ci<|Wj.filter λg=> !cm g (ai m a)) l9 E9 (ae.eq (gk (caps:=a5 [2] 1) (i:=1) (p:=rE λg=> !cm g (ai m a)) (f:=λd=>d) (dn (ds:=Wj.map D.tup)<|aG E9 rfl) (λG' v d sG J r=>?_) (λG' v d sG J _ r=>cA (by simp [a5]) r) (by rw [Ll];exact cp Z4)) ?_) λd1 Ha oa e7 la Ea=>?_
   .obtain ⟨g,hg,rfl⟩:=LG.mp J
    exact f6<|dP<|oT (d:=.bl<|cm g<|ai m a) ⟨g,_,rfl,a1 g hg,rfl⟩<|pC (cA (by simp [a5]) r)<|pZ (a:=p) (by simp [a5,w3]) (sG _ _ d0) pN
   .exact Mq D.lst<|qg _ (λg=> !cm g (ai m a)) _ D.tup _ (λ_ _=>rfl) λ_ _=>rfl
   have z3:=(oa 2 Z1).trans w3
   have z4:d1[3]?=some (some (.ref b)):=(oa 3 Z1).trans<|(o9 3 Z1).trans t4
   have z5:d1[5]?=some (some (.ref sa)):=(oa 5 Z1).trans<|(o9 5 Z1).trans t7
   have an:=s9.trans e7
   have d2:=an _ _ tp
   have b8:=zJ Ea d2
   have e8:ab (but H8 (b::p::M)) (but Ha (b::p::M)):=tS.trans<|an.but _
   have cd:ab (but bt (b::p::M)) (but Ha (b::p::M)):=(((s7.trans s8).but _)).trans e8
   have d5:Ha b=some (.lst us):=an _ _<|tk b _ (Ml a0)<|s8 _ _<|s7 _ _<|s5 _ _ hb
   have ea:Ha sa=some (.cL oS (.dK<|fH<|jc a m)):=an _ _<|tk sa _ bk<|s8 _ _ h7
   obtain ⟨u4,fa,q4⟩:=b8.get 4 _ rfl
   obtain ⟨u7,fl,q7⟩:=b8.get 7 _ rfl
   have ch:ap (b::p::M) Ha:=tl.same an
   have ec:∀z o,H z=some o->Ha z=some o:=λz o e=>by
    have fn:z≠p:=cU e ew
    exact an _ _<|tk z o fn<|s8 _ _<|s7 _ _<|s5 _ _<|S0 _ _ e
   have af:∀{z:Addr},Ha z=none->H z=none:=λ{z} e=>by
    cases qz:H z with
    |none=>rfl
    |some u=>rw [ec _ _ qz] at e;cases e
   refine ⟨.ref b,z4,(show gM K "list" (.ref b) _ from .inl ⟨rfl,us,aQ.of d5⟩),u4,fa,.ref sa,z5,u7,fl,λx dx hx ed gb=>⟨x,dx,u4,.ref sa,u7,rfl,aN,λpo a4 cl=>⟨rfl,?_⟩⟩⟩
   have aj:Ha po=none:=by
    rw [aA cl] at a4
    by_cases e:po=dx
    .rw [e];exact ed
    .rw [aA e] at a4;exact a4
   have f1:po≠dx:=λe=>by rw [aA cl,e,aN] at a4;cases a4
   have SX:ab Ha (upd (upd (upd (upd Ha dx (.own x)) x (.ins C dx [])) po (.dT [])) x (.ins C dx<|iY u4 sa u7 po (-1))):=λz o e=>by
    rw [aA<|cU e hx,aA<|cU e aj,aA<|cU e hx,aA<|cU e ed];exact e
   refine ⟨b,us,.ref x,rfl,rfl,SX _ _ d5,by rw [a2.l1];exact cp Z4,?_⟩
   generalize eg:upd (upd (upd (upd Ha dx (.own x)) x (.ins C dx [])) po (.dT [])) x (.ins C dx<|iY u4 sa u7 po (-1))=HX at SX
   have fp:HX x=some (.ins C dx<|iY u4 sa u7 po (-1)):=by rw [<-eg];exact aN
   have ei:HX po=some (.dT []):=by rw [<-eg,aA cl];exact aN
   have eb:but (upd HX b (.lst<|us++[.ref x])) (b::p::M)=but HX (b::p::M):=dw Lj
   have ao:ab (but Ha (b::p::M)) (but (upd HX b (.lst<|us++[.ref x])) (b::p::M)):=by rw [eb];exact SX.but _
   have fr:x∉b::p::M:=ch.fresh hx
   have ej:po∉b::p::M:=ch.fresh aj
   have fs:sa∉b::p::M:=by
    simp only [Lw,Qh]
    exact ⟨di,bk,dp⟩
   refine ⟨ai m a,Wj.filter λg=> !cm g (ai m a),done++[mW a m Wj],us++[.ref x],am++[[x,po]],?_,dt,by rw [LC,My];omega,λg hg=>a1 g (Ly.mp hg).1,LN (LZ _ _) bi,z3,z4,?_,aN,?_,?_,?_,(ch.same SX).upd,S'.trans<|(s5.but _).trans<|cd.trans ao,?_⟩
   .rw [I]
    show done++(_::_)=_
    rw [Mm]
    rfl
   .rw [aA a0];exact SX _ _ d2
   .have ek:=(a2.mono<|(s5.but _).trans<|cd.trans ao)
    refine ek.snoc ⟨x,dx,u4,sa,u7,po,oS,rfl,rfl,?_,q4.mono ao,?_,q7.mono ao,?_,rfl⟩ λo ho z hz ft=>?_
    .rw [eb,bf fr];exact fp
    .refine ao _ _ ?_
     rw [bf fs];exact ea
    .rw [eb,bf ej];exact ei
    .obtain ⟨i,hi⟩:=Mf.mp ho
     obtain ⟨u,hu,_⟩:=a2.seen hi z hz
     obtain ⟨_,bd⟩:=aw<|(s5.but _|>.trans cd) _ _ hu
     rcases Lw.mp ft with e|e
     .rw [e,hx] at bd;cases bd
     .have e:z=po:=by simpa using e
      rw [e,aj] at bd;cases bd
   .intro os ho z hz
    rcases LI.mp ho with e|e
    .exact a3 os e z hz
    .have e:os=[x,po]:=by simpa using e
     rw [e] at hz
     rcases Lw.mp hz with e|e
     .rw [e];exact af hx
     .have e:z=po:=by simpa using e
      rw [e];exact af aj
   .refine mJ (a:=b) (λz o e=>?_) ct (λz o hz e=>by rw [aA hz];exact e)
    exact SX _ _<|ec z o e
   .exact (((b8.mono ao).drop 4).drop 7)
 .rintro t T ⟨m,Wj,done,us,am,I,ez,e0,a1,bi,j3,j4,hp,hb,a2,a3,S0,l',S',E'⟩
  rw [Ll,OA<|Lo _] at I
  have I:cF ac [] W0=done++[]:=I
  rw [LV] at I
  rw [I] at q
  refine ⟨.ref b,j4,q b us am T S0 (by rw [bf ex];exact hb) (a2.mono<|dR λz hz=>Lg _<|Lg _ hz) a3 ct⟩
end
end a7
namespace a7
open PySem L2 FL
section
variable {P:Program}{w:World}{K:PySem.W.Frag}{mg:Str->Option Value}{base:Heap}{f:Addr}{fd:FuncData}
def FH:bV ["self","body"] ["self","body"] (be lC):=⟨rfl,rfl,rfl,Z9,rfl,Z9,Z9⟩
def HG(F:aI K "__init__" "Loom.__init__" lC f fd)(I:kU K CL)(B:Bl mg)(c:a6 P w K mg base 2 "guards_in" ["body"] (bA ph))(j:a6 P w K mg base 2 "blanks_in" ["atom"] (bA nD))(t:a6 P w K mg base 1 "holds" ["guard"] (bA qU))(k:a6 P w K mg base 6 "steps_for" ["body"] (yV C)):bp P w K mg base bD 7 f fd ["self","body"] (vv C CL):=by
 refine F.ok FH (λvs H Q E q0=>by obtain ⟨_,_,_,_,_,e,_⟩:=q0;rw [e];rfl) λbi A a2 s H vs Q E hr h=>?_
 obtain ⟨M,m,x,n,T,rfl,hx,lv,r1,U,hG,q⟩:=h
 refine ⟨_,(aD (fw (pv 0) (bI k hr<|ak (pv 1) ar) rfl)
   (aD (fw (pv 0) (Ap<|vJ B<|fh ["guard"] [] 1 (ck<|bI c hr<|ak (pv 1) ar) (λ_ _ _ _ _=>(bq 0<|jP _)) (λ_ _ _ _ _=>(iI<|gg<|AC (iN j hr<|ak (pv 0) ar) λ_=>rfl)) λ_ _ _ _ _=>(iN t hr<|ak (pv 0) ar)) rfl)
   (aD (fw (pv 0) aO rfl)
   (aD (fw (pv 0) aO rfl)
   (aE<|fw (pv 0) (lH mB aO) rfl))))),?_⟩
 have lx:ap (x::M) H:=lv.cons hx
 have Y:al (but H (x::M)) T (cq m):=al.eW hx rfl r1
 have E0:ax (but H (x::M)) (L2.start ["self","body"] [.ref x,T]) [none,some<|cq m]:=fB (.raw (.dat Y .nil)) _
 have bk:(m.filter aK).length<=100:=LN (LZ _ _) U.2
 have ac:∀g∈m.filter aK,dz g/\∃r a b,g=[.str r,a,b]:=λg L=>⟨U.1 g (Ly.mp L).1,hG g (Ly.mp L).1 (Ly.mp L).2⟩
 refine ⟨T,rfl,x::M,m,T,rfl,lx,Y,U,λp us af H1 s1 hp aj a3 bt=>?_⟩
 have a4:=s1 _ _ hx
 refine ⟨.ref x,rfl,x,CL,n,[],rfl,a4,I.cl,I.nS,by decide,?_⟩
 generalize J:upd H1 x (.ins CL n<|cN "steps" (.ref p) [])=H2
 have bc:H2 x=some (.ins CL n [("steps",.ref p)]):=by rw [<-J];exact aN
 have am:but H2 (x::M)=but H1 (x::M):=by rw [<-J];exact dw Lj
 have l2:ap (x::M) H2:=by rw [<-J];exact (lx.same s1).upd
 have E2:ax (but H2 (x::M)) (L2.start ["self","body"] [.ref x,T]) [none,some<|cq m]:=by rw [am];exact E0.same s1
 have K2:∀b u,b≠x->H b=some u->H2 b=some u:=λb u hb e=>by rw [<-J,aA hb];exact s1 _ _ e
 refine zi<|yl (Ch<|uW (bs:=((m.filter aK).filter λg=> !c6 g).map holdsA)<|aa (ae.eq (gk (caps:=a5 [] 1) (i:=0) (p:=rE λg=> !c6 g) (f:=Bb λg=>.bl<|holdsA g) (dn (ds:=(m.filter aK).map D.tup)<|bQ (R:=ph) (E:=L2.E0) ⟨m,rfl,U.1,U.2,rfl⟩<|aa (aG E2 (i:=1) rfl) ag) (λG' v d sG hd r=>?_) (λG' v d sG hd _ r=>?_) (by rw [Ll];exact cp Z4)) ?_) ag) l2 λv3 H3 s3 r3=>?_
 .obtain ⟨g,L,rfl⟩:=LG.mp hd
  exact f6<|zL<|bQ (d:=fA<|ai [] g) ⟨g,rfl,(ac g L).1,rfl⟩<|aa (cA (by simp [a5]) r) ag
 .obtain ⟨g,L,rfl⟩:=LG.mp hd
  obtain ⟨an,r0,a0,b0,rfl⟩:=ac g L
  exact bQ ⟨r0,a0,b0,rfl,(an.sc a0 Z8).1,(an.sc b0 Z8).1,rfl⟩<|aa (cA (by simp [a5]) r) ag
 .rw [qg _ (λg=> !c6 g) _ (λg=>.bl<|holdsA g) _ (λ_ _=>rfl) λ_ _=>rfl,Mb]
  rfl
 have e3:v3=.bl (lj m):=by
  have:=r3.jl
  rw [this,Oz]
  rfl
 subst e3
 refine ⟨.ref x,rfl,x,CL,n,_,rfl,s3 _ _ bc,I.cl,I.nB,(show 1<1000 by decide),?_⟩
 refine ⟨.ref x,rfl,x,CL,n,_,rfl,aN,I.cl,I.nT,(show 2<1000 by decide),?_⟩
 refine ⟨.ref x,rfl,x,CL,n,_,rfl,aN,I.cl,I.nF,(show 3<1000 by decide),?_⟩
 refine ⟨1,rfl,.ref x,rfl,x,CL,n,_,rfl,aN,I.cl,I.nL,(show 4<1000 by decide),?_⟩
 rw [kB,kB,kB]
 have bd:but (upd H3 x (.ins CL n<|iE p (lj m) 0 0 (-1))) (x::M)=but H3 (x::M):=dw Lj
 have ao:ab (but H1 (x::M)) (but (upd H3 x (.ins CL n<|iE p (lj m) 0 0 (-1))) (x::M)):=by
  rw [bd,<-am];exact s3.but _
 have l:=aj.mono ao
 have a1:=l.own
 have G:∀os∈af,∀y∈os,∃o,upd H3 x (.ins CL n<|iE p (lj m) 0 0 (-1)) y=some o/\y∉x::M:=λos N y hy=>by
  obtain ⟨i,hi⟩:=Mf.mp N
  obtain ⟨o,h1,_⟩:=l.seen hi y hy
  obtain ⟨q1,q2⟩:=aw h1
  exact ⟨o,q2,q1⟩
 refine q af (upd H3 x (.ins CL n<|iE p (lj m) 0 0 (-1))) (λb u hb e=>by rw [aA hb];exact s3 _ _<|K2 b u hb e) a3 (λy hy=>?_) ⟨n,p,us,aN,?_,a1,Lr _ Lj,λos N z=>(G os N x z).choose_spec.2 Lj⟩
 .rcases LI.mp hy with z|z
  .obtain ⟨os,N,O⟩:=Mc.mp z
   obtain ⟨o,h1,_⟩:=G os N y O
   rw [h1];exact λz=>nomatch z
  .exact (l2.same s3).upd y z
 .obtain ⟨q1,q2⟩:=aw (ao _ _ hp)
  rw [bf]
  .exact q2
  .intro z
   rcases LI.mp z with z|z
   .obtain ⟨os,N,O⟩:=Mc.mp z
    obtain ⟨i,hi⟩:=Mf.mp N
    obtain ⟨o,h1,h2⟩:=l.seen hi p O
    rw [(aw h1).2] at q2
    cases q2
    cases h2
   .exact q1 z
def tO:bV ["self","facts","step","place","fact"] ["self","facts"] (be lL):=⟨rfl,rfl,rfl,Z9,rfl,Z9,Z9⟩
def Hl(F:aI K "take_in" "Loom.take_in" lL f fd)(T:ky K C)(TL:kU K CL)(B:Bl mg)(b8:mg "max"=none)(a3:d7 P w K mg base 3 C "offer" ["self","place","fact"] (zo C)):bp P w K mg base bD 4 f fd ["self","facts"] (zO C CL):=by
 refine F.ok tO (λvs H Q E q0=>by obtain ⟨_,_,_,_,_,_,e,_⟩:=q0;rw [e];rfl) λfp A et s H vs Q E hr h=>?_
 obtain ⟨Z,an,k,c,a,v1,rfl,lv,hL,r1,hF,hS,fr,hz,q⟩:=h
 have mx:=T.cl
 refine ⟨_,(aD (fw (pv 0) (dB (pv 0) rfl) rfl)
   (aD (fw (pv 0) (cC jK (dB (pv 0) rfl)<|da B<|pv 1) rfl)
   (aD (cO LM rfl (ck<|dB (pv 0) rfl) (bq 2 tO.nd)<|aE<|cO LM rfl (C2 B.enumerate (pv 1)<|dB (pv 0) rfl) (ml rfl<|fb (bq 3 tO.nd)<|fb (bq 4 tO.nd) jM)<|aE<|il<|jH (pv 2) mx a3 hr<|ak (pv 3)<|ak (pv 4) ar)
   (aE<|fw (pv 0) (B8 b8 (fh ["self","n","step"] [0] 2 (Ao B.enumerate<|ak (dB (pv 0) rfl) ar) (λ_ _ _ _ _=>(wu (n:=2) rfl<|fb (bq 1 (show (["self","n","step"]:ZY).Nodup from by decide+kernel))<|fb (bq 2 (show (["self","n","step"]:ZY).Nodup from by decide+kernel)) jM)) (λ_ _ _ _ _=>(iI<|cX yw (oM (pv 2) rfl)<|oM (pv 0) rfl)) λ_ _ _ _ _=>(pv 1))<|lH mB aO) rfl)))),?_⟩
 obtain ⟨dx,sl,us,ha,di,cd,aZ,ch⟩:=hL
 have dp:∀os∈an,∀x∈os,x∈Z:=λos L x J=>by
  obtain ⟨i,hi⟩:=Mf.mp L
  have a1:=(Li.mp hi).1
  have ds:=cd.l2
  have co:i<k.steps.length:=by omega
  obtain ⟨_,o2,_,h2,_,h4⟩:=cd.get i k.steps[i]<|Lk co
  rw [hi] at h2
  cases h2
  exact h4 x J
 refine ⟨.ref a,rfl,a,CL,dx,_,.int k.taken,rfl,ha,TL.cl,TL.nT,rfl,.ref a,rfl,a,CL,dx,_,rfl,ha,TL.cl,TL.nF,(show 5<1000 by decide),?_⟩
 obtain ⟨af,vf,e1,hf,rf⟩:=r1.dI
 subst e1
 have eu:af≠a:=λz=>(aw hf).1 (by rw [z];exact aZ)
 refine ⟨.ref a,rfl,a,CL,dx,_,.int k.taken,rfl,aN,TL.cl,TL.nF,rfl,.ref af,rfl,af,vf,rfl,.inl<|aQ.of (by rw [aA eu];exact (aw hf).2),_,_,rfl,rfl,.ref a,rfl,a,CL,dx,_,rfl,aN,TL.cl,TL.nT,(show 5<1000 by decide),?_⟩
 rw [kB]
 have ev:vf.length=c.length:=by rw [rf.length,Ll]
 rw [ev]
 generalize bl:upd H a _=H2
 have dt:H2 a=some (.ins CL dx<|iE sl k.fo ((k.taken:Nat)+(c.length:Nat)) (k.taken:Nat) k.last):=by rw [<-bl];exact aN
 have cs:but H2 Z=but H Z:=by rw [<-bl];exact dw aZ
 have l2:ap Z H2:=by rw [<-bl];exact lv.upd
 have K2:∀b u,b≠a->H b=some u->H2 b=some u:=λb u hb e=>by rw [<-bl,aA hb];exact e
 have as:d6 C H2 Z us an k.steps:=cd.frame (λx J=>J) (λb u q4 e=>by obtain ⟨os,L,hb⟩:=q4;exact K2 b u (λz=>ch os L (by rw [<-z];exact hb)) e) (by rw [cs];exact ab.refl _)
 have N2:∀{x:Addr},H2 x=none->H x=none:=λ{x} e=>by
  cases qx:H x with
  |none=>rfl
  |some u=>
   by_cases z:x=a
   .rw [z,dt] at e;cases e
   .rw [K2 x u z qx] at e;cases e
 have ew:al (but H2 Z) (.ref af) (.lst<|c.map D.tup):=by rw [cs];exact r1
 have d1:but H2 Z sl=some (.lst us):=by rw [cs];exact di
 obtain ⟨Zr,bs,ex⟩:∃Zr:ZX,(∀x,x∈a::Zr↔x∈Z)/\a∉Zr:=⟨Z.filter λy=>decide<|y≠a,λx=>by
  by_cases e:x=a
  .simp [e,aZ]
  .simp [e],by simp⟩
 have G1:ab (but H2 Z) (but H2 Zr):=dR λx J=>(bs x).mp<|Lg _ J
 have lr:ap Zr H2:=λx J=>l2 x<|(bs x).mp<|Lg _ J
 have ga:but H2 Zr a=some (.ins CL dx<|iE sl k.fo ((k.taken:Nat)+(c.length:Nat)) (k.taken:Nat) k.last):=by rw [bf ex];exact dt
 have d5:but H2 Zr sl=some (.lst us):=G1 _ _ d1
 have ey:al (but H2 Zr) (.ref af) (.lst<|c.map D.tup):=ew.mono G1
 have N:∀os∈an,∀x∈os,x∈Zr:=λos L x J=>by
  have:=(bs x).mpr<|dp os L x J
  rcases Lw.mp this with z|z
  .exact absurd (by rw [<-z];exact J)<|ch os L
  .exact z
 have bx:d6 C H2 Zr us an k.steps:=⟨as.l1,as.l2,λj s qs=>by
  obtain ⟨a',os,h1,h2,h3,h4⟩:=as.get j s qs
  have L:=Lp h2
  exact ⟨a',os,h1,h2,h3.frame h4 (N os L) (λb u _ e=>e) G1,N os L⟩,as.apart⟩
 have E2:ax (but H2 Zr) (L2.start ["self","facts","step","place","fact"] [.ref a,.ref af]) [none,some (.lst<|c.map D.tup),none,none,none]:=fB (.raw (.dat ey .nil)) _
 have ct:=bx.l1
 refine rJ (M:=Zr) (vI (kL TL.cl TL.nS rfl ga rfl) d5) lr λH3 s3=>?_
 have c1:=bx.mono s3
 have ea:=(s3.but Zr) _ _ ga
 have eb:=(s3.but Zr) _ _ d5
 have E3:=E2.same s3
 let O:Nat->Nat->List bg:=λj i=>(k.steps.zipIdx).map λp=>if p.2<j then bX p.1 k.taken c else if p.2=j then bX p.1 k.taken (c.take i) else p.1
 have l:∀j i m s,k.steps[m]?=some s->(O j i)[m]?=some (if m<j then bX s k.taken c else if m=j then bX s k.taken (c.take i) else s):=λj i m s e=>by
  show ((k.steps.zipIdx).map _)[m]?=_
  rw [LA,P4,e]
  simp
 have r:∀j i,(O j i).length=k.steps.length:=λj i=>by simp [O]
 clear_value O
 have c3:O 0 0=k.steps:=by
  apply M8
  intro m
  cases e:k.steps[m]? with
  |none=>rw [Mh (by rw [r];exact MF.mp e)]
  |some s=>
   rw [l 0 0 m s e]
   by_cases z:m=0
   .rw [Lq Z4,Lv z];rfl
   .rw [Lq Z4,Lq z]
 have a4:O k.steps.length 0=k.steps.map λs=>bX s k.taken c:=by
  apply M8
  intro m
  rw [LA]
  cases e:k.steps[m]? with
  |none=>rw [Mh (by rw [r];exact MF.mp e)];rfl
  |some s=>
   rw [l _ 0 m s e,Lv (Li.mp e).1]
   rfl
 have a2:∀j,O j c.length=O (j+1) 0:=λj=>by
  apply M8
  intro m
  cases e:k.steps[m]? with
  |none=>
   have:=MF.mp e
   rw [Mh (by rw [r];exact this),Mh (by rw [r];exact this)]
  |some s=>
   rw [l j _ m s e,l (j+1) 0 m s e,LS<|Lo _]
   by_cases z:m<j
   .rw [Lv z,Lv Z4]
   .by_cases z2:m=j
    .rw [Lq z,Lv z2,Lv Z4]
    .rw [Lq z,Lq z2,Lq Z4]
     by_cases z3:m=j+1
     .rw [Lv z3];rfl
     .rw [Lq z3]
 have bc:∀j i g s,k.steps[j]?=some s->c[i]?=some g->(O j i).set j (cD (bX s k.taken<|c.take i) (k.taken+i) g)=O j (i+1):=λj i g s e eg=>by
  apply M8
  intro m
  by_cases z:j=m
  .subst z
   rw [Lx (by rw [r];exact (Li.mp e).1),l j (i+1) j s e,Lq<|MI _,Lv rfl,IA eg]
  .rw [Lm z]
   cases e2:k.steps[m]? with
   |none=>
    have:=MF.mp e2
    rw [Mh (by rw [r];exact this),Mh (by rw [r];exact this)]
   |some t=>
    have z':¬m=j:=λw=>z w.symm
    rw [l j i m t e2,l j (i+1) m t e2,Lq z',Lq z']
 have b0:∀{H':Hp} {Z':ZX} {G:List ZX} {ez:List bg},iq C us H3 Zr an H' Z' G ez->but H' Z' a=some (.ins CL dx<|iE sl k.fo ((k.taken:Nat)+(c.length:Nat)) (k.taken:Nat) k.last):=λI=>I.same N _ _ ea
 refine ⟨λj M' Y H'=>∃G,iq C us H3 Zr an H' M' G (O j 0)/\Y[0]?=some (some (.ref a))/\ax (but H3 Zr) Y [none,some (.lst<|c.map D.tup),none,none,none],
  ⟨an,⟨by rw [c3];exact c1,λos L x J=>.inl ⟨os,L,J⟩,λb u _ e=>e,lr.same s3,λx J=>J,λx J=>.inl J⟩,rfl,E3⟩,λj M' Y H' q5=>by obtain ⟨G,I,_,_⟩:=q5;exact ⟨I.same N,I.live⟩,?_,?_⟩
 .rintro j M' x Y H' e0 fs ⟨G,I,i0,E'⟩ s4 J
  have J:us[j]?=some x:=J
  have e3:j<k.steps.length:=by omega
  have c4:k.steps[j]?=some k.steps[j]:=Lk e3
  have I4:=I.mono s4
  have E4:ax (but e0 M') (Y.set 2<|some x) [none,some (.lst<|c.map D.tup),none,none,none]:=(E'.mono<|I4.same N).off 2 _
  have c0:(Y.set 2<|some x)[0]?=some (some (.ref a)):=(Lm Z1).trans i0
  have e4:Y.length=5:=E'.len
  have c2:(Y.set 2<|some x)[2]?=some (some x):=Lx Z4
  have EB:ax (but H3 Zr) (Y.set 2<|some x) [none,some (.lst<|c.map D.tup),none,none,none]:=E'.off 2 _
  have g4:=b0 I4
  refine rJ (M:=M') (J6<|EJ (n:=k.taken) Z4 (aG E4 rfl)<|gz TL.cl TL.nF c0 g4 rfl (.int _)) I4.live λH5 s5=>?_
  have I5:=I4.mono s5
  have ec:(kN k.taken<|c.map D.tup).length=c.length:=by simp [kN]
  refine ⟨λi M2 U X=>∃ac,iq C us H3 Zr an X M2 ac (O j i)/\ab (but H5 M') (but X M2)/\U[0]?=some (some (.ref a))/\U[2]?=some (some x)/\ax (but H3 Zr) U [none,some (.lst<|c.map D.tup),none,none,none],
   ⟨G,I5,ab.refl _,c0,c2,EB⟩,λi M2 U X q6=>by obtain ⟨ac,I2,S2,_,_,_⟩:=q6;exact ⟨S2,I2.live⟩,?_,?_⟩
  .rintro i M2 y U X X' a1 ⟨ac,I2,S2,c5,ed,bt⟩ s6 ⟨d,hd,ry⟩
   have a1:i<c.length:=by rw [ec] at a1;exact a1
   have dc:c[i]?=some c[i]:=Lk a1
   have dr:d=.tup [.int ((k.taken+i:Nat):Int),.tup c[i]]:=by
    have:(kN k.taken<|c.map D.tup)[i]?=some (.tup [.int ((k.taken+i:Nat):Int),.tup c[i]]):=by
     simp [kN,dc]
    rw [this] at hd
    exact (LB hd).symm
   subst dr
   have I6:=I2.mono s6
   refine nZ ry λu1 u2 q1 q2=>?_
   have e1:=q1.dL
   subst e1
   have ds:U.length=5:=bt.len
   have d0:((U.set 3<|some (.int ((k.taken+i:Nat):Int))).set 4<|some u2)[0]?=some (some (.ref a)):=by rw [Lm Z1,Lm Z1];exact c5
   have d2:((U.set 3<|some (.int ((k.taken+i:Nat):Int))).set 4<|some u2)[2]?=some (some x):=by rw [Lm Z1,Lm Z1];exact ed
   have d3:((U.set 3<|some (.int ((k.taken+i:Nat):Int))).set 4<|some u2)[3]?=some (some (.int ((k.taken+i:Nat):Int))):=by rw [Lm Z1];exact Lx Z4
   have d4:((U.set 3<|some (.int ((k.taken+i:Nat):Int))).set 4<|some u2)[4]?=some (some u2):=Lx (by rw [MU];omega)
   have bd:=l j i j _ c4
   rw [Lq<|MI _,Lv rfl] at bd
   obtain ⟨aj,os,h1,h2,h3,h4⟩:=I6.st.get j _ bd
   have e5:x=.ref aj:=by rw [J] at h1;exact LB h1
   subst e5
   obtain ⟨ei,w0,sa,w2,ao,ls,oS,e7,bi,_⟩:=h3.at_
   have e8:=hF _<|Lp dc
   have ej:=hS _<|Lp c4
   have ek:=Ck k.steps[j] k.taken<|c.take i
   rw [L9] at ek
   refine ⟨.ref aj,d2,aj,ei,_,rfl,bi,rfl,.int ((k.taken+i:Nat):Int),d3,u2,d4,M2,os,_,aj,k.taken+i,c[i],u2,rfl,I6.live,h3,h4,q2,by rw [Jh];exact ej.1,e8,by have:=ej.2;omega,λdd fa n1 n2 n3 n4 n5=>?_⟩
   have I7:=I6.put bd h1 h2 h4 n1 n2 n3 n4 n5
   rw [bc j i _ _ c4 dc] at I7
   have S7:ab (but X' M2) (but fa<|dd++M2):=xg n1 h4 n3
   exact ⟨dd++M2,ac.set j dd,I7,S2.trans<|(s6.but _).trans S7,d0,d2,(bt.off 3 _).off 4 _⟩
  .rintro M2 U X ⟨ac,I2,S2,c5,ed,bt⟩
   rw [ec,a2] at I2
   exact ⟨M2,ac,I2,c5,bt⟩
 .rintro M' Y H' ⟨G,I,i0,E'⟩
  rw [show us.length=k.steps.length from ct,a4] at I
  have bk:=(aw<|b0 I).2
  have b6:=I.same N _ _ eb
  have a0:=(aw b6).2
  have en:∀b,but H' [] b=H' b:=λb=>bf Z8
  refine yl (M:=[]) (Df (K:=K) (is:=((List.range us.length).filter λj=>decide<|(k.taken:Int)<=((k.steps.map λs=>bX s k.taken c).getD j ⟨[],[],[],[],-1⟩).newest).map λj=>((j:Nat):Int)) (n:=-1) (ae.eq (Ej (K:=K) (caps:=a5 [0] 2) (i:=1) (j:=2) Z1 (p:=λj=>decide<|(k.taken:Int)<=((k.steps.map λs=>bX s k.taken c).getD j ⟨[],[],[],[],-1⟩).newest) (f:=λj=>.int (j:Nat)) (xE (kL TL.cl TL.nS i0 (by rw [en];exact bk) rfl) (by rw [en];exact a0)) (λG' v m sG hv=>?_) (λG' v m sG hv _=>cA (by simp [a5]) (.int _)) (by rw [ct];exact cp Z4)) (by rw [Mb];rfl))<|oQ av) ap.nil λv6 H6 s6 r6=>?_
  .have hm:=(Li.mp hv).1
   have em:m<(k.steps.map λs=>bX s k.taken c).length:=by rw [Ll];omega
   obtain ⟨am,os,h1,h2,h3,h4⟩:=I.st.get m _<|Lk em
   have e1:v=.ref am:=by rw [hv] at h1;exact LB h1
   subst e1
   obtain ⟨ei,w0,sa,w2,ao,ls,oS,e7,bi,_⟩:=h3.at_
   have eN:(k.steps.map λs=>bX s k.taken c).getD m ⟨[],[],[],[],-1⟩=(k.steps.map λs=>bX s k.taken c)[m]:=by rw [List.getD,Lk em];rfl
   rw [eN]
   exact c7<|AD (gz (a:=am) T.cl T.nN (by simp [a5]) (sG _ _ (by rw [en];exact bi)) rfl (.int _))<|gz (a:=a) TL.cl TL.nF (by simp [a5,i0]) (sG _ _ (by rw [en];exact bk)) rfl (.int _)
  have e6:=r6.dL
  subst e6
  refine ⟨.ref a,i0,a,CL,dx,_,rfl,s6 _ _ bk,TL.cl,TL.nL,(show 5<1000 by decide),?_⟩
  rw [show us.length=(k.steps.map λs=>bX s k.taken c).length by rw [Ll];exact ct]
  generalize ep:upd H6 a _=H7
  have er:H7 a=some (.ins CL dx<|iE sl k.fo ((k.taken:Nat)+(c.length:Nat)) (k.taken:Nat)<|jN (k.steps.map λs=>bX s k.taken c) k.taken):=by rw [<-ep];exact aN
  have K7:∀b u,b≠a->H' b=some u->H7 b=some u:=λb u hb e=>by rw [<-ep,aA hb];exact s6 _ _ e
  have fl:H3 a=some (.ins CL dx<|iE sl k.fo ((k.taken:Nat)+(c.length:Nat)) (k.taken:Nat) k.last):=(aw ea).2
  have es:∀os∈G,a∉os:=λos L z=>by
   rcases I.own os L a z with ⟨o,h1,h2⟩|h1
   .exact ch o h1 h2
   .rw [fl] at h1;cases h1
  have b7:∀os∈G,∀x∈os,x∈M':=λos L x J=>by
   obtain ⟨i,hi⟩:=Mf.mp L
   have a1:=(Li.mp hi).1
   have ds:=I.st.l2
   have co:i<(k.steps.map λs=>bX s k.taken c).length:=by omega
   obtain ⟨_,o2,_,h2,_,h4⟩:=I.st.get i _<|Lk co
   rw [hi] at h2
   cases h2
   exact h4 x J
  have ZM:∀x∈Z,x=a\/x∈M':=λx J=>by
   rcases Lw.mp ((bs x).mpr J) with z|z
   .exact .inl z
   .exact .inr<|I.sub x z
  have S7:ab (but H' (a::M')) (but H7<|G.flatten++Z):=λb u e=>by
   obtain ⟨q1,q2⟩:=aw e
   simp only [Lw,Qh] at q1
   rw [bf]
   .exact K7 b u q1.1 q2
   .intro z
    rcases LI.mp z with z|z
    .obtain ⟨os,L,J⟩:=Mc.mp z
     exact q1.2<|b7 os L b J
    .rcases ZM b z with w|w
     .exact q1.1 w
     .exact q1.2 w
  have l7:ap (G.flatten++Z) H7:=λx J=>by
   have hM:x=a\/x∈M':=by
    rcases LI.mp J with z|z
    .obtain ⟨os,L,J⟩:=Mc.mp z
     exact .inr<|b7 os L x J
    .exact ZM x z
   by_cases z:x=a
   .rw [z,er];exact λz=>nomatch z
   .rcases hM with w|w
    .exact absurd w z
    .cases q7:H' x with
     |none=>exact absurd q7<|I.live x w
     |some u=>rw [K7 x u z q7];exact λz=>nomatch z
  refine q G H7 (λos L x J=>?_) (λb u hb L e=>K7 b u hb<|I.keep b u L<|s3 _ _<|K2 b u hb e) l7 ⟨dx,sl,us,?_,?_,?_,Lr _ aZ,es⟩
  .rcases I.own os L x J with z|z
   .exact .inl z
   .refine .inr (N2 ?_)
    cases q3:H2 x with
    |none=>rfl
    |some u=>rw [s3 _ _ q3] at z;cases z
  .exact er
  .refine S7 _ _ ?_
   have fn:sl≠a:=λz=>by rw [z,bk] at a0;cases a0
   rw [bf (by simp only [Lw,Qh];exact ⟨fn,(aw b6).1⟩)]
   exact a0
  .exact (I.st.eW bk rfl).A9 (λos L x J=>Lu _<|Mc.mpr ⟨os,L,J⟩) (λb u q8 e=>by obtain ⟨os,L,hb⟩:=q8;exact K7 b u (λz=>es os L (by rw [<-z];exact hb)) e) S7
end
end a7
namespace a7
open PySem L2 FL
section
variable {P:Program}{w:World}{K:PySem.W.Frag}{mg:Str->Option Value}{base:Heap}{f:Addr}{fd:FuncData}
def CK:bV ["self"] ["self"] (be mM):=⟨rfl,rfl,rfl,Z9,rfl,Z9,Z9⟩
def EM(F:aI K "beginnings" "Loom.beginnings" mM f fd)(T:ky K C)(k:kU K CL)(B:Bl mg):bp P w K mg base bD 1 f fd ["self"] (Ba C CL):=by
 refine F.ok CK (λvs H Q E q0=>by obtain ⟨_,_,_,e,_⟩:=q0;rw [e];rfl) λac A L s H vs Q E hr h=>?_
 obtain ⟨M,b,v0,rfl,lv,hL,hn,q⟩:=h
 refine ⟨_,(aD (cx (kQ (dN<|dB (pv 0) rfl)<|ng (kG (cX m5 (dB (pv 0) rfl) aO)<|kR<|cX rR (dB (pv 0) rfl) aO).pt).pt (aE<|bE<|dj ar) cM)
   (aD (cx (gg<|dN<|vJ B<|fh ["step"] [] 1 (ck<|dB (pv 0) rfl) (λ_ _ _ _ _=>(bq 0<|jP _)) (λ_ _ _ _ _=>iG) λ_ _ _ _ _=>(jW yw (oM (pv 0) rfl) aO)) (aE<|bE<|dj ar) cM)
   (aE<|bE<|dj<|ak (eE<|ak (dj ar)<|ak (eE ar) ar) ar))),?_⟩
 obtain ⟨a,dx,sl,us,rfl,I,gs,o⟩:=hL
 have E0:ax (but H M) (L2.start ["self"] [.ref a]) [none]:=fB (.raw .nil) _
 have r:=o.len
 refine ij lv E0 (li (dP<|gz k.cl k.nB rfl I rfl (.bl _)) λ_=>mi (c7<|mP (gz k.cl k.nL rfl I rfl (.int _)) av) λ_=>c7<|tJ (gz k.cl k.nF rfl I rfl (.int _)) av) (λe H1 g N E1=>?_) λe H1 g N E1=>nx ?_
 .have c:d9 b=[]:=by unfold d9;rw [Lv e]
  rw [c] at q
  exact xf N ag (LP _) λp d O l t U r2=>q p d O (g.trans l) (gx g t) U r2
 have u:=o.mono<|g.but M
 refine ij N E1 (f6<|dP<|uW (bs:=b.steps.map λs=>decide<|(0:Int)<=s.newest)<|aa (ae.eq (Hw (caps:=a5 [] 1) (i:=0) (p:=λ_=>true) (f:=λj=>.bl<|decide<|(0:Int)<=(b.steps.getD j ⟨[],[],[],[],-1⟩).newest) (vI (K:=K) (kL k.cl k.nS rfl ((g.but M) _ _ I) rfl)<|(g.but M) _ _ gs) (λj G G' v _ h=>h) (λG' v j _ _ _=>jn) (λG' v j sG hj _ Y=>?_) (by rw [r];exact cp Z4)) ?_) ag) (λn O l l2 E2=>?_) λn O l l2 E2=>nx ?_
 .have Y:us[j]?=some v:=Y
  have x:j<b.steps.length:=by omega
  obtain ⟨v',h1,U⟩:=u.get j _<|Lk x
  rw [Y] at h1
  cases h1
  obtain ⟨am,af,w0,sa,w2,ao,oS,rfl,g1,_⟩:=U
  have eN:b.steps.getD j ⟨[],[],[],[],-1⟩=b.steps[j]:=by rw [List.getD,Lk x];rfl
  rw [eN]
  exact AD (gz T.cl T.nN (by simp [a5]) (sG _ _ g1) rfl (.int _)) av
 .rw [Mp.mpr λ_ _=>rfl,r,Mb]
  congr 1
  apply M8
  intro m
  rw [LA,LA]
  by_cases y:m<b.steps.length
  .rw [List.getElem?_range y,Lk y]
   show some (D.bl<|decide<|(0:Int)<=(b.steps.getD m ⟨[],[],[],[],-1⟩).newest)=_
   rw [List.getD,Lk y]
   rfl
  .rw [Mh (by simpa using L8 y),Mh<|L8 y]
   rfl
 .have c:d9 b=[]:=by
   unfold d9
   rw [Lq (by rw [e];exact Ls),Lq]
   intro z
   rw [Oz] at n
   have J:(b.steps.all<|id∘λs=>decide<|(0:Int)<=s.newest)=true:=z
   rw [J] at n
   cases n
  rw [c] at q
  exact xf l2 ag (LP _) λp d H3 s3 t h3 r3=>q p d H3 (g.trans<|l.trans s3) (gx (g.trans l) t) h3 r3
 .have c:d9 b=[([],[])]:=by
   unfold d9
   rw [Lq (by rw [e];exact Ls),Lv]
   rw [Oz] at n
   have J:(!(b.steps.all<|id∘λs=>decide<|(0:Int)<=s.newest))=false:=n
   rw [Bool.not_eq_false'] at J
   exact J
  rw [c] at q
  exact xf l2 (ds:=[.tup [.lst [],.tup []]]) (aa (aR<|aa (fg (ds:=[]) ag (hz:=LP _))<|aa (aR (ds:=[]) ag (hz:=LP _)) ag) ag) (show 1<=sizeLine by decide) λp d H3 s3 t h3 r3=>q p d H3 (g.trans<|l.trans s3) (gx (g.trans l) t) h3 r3
def GZ:bV ["self","way"] ["self","way"] (be mw):=⟨rfl,rfl,rfl,Z9,rfl,Z9,Z9⟩
def GU(F:aI K "is_whole" "Loom.is_whole" mw f fd)(m:kU K CL)(B:Bl mg):bp P w K mg base bD 1 f fd ["self","way"] (xh C CL):=by
 refine F.ok GZ (λp H Q E r=>by obtain ⟨_,_,_,_,_,e,_⟩:=r;rw [e];rfl) λt A c s H p Q E u h=>?_
 obtain ⟨M,x,b,U,y,rfl,z,G,g,q⟩:=h
 have I:=eC u
 refine ⟨_,(aE<|bE<|jW (f9 (by exact I)) (da B<|bG (pv 1) aO)<|da B<|dB (pv 0) rfl),?_⟩
 obtain ⟨a,Y,sl,o,rfl,J,L,k⟩:=G
 have l:=k.len
 have E0:ax (but H M) (L2.start ["self","way"] [.ref a,y]) [none,some<|cQ b]:=fB (.raw (.dat g .nil)) _
 refine eA z (jF (i:=((b.2.map λn=>D.int (n:Nat)).length:Nat)) (j:=(o.length:Nat)) (nX<|aa (cv (ds:=[.lst<|pairD b.1,.tup<|b.2.map λn=>D.int (n:Nat)]) (d:=.tup<|b.2.map λn=>D.int (n:Nat)) rfl (aG E0 rfl) av) ag)<|DI (kL m.cl m.nS rfl J rfl) L) λv N O g=>?_
 have T:=g.jl
 subst T
 have:decide ((((b.2.map λn=>D.int (n:Nat)).length:Nat):Int)=((o.length:Nat):Int))=decide (b.2.length=x.steps.length):=by
  rw [Ll,l]
  exact N4.mpr ⟨λh=>by omega,λh=>by omega⟩
 rw [this]
 exact q N O
def sI:bV ["self","way","taken","lowest"] ["self","way"] (be mG):=⟨rfl,rfl,rfl,Z9,rfl,Z9,Z9⟩
def FY(F:aI K "carried_on" "Loom.carried_on" mG f fd)(T:ky K C)(k:kU K CL)(B:Bl mg)(o:mg "max"=none)(c:d7 P w K mg base 3 C "carry_on" ["self","way","lowest"] (vY C)):bp P w K mg base bD 4 f fd ["self","way"] (vm C CL):=by
 refine F.ok sI (λvs H Q E q0=>by obtain ⟨_,_,_,_,_,_,e,_⟩:=q0;rw [e];rfl) λam A ac s H vs Q E hr h=>?_
 obtain ⟨M,l,w0,v0,v1,sz,rfl,lv,hL,r1,hR,hW,p,q⟩:=h
 have hu:=eC hr
 have mx:=T.cl
 refine ⟨_,(aD (bj 2 sI.nd<|da B<|bG (pv 1) aO)
   (aD (bj 3 sI.nd aO)
   (aD (cx (kG (cX (f9 (by exact hu)) (pv 2)<|dB (pv 0) rfl)<|kR<|cX m5 (B8 o (bG (pv 1) aO)<|lH mB aO)<|dB (pv 0) rfl).pt (aE<|bj 3 sI.nd<|dB (pv 0) rfl) cM)
   (aE<|bE<|jH (bG (dB (pv 0) rfl)<|pv 2) mx c hr<|ak (pv 1)<|ak (pv 3) ar)))),?_⟩
 obtain ⟨a,dx,sl,us,rfl,z,gs,G⟩:=hL
 have an:=G.len
 obtain ⟨S,b⟩:=w0
 have p:b.length<l.steps.length:=p
 have E0:ax (but H M) (L2.start ["self","way","taken","lowest"] [.ref a,v1]) [none,some<|cQ (S,b),none,none]:=fB (.raw (.dat r1 .nil)) _
 have af:(b.map λn=>D.int (n:Nat))=(b.map λn=>((n:Nat):Int)).map D.int:=by rw [Mb];rfl
 refine fV (i:=2) (d:=.int (b.length:Nat)) lv E0 ((nX<|aa (cv (ds:=[.lst<|pairD S,.tup<|b.map λn=>D.int (n:Nat)]) (d:=.tup<|b.map λn=>D.int (n:Nat)) rfl (aG E0 rfl) av) ag).eq (by rw [Ll])) λao H1 o1 u l1 E1=>?_
 dsimp only
 refine zi<|fV (i:=3) (d:=.int 0) l1 E1 (av (i:=0)) λaj H2 o2 x l2 E2=>?_
 have g:aj[0]?=some (some (.ref a)):=(o2 0 Z1).trans<|(o1 0 Z1).trans rfl
 have I:=(u.trans x).but M
 have hs:=Lk p
 obtain ⟨vj,J,m⟩:=G.get b.length _ hs
 have L:cc l (S,b)=ff l.steps[b.length] (S,b) (gR l (S,b)):=by
  unfold cc
  rw [show l.steps[((S,b):aF).2.length]?=some l.steps[b.length] from hs]
 have N:j8 S.length l.steps[b.length]:=by
  have:=(hR.st _ _ hs).1
  have e:=hW.one
  have e:S.length=sz b.length:=e
  rw [e];exact this
 have O:S.length<=500:=by have e:S.length=sz b.length:=hW.one;rw [e];exact hR.le _
 have U:b.length<=500:=by have:=hR.len;omega
 rw [L] at q
 refine ij l2 E2 (mi (c7<|jF (aG E2 rfl)<|gz k.cl k.nL g (I _ _ z) rfl (.int _)) λ_=>c7<|mP (K5 (K:=K) (is:=b.map λn=>((n:Nat):Int)) ((cv (ds:=[.lst<|pairD S,.tup<|b.map λn=>D.int (n:Nat)]) (d:=.tup<|b.map λn=>D.int (n:Nat)) rfl (aG E2 rfl) av).eq (by rw [af]))<|oQ av)<|gz k.cl k.nF g (I _ _ z) rfl (.int _)) (λe H3 y l3 Y=>?_) λe H3 y l3 Y=>nx ?_
 .have j:=(u.trans<|x.trans y).but M
  refine fV (i:=3) l3 Y (gz k.cl k.nF g (j _ _ z) rfl (.int _)) λas H4 o4 s4 l4 E4=>?_
  have r:=(u.trans<|x.trans<|y.trans s4).but M
  have t:gR l (S,b)=l.fresh:=by unfold gR;rw [Lv e]
  rw [t] at q
  exact eA l4 (yG (kL k.cl k.nS ((o4 0 Z1).trans g) (r _ _ z) rfl) (r _ _ gs) (aG E4 rfl) J (m.mono r) hW.ok O U N (aG E4 rfl)<|aG E4 rfl) λv H5 s5 r5=>q v H5 (u.trans<|x.trans<|y.trans<|s4.trans s5) r5
 .have j:=(u.trans<|x.trans y).but M
  have t:gR l (S,b)=0:=by unfold gR;rw [Lq (by rw [e];exact Ls)]
  rw [t] at q
  exact eA l3 (yG (kL k.cl k.nS g (j _ _ z) rfl) (j _ _ gs) (aG Y rfl) J (m.mono j) hW.ok O U N (aG Y rfl)<|aG Y rfl) λv H5 s5 r5=>q v H5 (u.trans<|x.trans<|y.trans s5) r5
end
end a7
namespace a7
open PySem L2 FL
section
variable {P:Program}{w:World}{K:PySem.W.Frag}{mg:Str->Option Value}{base:Heap}{f:Addr}{fd:FuncData}
def nu:bV ["self","number","loom","head","found","unfinished","way","fact"] ["self","number","loom"] (be lU):=⟨rfl,rfl,rfl,Z9,rfl,Z9,Z9⟩
def HM(F:aI K "given_by" "Weaving.given_by" lU f fd)(TL:kU K CL)(TW:pe K CW)(B:Bl mg)(a4:a6 P w K mg base 1 "filled" ["atom","setting"] (bA oX))(Y:d7 P w K mg base 1 CL "beginnings" ["self"] (Ba C CL))(ao:d7 P w K mg base 1 CL "is_whole" ["self","way"] (xh C CL))(ac:d7 P w K mg base 4 CL "carried_on" ["self","way"] (vm C CL)):bp P w K mg base bD 5 f fd ["self","number","loom"] (Au C CL CW):=by
 refine F.ok nu (λvs H Q E q0=>by obtain ⟨_,_,_,_,_,_,_,_,_,_,_,_,_,_,_,e,_⟩:=q0;rw [e];rfl) λhi A fr s H vs Q E hr h=>?_
 obtain ⟨M,r,a,dx,vr,ll,N,bs,G,I,bt,T,R,sz,v2,rfl,lv,ha,ek,bx,hT,rr,em,ch,en,hG,hN,q⟩:=h
 have ep:=fJ hr
 have lJ:=TL.cl
 refine ⟨_,(aD (bj 3 nu.nd<|bG (bG (dB (pv 0) rfl)<|pv 1) aO)
   (aD (bj 4 nu.nd<|dj ar)
   (aD (bj 5 nu.nd<|C3 (pv 2) lJ Y hr)
   (aD (ve LM (uf (pv 5) λ_=>rfl) (aD (bj 6 nu.nd<|z7 MP PySem.F.slot_list_pop PySem.F.type_list_pop Gc<|pv 5)
   (aD (bj 7 nu.nd<|bI a4 hr<|ak (pv 3)<|ak (bG (pv 6) aO) ar)
   (aE (cx (jt<|ny (by exact ep) (pv 7)<|dB (pv 0) rfl) (aE (cx (dN<|jH (pv 2) lJ ao hr<|ak (pv 6) ar) (aD (ly ep (dB (pv 0) rfl) (pv 7) eh rfl)
   (aE<|iZ (pv 4)<|eE<|ak (pv 7)<|ak (pv 1)<|ak (bG (pv 6) aO) ar))<|aE<|il<|pI MP Na Nt sJ (pv 5)<|ak (jH (pv 2) lJ ac hr<|ak (pv 6) ar) ar)) cM)))))
   (aE<|bE<|pv 4))))),?_⟩
 have hR:=hG.run
 obtain ⟨aL,fs,hj,hk,eL,ft,hm,hf⟩:=id ch
 subst eL
 have E0:ax (but H M) (L2.start ["self","number","loom","head","found","unfinished","way","fact"] [.ref a,.int ((G:Nat):Int),.ref aL]) [none,some (.int ((G:Nat):Int)),none,none,none,none,none,none]:=fB (.raw (.dat (.int _) (.raw .nil))) _
 have fv:(bs.map aV)[G]?=some (aV (I,bt)):=by rw [LA,em];rfl
 refine fV (i:=3) (d:=.tup I) lv E0 (cv (ds:=[.tup I,cq bt]) (d:=.tup I) rfl (cP (ds:=bs.map aV) (d:=aV (I,bt)) (mq fv) (gz TW.cl TW.nR rfl ha rfl rr)<|aG E0 rfl) av) λeq H1 o1 s1 l1 E1=>?_
 dsimp only
 have f0:eq[0]?=some (some (.ref a)):=(o1 0 Z1).trans rfl
 have f1:eq[2]?=some (some (.ref aL)):=(o1 2 Z1).trans rfl
 refine m4 (i:=4) l1 E1 Z8 ag (LP _) λy vF a0 H4 o4 i4 n4 h4 r4 l4 k4 E4=>?_
 have d4:ab H1 H4:=λx o e=>(k4 x o e).2
 have f2:H1 y=none:=none_of (ab.refl H1) k4
 have HF:H y=none:=none_of s1 k4
 have f3:vF=[]:=by cases r4;rfl
 subst f3
 have f4:a0[0]?=some (some (.ref a)):=(o4 0 Z1).trans f0
 have er:a0[2]?=some (some (.ref aL)):=(o4 2 Z1).trans f1
 have d5:ab (but H M) (but H4 (y::M)):=(s1.but M).trans<|gX f2 d4
 have es:=ch.mono d5
 refine ⟨.ref aL,er,aL,fs,_,rfl,(aw<|d5 _ _ ft).2,rfl,y::M,r,.ref aL,rfl,l4,es,en,λk vU H5 s5 co h5 r5=>?_⟩
 have b6:y≠k:=λz=>by rw [<-z,h4] at co;cases co
 have HU:H k=none:=gx (s1.trans d4) co
 have et:ab H H5:=s1.trans<|d4.trans s5
 have eu:H5 N=some (.dT<|cy T):=et _ _ bx
 have dd:N≠y:=λz=>by rw [z,HF] at bx;cases bx
 have b7:N≠k:=λz=>by rw [z,HU] at bx;cases bx
 have ev:ab (but H4 (y::M)) (but H5 (k::y::M)):=gX co s5
 have f5:ab (but H M) (but H5 (k::y::M)):=d5.trans ev
 have l5:ap (k::y::M) H5:=(l4.same s5).cons h5
 have ga:=E4.len
 have E5:ax (but H5 (k::y::M)) (a0.set 5<|some (.ref k)) [none,some (.int ((G:Nat):Int)),none,some (.tup I),none,none,none,none]:=(E4.mono ev).off 5 _
 have gb:(a0.set 5<|some (.ref k))[0]?=some (some (.ref a)):=(Lm Z1).trans f4
 have gd:(a0.set 5<|some (.ref k))[2]?=some (some (.ref aL)):=(Lm Z1).trans er
 have gh:(a0.set 5<|some (.ref k))[4]?=some (some (.ref y)):=(Lm Z1).trans i4
 have gl:(a0.set 5<|some (.ref k))[5]?=some (some (.ref k)):=Lx (by rw [ga];exact (show 5<8 by decide))
 have gn:=s5 _ _ h4
 have ea:d9 r=[]\/d9 r=[([],[])]:=by
  unfold d9
  split
  .exact .inl rfl
  .split
   .exact .inr rfl
   .exact .inl rfl
 have di:(d9 r).reverse=d9 r:=by rcases ea with z|z<;>rw [z]<;>rfl
 have ew:0+((d9 r).map λw=>dD r (bM r w) w).sum<=dD r r.steps.length ([],[]):=by
  rcases ea with z|z
  .rw [z];exact LP _
  .rw [z]
   show 0+(dD r (r.steps.length-0) ([],[])+0)<=_
   rw [Qd];omega
 have ex:∀w∈d9 r,GoodW sz r.steps w/\R w:=λw hw=>by
  rcases ea with z|z
  .rw [z] at hw;cases hw
  .rw [z] at hw
   rw [LK.mp hw];exact ⟨GoodW.nil hR,hG.r0⟩
 unfold fK at q
 generalize d9 r=B0 at q r5 di ew ex
 refine ⟨λm O X=>∃(j:List cj) (stack:List aF) (uF L:List V),cw I G (B0.flatMap λw=>cE r (bM r w) w) T=j++cw I G (stack.reverse.flatMap λw=>cE r (bM r w) w) (T++aC j)/\(∀g∈T++aC j,fD g)/\m=(stack.map λw=>dD r (bM r w) w).sum/\j.length+m<=dD r r.steps.length ([],[])/\(∀w∈stack,GoodW sz r.steps w/\R w)/\O[0]?=some (some (.ref a))/\O[2]?=some (some (.ref aL))/\O[4]?=some (some (.ref y))/\O[5]?=some (some (.ref k))/\X y=some (.lst uF)/\az (but X (k::y::M)) uF (j.map eX)/\X k=some (.lst L)/\az (but X (k::y::M)) L (stack.map cQ)/\X N=some (.dT<|cy<|T++aC j)/\(∀b u,b≠N->H b=some u->X b=some u)/\ap (k::y::M) X/\ab (but H M) (but X (k::y::M))/\ax (but X (k::y::M)) O [none,some (.int ((G:Nat):Int)),none,some (.tup I),none,none,none,none],
  ⟨_,[],B0,[],vU,by rw [di];show _=[]++cw I G _ (T++[]);rw [LV];rfl,by show∀g∈T++[],fD g;rw [LV];exact hT,rfl,ew,ex,gb,gd,gh,gl,gn,.nil,h5,r5,by show H5 N=some (.dT<|cy<|T++[]);rw [LV];exact eu,λb u _ e=>et _ _ e,l5,f5,E5⟩,?_⟩
 rintro m O X ⟨j,stack,uF,L,as,U,rfl,go,an,j0,j2,j4,j5,ey,rF,ec,rU,ez,KX,lX,gp,EX⟩
 refine ⟨.ref k,j5, !L.isEmpty,.inl ⟨L,aQ.of ec,rfl⟩,?_⟩
 have e0:stack=[]\/∃J w,stack=J++[w]:=by
  rcases List.eq_nil_or_concat stack with z|⟨J,w,z⟩
  .exact .inl z
  .exact .inr ⟨J,w,by rw [z,List.concat_eq_append]⟩
 rcases e0 with rfl|⟨J,w,rfl⟩
 .have hu:L=[]:=by cases rU;rfl
  subst hu
  refine Eq.mpr (Lq (c:=(!([]:List V).isEmpty)=true) Z8) ?_
  have as:cw I G (B0.flatMap λw=>cE r (bM r w) w) T=j++[]:=as
  rw [LV] at as
  rw [as] at q
  refine ⟨.ref y,j4,q y uF X KX HF ey (rF.mono<|dR λz hz=>Lg _ hz) ez⟩
 .have cs:=rU.length
  rw [Ll,LC,My] at cs
  obtain ⟨hw,ed⟩:=an w<|Lr _<|LK.mpr rfl
  have ct:(((J++[w]).map cQ))[L.length-1]?=some (cQ w):=by
   rw [cs,Om,LA,LQ<|Lo _,Qg]
   rfl
  obtain ⟨u,hu,ru⟩:=rU.get ct
  have gs:(!L.isEmpty)=true:=by
   cases L with
   |nil=>simp at cs
   |cons _ _=>rfl
  refine Eq.mpr (Lv (c:=(!L.isEmpty)=true) gs) ?_
  rw [LU,PU,List.map_singleton,List.sum_singleton] at go⊢
  refine ⟨λaj af=>∃m',m'<(J.map λw=>dD r (bM r w) w).sum+dD r (bM r w) w/\∃(j:List cj) (stack:List aF) (uF L:List V),cw I G (B0.flatMap λw=>cE r (bM r w) w) T=j++cw I G (stack.reverse.flatMap λw=>cE r (bM r w) w) (T++aC j)/\(∀g∈T++aC j,fD g)/\m'=(stack.map λw=>dD r (bM r w) w).sum/\j.length+m'<=dD r r.steps.length ([],[])/\(∀w∈stack,GoodW sz r.steps w/\R w)/\aj[0]?=some (some (.ref a))/\aj[2]?=some (some (.ref aL))/\aj[4]?=some (some (.ref y))/\aj[5]?=some (some (.ref k))/\af y=some (.lst uF)/\az (but af (k::y::M)) uF (j.map eX)/\af k=some (.lst L)/\az (but af (k::y::M)) L (stack.map cQ)/\af N=some (.dT<|cy<|T++aC j)/\(∀b u,b≠N->H b=some u->af b=some u)/\ap (k::y::M) af/\ab (but H M) (but af (k::y::M))/\ax (but af (k::y::M)) aj [none,some (.int ((G:Nat):Int)),none,some (.tup I),none,none,none,none],λaj af h=>h,?_⟩
  refine ⟨.ref k,j5,(show gM K "list" (.ref k) _ from .inl ⟨rfl,L,aQ.of ec⟩),k,L,u,rfl,rfl,ec,hu,?_⟩
  have eb:but (upd X k (.lst L.dropLast)) (k::y::M)=but X (k::y::M):=dw Lj
  have bd:az (but (upd X k (.lst L.dropLast)) (k::y::M)) L.dropLast (J.map cQ):=by
   rw [eb]
   have h1:=rU.take J.length
   rw [LU,M6 (by rw [Ll];exact Lo _),LS (l:=List.map cQ J) (by rw [Ll];exact Lo _)] at h1
   have h2:L.dropLast=L.take J.length:=by rw [List.dropLast_eq_take,cs,Om]
   rw [h2];exact h1
  have Ea:ax (but (upd X k (.lst L.dropLast)) (k::y::M)) (O.set 6<|some u) [none,some (.int ((G:Nat):Int)),none,some (.tup I),none,none,some<|cQ w,none]:=by rw [eb];exact EX.set 6 ru
  have la:ap (k::y::M) (upd X k (.lst L.dropLast)):=lX.upd
  have Ka:∀b u,b≠N->H b=some u->(upd X k (.lst L.dropLast)) b=some u:=λb o hb e=>by
   rw [aA λz=>by rw [z,HU] at e;cases e];exact KX b o hb e
  have e1:ab (but H M) (but (upd X k (.lst L.dropLast)) (k::y::M)):=by rw [eb];exact gp
  have a2:(upd X k (.lst L.dropLast)) y=some (.lst uF):=by rw [aA b6];exact ey
  have am:(upd X k (.lst L.dropLast)) k=some (.lst L.dropLast):=aN
  have b8:(upd X k (.lst L.dropLast)) N=some (.dT<|cy<|T++aC j):=by rw [aA b7];exact ez
  have c1:az (but (upd X k (.lst L.dropLast)) (k::y::M)) uF (j.map eX):=by rw [eb];exact rF
  have b0:(O.set 6<|some u)[0]?=some (some (.ref a)):=(Lm Z1).trans j0
  have b2:(O.set 6<|some u)[2]?=some (some (.ref aL)):=(Lm Z1).trans j2
  have b4:(O.set 6<|some u)[4]?=some (some (.ref y)):=(Lm Z1).trans j4
  have b5:(O.set 6<|some u)[5]?=some (some (.ref k)):=(Lm Z1).trans j5
  clear eb rU ru
  generalize upd X k (.lst L.dropLast)=Xa at bd Ea la Ka e1 a2 am b8 c1
  generalize L.dropLast=uV at bd am
  have a1:cw I G (B0.flatMap λw=>cE r (bM r w) w) T=j++cw I G (cE r (bM r w) w++J.reverse.flatMap λw=>cE r (bM r w) w) (T++aC j):=by
   rw [as,List.reverse_append,Pe]
   simp
  have gy:(aC j).length=j.length:=by unfold aC;rw [Ll]
  have e2:∀n,n<=dD r r.steps.length ([],[])->n<sizeLine:=λn h=>by omega
  have hh:=vM r J
  have dp:=BZ r (bM r w) w
  have dt:∀p∈w.1,p.2.sc=true:=λp hp=>(hw.ok p hp).1
  have a3:bW (bh I w):=xD hG.cJ dt
  have d0:∀g∈T++aC j,bW g:=λg hg=>(U g hg).1
  refine fV (i:=7) (d:=.tup<|bh I w) la Ea (bQ (R:=oX) ⟨I,w.1,rfl,hG.cJ,dt,by have:=hG.hl;omega,rfl⟩<|aa (aG Ea rfl)<|aa (cv (ds:=[.lst<|pairD w.1,.tup<|w.2.map λn=>D.int (n:Nat)]) (d:=.lst<|pairD w.1) rfl (aG Ea rfl) av) ag) λg0 Xb ob sb lb Eb=>?_
  have c0:=(ob 0 Z1).trans b0
  have c2:=(ob 2 Z1).trans b2
  have c4:=(ob 4 Z1).trans b4
  have c5:=(ob 5 Z1).trans b5
  have bi:=e1.trans<|sb.but (k::y::M)
  have cd:=sb _ _ b8
  obtain ⟨v7,e7,r7⟩:=Eb.get 7 _ rfl
  obtain ⟨e3,hn,g1,h7,g2⟩:=r7.eP
  subst g1
  have eg:=(aw h7).2
  rw [mj a3 g2] at eg
  have g3:=(aw<|bi _ _ ha).2
  refine ⟨.ref e3,e7,.ref a,c0,a,CW,dx,_,.ref N,rfl,g3,TW.cl,TW.nT,rfl,N,_,rfl,cT.t cd eg,_,rfl,?_⟩
  rw [wH a3 d0]
  by_cases bk:bh I w∈T++aC j
  .
   rw [LH bk]
   refine Eq.mpr (Lq (c:=(!true)=true) Z8) ?_
   have g4:=hG.skip w ed (U _ bk).2
   refine ⟨_,PJ dp,j,J,uF,uV,?_,U,rfl,by omega,λx hx=>an x<|Lu _ hx,c0,c2,c4,c5,sb _ _ a2,c1.mono<|sb.but _,sb _ _ am,bd.mono<|sb.but _,cd,λb u hb e=>sb _ _<|Ka b u hb e,lb,bi,(Eb.drop 7).drop 6⟩
   rw [a1,B4 _ _ _ λx hx=>by rw [g4 x hx];exact bk]
  .rw [LR bk]
   refine Eq.mpr (Lv (c:=(!false)=true) rfl) ?_
   refine ij lb Eb (Jn c2 (ch.mono bi)<|aG Eb rfl) (λe Xc sc lc Ec=>?_) λe Xc sc lc Ec=>?_
   .have e:=LD e
    have kM:cE r (bM r w) w=[w]:=by
     have:bM r w=0:=by unfold bM;omega
     rw [this];rfl
    have g5:fD (bh I w):=⟨a3,hG.flat w ed e⟩
    have g6:=(aw<|((sc.but (k::y::M)) _ _<|bi _ _ ha)).2
    have e4:=sc _ _ cd
    refine ⟨.ref a,c0,a,CW,dx,_,.ref N,rfl,g6,TW.cl,TW.nT,rfl,.ref e3,e7,N,_,rfl,gu.t e4 (sc _ _ eg) (by rw [zI,LC,gy];omega),?_⟩
    rw [AM a3 d0,Lq bk]
    have c3:but (upd Xc N (.dT<|cy<|T++aC j++[bh I w])) (k::y::M)=but Xc (k::y::M):=dw<|Lg _<|Lg _ ek
    have Ed:ax (but (upd Xc N (.dT<|cy<|T++aC j++[bh I w])) (k::y::M)) g0 [none,some (.int ((G:Nat):Int)),none,some (.tup I),none,none,some<|cQ w,some (.tup<|bh I w)]:=by rw [c3];exact Ec
    have d1:(upd Xc N (.dT<|cy<|T++aC j++[bh I w])) y=some (.lst uF):=by rw [aA<|Ml dd];exact sc _ _<|sb _ _ a2
    have d2:(upd Xc N (.dT<|cy<|T++aC j++[bh I w])) k=some (.lst uV):=by rw [aA<|Ml b7];exact sc _ _<|sb _ _ am
    have e5:az (but (upd Xc N (.dT<|cy<|T++aC j++[bh I w])) (k::y::M)) uF (j.map eX):=by rw [c3];exact c1.mono<|(sb.trans sc).but _
    have e6:az (but (upd Xc N (.dT<|cy<|T++aC j++[bh I w])) (k::y::M)) uV (J.map cQ):=by rw [c3];exact bd.mono<|(sb.trans sc).but _
    have Kd:∀b u,b≠N->H b=some u->(upd Xc N (.dT<|cy<|T++aC j++[bh I w])) b=some u:=λb u hb e=>by rw [aA hb];exact sc _ _<|sb _ _<|Ka b u hb e
    have e8:ab (but H M) (but (upd Xc N (.dT<|cy<|T++aC j++[bh I w])) (k::y::M)):=by rw [c3];exact bi.trans<|sc.but _
    have ld:ap (k::y::M) (upd Xc N (.dT<|cy<|T++aC j++[bh I w])):=lc.upd
    have d3:(upd Xc N (.dT<|cy<|T++aC j++[bh I w])) N=some (.dT<|cy<|T++aC j++[bh I w]):=aN
    generalize upd Xc N (.dT<|cy<|T++aC j++[bh I w])=Xd at Ed d1 d2 e5 e6 Kd e8 ld d3
    refine tM ld Ed (a:=y) (d:=eX (bh I w,(G,w.2))) Z8 c4 d1 e5 (by rw [Ll];exact e2 _ Z4) (aR<|aa (aG Ed rfl)<|aa (aG Ed rfl)<|aa (cv (ds:=[.lst<|pairD w.1,.tup<|w.2.map λn=>D.int (n:Nat)]) (d:=.tup<|w.2.map λn=>D.int (n:Nat)) rfl (aG Ed rfl) av) ag) λvd Xe ke le he re Ee=>?_
    have Se:ab (but Xd (k::y::M)) (but Xe (k::y::M)):=lD Z8 ke
    have ei:aC (j++[(bh I w,(G,w.2))])=aC j++[bh I w]:=by rw [nH];rfl
    refine ⟨_,PJ dp,j++[(bh I w,(G,w.2))],J,_,uV,?_,?_,rfl,?_,λx hx=>an x<|Lu _ hx,c0,c2,c4,c5,he,?_,ke _ _ (Ml b6) d2,e6.mono Se,?_,?_,le,e8.trans Se,(Ee.drop 7).drop 6⟩
    .rw [a1,kM,List.singleton_append,mO bk,ei,<-Mm T]
     exact (Mm j [(bh I w,(G,w.2))] _).symm
    .rw [ei,<-Mm]
     intro g hg
     rcases LI.mp hg with z|z
     .exact U g z
     .rw [LK.mp z];exact g5
    .rw [LC,My];omega
    .rw [LU];exact re
    .rw [ei,<-Mm];exact ke _ _ dd d3
    .exact λb u hb e=>ke b u (λz=>by rw [z,HF] at e;cases e)<|Kd b u hb e
   .have e:=Mu e
    have ho:=hw.two
    have ej:w.2.length<r.steps.length:=by omega
    have g7:=yS hR hw
    have fa:=Kh ej
    have fl:=KD ej
    have fn:=bi.trans<|sc.but (k::y::M)
    have hq:=vM r<|cc r w
    refine ⟨.ref k,c5,(show gM K "list" (.ref k) _ from .inl ⟨rfl,uV,aQ.of<|sc _ _<|sb _ _ am⟩),DM c2 (ch.mono fn) hR hw ej (aG Ec rfl) (k::y::M) Xc (ab.refl _) lc _ λv Xd sd rv=>?_⟩
    obtain ⟨bc,zs,rfl,g8,fp⟩:=rv.dI
    have g9:=fp.length
    rw [Ll] at g9
    have hc:=bd.length
    rw [Ll] at hc
    have bl:=sb.trans<|sc.trans sd
    refine ⟨k,bc,uV,zs,rfl,rfl,bl _ _ am,(aw g8).2,MK<|e2 _ Z4,?_⟩
    have dc:but (upd Xd k (.lst<|uV++zs)) (k::y::M)=but Xd (k::y::M):=dw Lj
    refine ⟨((J++cc r w).map λw=>dD r (bM r w) w).sum,?_,j,J++cc r w,uF,uV++zs,?_,U,rfl,?_,λx hx=>?_,c0,c2,c4,c5,?_,?_,aN,?_,?_,?_,(lc.same sd).upd,?_,?_⟩
    .rw [LU,PU,fa];omega
    .rw [a1,fl,List.reverse_append,Pe]
    .rw [LU,PU];omega
    .rcases LI.mp hx with z|z
     .exact an x<|Lu _ z
     .exact ⟨g7 x z,hG.rs w ed x z⟩
    .rw [aA b6];exact bl _ _ a2
    .rw [dc];exact c1.mono<|bl.but _
    .rw [dc,LU];exact (bd.mono<|bl.but _).append fp
    .rw [aA b7];exact bl _ _ b8
    .exact λb u hb e=>by rw [aA λz=>by rw [z,HU] at e;cases e];exact bl _ _<|Ka b u hb e
    .rw [dc];exact fn.trans<|sd.but _
    .rw [dc];exact ((Ec.same sd).drop 7).drop 6
end
end a7
namespace a7
open PySem L2 FL
section
variable {P:Program}{w:World}{K:PySem.W.Frag}{mg:Str->Option Value}{base:Heap}{f:Addr}{fd:FuncData}
def pR:bV ["self","facts","fact","found","number","loom"] ["self","facts"] (be mL):=⟨rfl,rfl,rfl,Z9,rfl,Z9,Z9⟩
def Gn(F:aI K "one_round" "Weaving.one_round" mL f fd)(TL:kU K CL)(TW:pe K CW)(B:Bl mg)(a1:d7 P w K mg base 4 CL "take_in" ["self","facts"] (zO C CL))(ao:d7 P w K mg base 5 CW "given_by" ["self","number","loom"] (Au C CL CW)):bp P w K mg base bD 6 f fd ["self","facts"] (xN C CL CW):=by
 refine F.ok pR (λvs H Q E q0=>by obtain ⟨_,_,_,_,_,_,_,_,_,_,_,_,_,e,_⟩:=q0;rw [e];rfl) λj2 A g1 s H vs Q E hr h=>?_
 obtain ⟨Z,a,dx,vr,ll,td,us,ac,I,l,T,c,v1,rfl,lv,ha,g2,c2,ev,ew,g3,rr,r1,hO,q⟩:=h
 have g4:=fJ hr
 have lJ:=TL.cl
 have nP:=TW.cl
 refine ⟨_,(aD (cO LM rfl (ck<|pv 1) (bq 2 pR.nd)<|aE<|ly g4 (dB (pv 0) rfl) (pv 2) eh rfl)
   (aD (bj 3 pR.nd<|dj ar)
   (aD (cO LM rfl (Ao B.enumerate<|ak (dB (pv 0) rfl) ar) (ml rfl<|fb (bq 4 pR.nd)<|fb (bq 5 pR.nd) jM) (aD (il<|jH (pv 5) lJ a1 hr<|ak (pv 1) ar)
   (aE<|il<|pI MP Na Nt sJ (pv 3)<|ak (jH (pv 0) nP ao hr<|ak (pv 4)<|ak (pv 5) ar) ar)))
   (aE<|bE<|pv 3)))),?_⟩
 have E0:ax (but H Z) (L2.start ["self","facts","fact","found","number","loom"] [.ref a,v1]) [none,some (.lst<|c.map D.tup),none,none,none,none]:=fB (.raw (.dat r1 .nil)) _
 have ex:∀g∈de T c,fD g:=λg hg=>by
  rcases (wc c T g).mp hg with z|z
  .exact hO.tok g z
  .exact (hO.p9 g z).2
 have bl:=hO.all
 rw [LC] at bl
 refine gK (M:=Z) (dn<|aG (i:=1) E0 rfl) lv λH1 s1=>?_
 refine ⟨λj O X=>X td=some (.dT<|cy<|de T<|c.take j)/\(∀b u,b≠td->H b=some u->X b=some u)/\ap Z X/\ab (but H1 Z) (but X Z)/\O[0]?=some (some (.ref a))/\ax (but X Z) O [none,some (.lst<|c.map D.tup),none,none,none,none],
  ⟨s1 _ _ g3,λb u _ e=>s1 _ _ e,lv.same s1,ab.refl _,rfl,E0.same s1⟩,λj O X q3=>by obtain ⟨_,_,x,y,_⟩:=q3;exact ⟨y,x⟩,?_,?_⟩
 .rintro j d x O X X' hd ⟨ht,kX,lX,SX,j0,EX⟩ s2 rx
  rw [LA] at hd
  obtain ⟨g,hg,rfl⟩:=Mj.mp hd
  have ey:=Lp hg
  obtain ⟨oo,j4,rfl,h2,g5⟩:=rx.eP
  have ez:=(aw h2).2
  rw [mj (hO.p9 g ey).2.1 g5] at ez
  have g6:but H1 Z a=some (.ins CW dx<|lN vr ll td):=(s1.but Z) _ _ ha
  have e0:=s2 _ _ (aw<|SX _ _ g6).2
  have g7:∀g∈de T (c.take j),bW g:=λg hg=>by
   rcases (wc _ T g).mp hg with z|z
   .exact (hO.tok g z).1
   .exact (hO.p9 g<|OW z).2.1
  have d1:=Gy T c j
  refine ⟨.ref a,(Lm Z1).trans j0,a,CW,dx,_,.ref td,rfl,e0,TW.cl,TW.nT,rfl,.ref oo,Lx (by rw [EX.len];exact (show 2<6 by decide)),td,_,rfl,gu.t (s2 _ _ ht) ez (by rw [zI];exact cp Z4),?_⟩
  rw [AM (hO.p9 g ey).2.1 g7]
  have g8:c.take (j+1)=c.take j++[g]:=by rw [L0,hg];rfl
  have eb:∀o,but (upd X' td o) Z=but X' Z:=λo=>dw ev
  refine ⟨by rw [g8,Eg];exact aN,λb u hb e=>by rw [aA hb];exact s2 _ _<|kX b u hb e,(lX.same s2).upd,by rw [eb];exact SX.trans<|s2.but Z,(Lm Z1).trans j0,?_⟩
  rw [eb]
  exact (EX.same s2).off 2 _
 rintro j5 H2 ⟨bs,k2,l2,S2,g9,E2⟩
 rw [Ll,MR] at bs
 have hc:ab (but H Z) (but H2 Z):=(s1.but Z).trans S2
 clear S2 s1 H1
 refine m4 (i:=3) l2 E2 Z8 ag (LP _) λn vF he H3 o3 i3 n3 h3 r3 l3 k3 E3=>?_
 have ed:ab H2 H3:=λx o e=>(k3 x o e).2
 have a2:H2 n=none:=none_of (ab.refl H2) k3
 have hf:vF=[]:=by cases r3;rfl
 subst hf
 have e5:he[0]?=some (some (.ref a)):=(o3 0 Z1).trans g9
 have dc:ab (but H Z) (but H3 (n::Z)):=hc.trans<|gX a2 ed
 have bi:=c2.fu
 have K3:∀b u,b≠td->H b=some u->H3 b=some u:=λb u hb e=>ed _ _<|k2 b u hb e
 have hh:H n=none:=by
  cases qx:H n with
  |none=>rfl
  |some u=>
   by_cases z:n=td
   .rw [z,bs] at a2;cases a2
   .rw [k2 n u z qx] at a2;cases a2
 have e6:n≠td:=λz=>by rw [z,bs] at a2;cases a2
 have dd:=ed _ _ bs
 have eg:∀{x:Addr},H3 x=none->H x=none:=λ{x} e=>by
  cases qx:H x with
  |none=>rfl
  |some u=>
   by_cases z:x=td
   .rw [z,dd] at e;cases e
   .rw [K3 x u z qx] at e;cases e
 have hi:db C CL H3 (n::Z) us ac l:=c2.frame (λos N x G=>Lg _<|bi os N x G) (λb u q4 e=>by obtain ⟨os,N,hb⟩:=q4;exact K3 b u (λz=>ew os N (by rw [<-z];exact hb)) e) dc
 have i2:=hO.len
 have e7:(fj I l c).length=l.length:=by
  unfold fj
  rw [Ll,List.length_zip]
  omega
 generalize i4:de T c=T1 at ex bs dd q bl
 have d2:∀(j:Nat) r U,I[j]?=some r->l[j]?=some U->(fj I l c)[j]?=some (r.1,fK<|bR U c):=λj r U e1 e2=>by
  unfold fj
  rw [LA,(Pk (z:=(r,U))).mpr ⟨e1,e2⟩]
  rfl
 generalize hk:fj I l c=L at e7 q d2 bl
 have d1:∀j,bb 0 L T1=bb 0 (L.take j) T1++bb (0+(L.take j).length) (L.drop j) (T1++aC (bb 0 (L.take j) T1)):=λj=>by
  have:=wP (L.take j) (L.drop j) 0 T1
  rw [OG] at this
  exact this
 have bt:∀j,T1.length+(bb 0 (L.take j) T1).length<=1000:=λj=>by
  have e:=Mq List.length<|d1 j
  rw [LC] at e
  have e2:(aC<|bb 0 L T1).length=(bb 0 L T1).length:=by unfold aC;rw [Ll]
  omega
 refine rJ (M:=n::Z) (xE (kL TW.cl TW.nL e5 (dc _ _ ha) rfl)<|dc _ _ g2) l3 λH4 s4=>?_
 refine ⟨λj J O X=>∃m uF,db C CL X J us m ((l.take j).map (λU=>bR U c)++l.drop j)/\(∀os∈m,∀x∈os,(∃o∈ac,x∈o)\/H4 x=none)/\(∀b u,b≠td->b≠n->(∀os∈ac,b∉os)->H4 b=some u->X b=some u)/\ap J X/\(∀x∈n::Z,x∈J)/\(∀x∈J,x∈n::Z\/H4 x=none)/\X td=some (.dT<|cy<|T1++aC (bb 0 (L.take j) T1))/\X n=some (.lst uF)/\az (but X J) uF ((bb 0 (L.take j) T1).map eX)/\ab (but H4 (n::Z)) (but X J)/\O[0]?=some (some (.ref a))/\O[3]?=some (some (.ref n))/\ax (but X J) O [none,some (.lst<|c.map D.tup),none,none,none,none],
  ⟨ac,[],?_,λos N x G=>.inl ⟨os,N,G⟩,λb u _ _ _ e=>e,l3.same s4,λx G=>G,λx G=>.inl G,?_,s4 _ _ h3,.nil,ab.refl _,e5,i3,E3.same s4⟩,λj J O X q5=>by obtain ⟨_,_,_,_,_,x,_,_,_,_,_,y,_⟩:=q5;exact ⟨y,x⟩,?_,?_⟩
 .show db C CL H4 (n::Z) us ac ([]++l)
  rw [NM]
  exact hi.frame (λos N x G=>Lg _<|bi os N x G) (λb u _ e=>s4 _ _ e)<|s4.but _
 .show H4 td=some (.dT<|cy<|T1++[])
  rw [LV];exact s4 _ _ dd
 .rintro j J x O X X' hj ⟨m,uF,a3,Y,kX,lX,an,bx,bk,b0,rF,SX,j0,j3,EX⟩ s5 ⟨TT,v,rfl,hl,hv⟩
  have ei:j<l.length:=by rw [<-c2.l1];exact hj
  have b6:=Lk ei
  generalize e8:l[j]=U at b6
  have di:=Lk (show j<I.length by omega)
  generalize I[j]'(show j<I.length by omega)=ru at di
  obtain ⟨hd,fa⟩:=ru
  obtain ⟨R,sz,hG,i5⟩:=hO.give j _ U di b6
  obtain ⟨fl,hm,hn⟩:=hO.dA U<|Lp b6
  refine ⟨TT,_,rfl,br.of (aw hl).2,rfl,_,[v],rfl,v,[],rfl,rfl,?_⟩
  have fn:=lX.same s5
  have d3:((l.take j).map (λU=>bR U c)++l.drop j)[j]?=some U:=by
   rw [LQ (by rw [Ll,L9];omega),Ll,L9,show j-min j l.length=0 by omega,List.getElem?_drop,Nat.add_zero]
   exact b6
  have d4:db C CL X' J us m ((l.take j).map (λU=>bR U c)++l.drop j):=a3.frame a3.fu (λb u _ e=>s5 _ _ e)<|s5.but _
  obtain ⟨aj,dp,hu,fp,fr,d5⟩:=d4.get j U d3
  rw [hv] at hu
  cases hu
  have E5:ax (but X' J) ((O.set 4<|some (.int ((j:Nat):Int))).set 5<|some (.ref aj)) [none,some (.lst<|c.map D.tup),none,none,some (.int ((j:Nat):Int)),none]:=((EX.same s5).set 4 (.int _)).off 5 _
  have fs:=EX.len
  have c0:((O.set 4<|some (.int ((j:Nat):Int))).set 5<|some (.ref aj))[0]?=some (some (.ref a)):=(Lm Z1).trans<|(Lm Z1).trans j0
  have c3:((O.set 4<|some (.int ((j:Nat):Int))).set 5<|some (.ref aj))[3]?=some (some (.ref n)):=(Lm Z1).trans<|(Lm Z1).trans j3
  have c4:((O.set 4<|some (.int ((j:Nat):Int))).set 5<|some (.ref aj))[4]?=some (some (.int ((j:Nat):Int))):=(Lm Z1).trans<|Lx (by rw [fs];exact (show 4<6 by decide))
  have c5:((O.set 4<|some (.int ((j:Nat):Int))).set 5<|some (.ref aj))[5]?=some (some (.ref aj)):=Lx (by rw [MU,fs];exact (show 5<6 by decide))
  generalize (O.set 4<|some<|V.int ((j:Nat):Int)).set 5 (some (.ref aj))=τ at E5 c0 c3 c4 c5
  obtain ⟨ft,c1,hp⟩:=E5.get 1 _ rfl
  obtain ⟨hs,kc,kd,hw,i7,i8,fv,jk⟩:=id fr
  refine ⟨.ref aj,c5,aj,hs,_,rfl,hw,rfl,ft,c1,J,dp,U,c,aj,ft,rfl,fn,fr,hp,λg hg=>(hO.p9 g hg).1,hn,fl,hm,λk X6 n6 k6 l6 L6=>?_⟩
  have h0:td∈J:=an td<|Lg _ ev
  have f0:n∈J:=an n Lj
  have f1:H4 td≠none:=λz=>by rw [s4 _ _ dd] at z;cases z
  have f2:H4 n≠none:=λz=>by rw [s4 _ _ h3] at z;cases z
  have b7:∀{y:Addr},(∀o∈ac,y∉o)->H4 y≠none->∀os∈m,y∉os:=λ{y} h1 h2 os N hy=>by
   rcases Y os N y hy with ⟨o,am,w⟩|w
   .exact h1 o am w
   .exact h2 w
  have b8:=b7 ew f1
  have as:=b7 (λo N z=>by have:=bi o N n z;exact n3 this) f2
  have af:=Lp fp
  have cd:∀x∈k.flatten,x∈aj::dp.flatten\/X' x=none:=λx G=>by
   obtain ⟨os,N,hy⟩:=Mc.mp G
   rcases n6 os N x hy with ⟨o,am,w⟩|w
   .exact .inl<|Lg _<|Mc.mpr ⟨o,am,w⟩
   .exact .inr w
  have ch:∀b u,b∉aj::dp.flatten->X' b=some u->X6 b=some u:=λb u hb e=>k6 b u (λz=>hb (by rw [z];exact Lj)) (λos N z=>hb<|Lg _<|Mc.mpr ⟨os,N,z⟩) e
  have ej:=d4.put fn d3 hv fp Lj cd ch L6
  have ek:ab (but X' J) (but X6<|k.flatten++J):=λb u e=>by
   obtain ⟨q1,q2⟩:=aw e
   rw [bf]
   .exact ch b u (λz=>q1<|d5 b z) q2
   .intro z
    rcases LI.mp z with z|z
    .rcases cd b z with w|w
     .exact q1<|d5 b w
     .rw [w] at q2;cases q2
    .exact q1 z
  have ea:((l.take j).map (λU=>bR U c)++l.drop j).set j (bR U c)=(l.take<|j+1).map (λU=>bR U c)++l.drop (j+1):=by
   have f3:((l.take j).map λU=>bR U c).length=j:=by rw [Ll,L9];omega
   rw [List.set_append_right _ _ Z4,f3,Qg,Nk ei,List.set_cons_zero,L0,Lk ei,LU,Mm,e8]
   rfl
  rw [ea] at ej
  have f4:X6 td=some (.dT<|cy<|T1++aC (bb 0 (L.take j) T1)):=ch _ _ (b8 _ af)<|s5 _ _ bk
  have co:X6 n=some (.lst uF):=ch _ _ (as _ af)<|s5 _ _ b0
  have E6:=E5.mono ek
  have f5:ab (but H4 (n::Z)) (but X6<|k.flatten++J):=SX.trans<|(s5.but _).trans ek
  have em:ab (but H Z) (but X6<|k.flatten++J):=dc.trans<|(s4.but _).trans f5
  have ga:=rF.mono<|(s5.but _).trans ek
  obtain ⟨Mg,a0⟩:∃Mg:ZX,∀x,x∈Mg↔x∈k.flatten++J/\x∉aj::k.flatten:=⟨(k.flatten++J).filter λx=>decide (x∉aj::k.flatten),λx=>by rw [Ly,NR]⟩
  have a4:∀x∈Mg,x∈k.flatten++J:=λx G=>((a0 x).mp G).1
  have gb:ab (but X6<|k.flatten++J) (but X6 Mg):=dR a4
  have h4:iJ C CL (but X6 Mg) (.ref aj) (bR U c):=L6.rep a4 (λz=>((a0 aj).mp z).2 Lj) λos N x G z=>((a0 x).mp z).2<|Lg _<|Mc.mpr ⟨os,N,G⟩
  have cs:∀{y:Addr},X' y≠none->y∉aj::dp.flatten->y∉aj::k.flatten:=λ{y} h1 h2 z=>by
   rcases Lw.mp z with w|w
   .exact h2 (by rw [w];exact Lj)
   .rcases cd y w with u|u
    .exact h2 u
    .exact h1 u
  have bc:td∈Mg:=(a0 td).mpr ⟨Lr _ h0,cs (λz=>by rw [s5 _ _ bk] at z;cases z)<|b8 _ af⟩
  have ec:n∈Mg:=(a0 n).mpr ⟨Lr _ f0,cs (λz=>by rw [s5 _ _ b0] at z;cases z)<|as _ af⟩
  have en:∀g∈T1++aC (bb 0 (L.take j) T1),fD g:=λg hg=>by
   rcases LI.mp hg with z|z
   .exact ex g z
   .obtain ⟨y,hy,rfl⟩:=LG.mp z
    obtain ⟨_,i,qq,hq,_,ww,ep,e1,_⟩:=pQ _ _ _ y hy
    have eq:(fj I l c)[i]?=some qq:=by
     rw [hk]
     have h5:=(Li.mp hq).1
     rw [L9] at h5
     rw [N7 Z4] at hq
     exact hq
    unfold fj at eq
    rw [LA] at eq
    obtain ⟨⟨r',h6⟩,hz,rfl⟩:=Mj.mp eq
    obtain ⟨e3,e4⟩:=Pk.mp hz
    obtain ⟨R',ke,G',_⟩:=hO.give i r' h6 e3 e4
    rw [e1]
    exact G'.kD ww ep
  have kk:τ.length=6:=E5.len
  refine ⟨.ref n,c3,(show gM K "list" (.ref n) _ from .inl ⟨rfl,uF,aQ.of co⟩),.ref a,c0,a,dx,_,rfl,(aw<|em _ _ ha).2,rfl,.int ((j:Nat):Int),c4,.ref aj,c5,Mg,bR U c,a,dx,vr,ll,td,I,j,hd,fa,T1++aC (bb 0 (L.take j) T1),R,sz,.ref aj,rfl,λx G=>l6 x<|a4 x G,(em.trans gb) _ _ ha,bc,f4,en,rr.mono<|em.trans gb,di,h4,?_,hG,?_,λp ds X7 k7 gd h7 r7 gh=>?_⟩
  .show ((U.steps).map _).length<=100
   rw [Ll];exact fl
  .have:=bt j
   have e2:(aC<|bb 0 (L.take j) T1).length=(bb 0 (L.take j) T1).length:=by unfold aC;rw [Ll]
   rw [LC,e2]
   have:sizeLine=16777216:=by decide
   omega
  have gl:=d2 j _ U di b6
  have h8:L.take (j+1)=L.take j++[(hd,fK<|bR U c)]:=by rw [L0,gl];rfl
  have er:(L.take j).length=j:=by rw [L9];omega
  have ct:bb 0 (L.take<|j+1) T1=bb 0 (L.take j) T1++cw hd j (fK<|bR U c) (T1++aC (bb 0 (L.take j) T1)):=by
   rw [h8,wP,er,N0]
   show _++(cw hd j _ _++[])=_
   rw [LV]
  have km:n≠p:=λz=>by rw [<-z,co] at gd;cases gd
  have gn:X7 n=some (.lst uF):=k7 _ _ e6 co
  have dt:=bt<|j+1
  rw [ct,LC] at dt
  have ih:=r7.length
  rw [Ll] at ih
  have it:=ga.length
  rw [Ll] at it
  refine ⟨n,p,uF,ds,rfl,rfl,gn,h7,MK<|cp Z4,?_⟩
  have L7:db C CL X7 (k.flatten++J) us (m.set j (aj::k.flatten)) ((l.take<|j+1).map (λU=>bR U c)++l.drop (j+1)):=by
   have es:∀os∈m.set j (aj::k.flatten),td∉os:=λos N=>by
    rcases Nl N with w|w
    .exact b8 os w
    .rw [w];exact ((a0 td).mp bc).2
   refine ej.frame ej.fu (λb u q6 e=>by obtain ⟨os,N,hb⟩:=q6;exact k7 b u (λz=>es os N (by rw [<-z];exact hb)) e) λb u e=>?_
   obtain ⟨q1,q2⟩:=aw e
   rw [bf q1]
   exact k7 b u (λz=>q1 (by rw [z];exact a4 td bc)) q2
  have et:ab (but X6<|k.flatten++J) (but X7<|k.flatten++J):=λb u e=>by
   obtain ⟨q1,q2⟩:=aw e
   rw [bf q1]
   exact k7 b u (λz=>q1 (by rw [z];exact a4 td bc)) q2
  have go:n∈k.flatten++J:=a4 n ec
  have eb:but (upd X7 n (.lst<|uF++ds)) (k.flatten++J)=but X7 (k.flatten++J):=dw go
  have iv:∀x∈aj::k.flatten,∀ts,X7 x≠some (.tup ts):=by
   have ix:=L7.get j (bR U c) (by
    rw [<-ea,Lx (by rw [LC,Ll,L9,NZ];omega)])
   obtain ⟨a',j1,_,e2,A',_⟩:=ix
   rw [Lx (by rw [a3.l2,LC,Ll,L9,NZ];omega)] at e2
   have e2:=LB e2
   rw [e2]
   exact A'.FZ
  have i0:az (but X7<|k.flatten++J) ds ((cw hd j (fK<|bR U c)<|T1++aC (bb 0 (L.take j) T1)).map eX):=by
   have h1:=r7.mono<|dR (H:=X7) (M:=Mg) (M':=p::Mg) λx G=>Lg _ G
   have h2:=az.oP iv (xk λd i1=>by
    obtain ⟨y,hy,rfl⟩:=LG.mp i1
    obtain ⟨_,_,ww,ep,e1,_⟩:=pF _ _ y hy
    exact J5 y (by rw [e1];exact (hG.kD ww ep).1)) h1
   rw [jv (M':=k.flatten++J)] at h2
   .exact h2
   .intro x
    rw [LI]
    constructor
    .rintro (w|w)
     .rcases Lw.mp w with z|z
      .rw [z];exact Lr _ fv
      .exact Lu _ z
     .exact a4 x w
    .intro w
     by_cases z:x∈aj::k.flatten
     .exact .inl z
     .exact .inr<|(a0 x).mpr ⟨w,z⟩
  have gp:∀{x:Addr},X' x=none->(∃o∈ac,x∈o)\/H4 x=none:=λ{x} e=>by
   by_cases z:∃o∈ac,x∈o
   .exact .inl z
   .cases qx:H4 x with
    |none=>exact .inr rfl
    |some u=>
     by_cases z1:x=td
     .rw [z1,s5 _ _ bk] at e;cases e
     .by_cases z2:x=n
      .rw [z2,s5 _ _ b0] at e;cases e
      .have:=s5 _ _ (kX x u z1 z2 (λo N G=>z ⟨o,N,G⟩) qx)
       rw [e] at this;cases this
  refine ⟨k.flatten++J,m.set j (aj::k.flatten),uF++ds,?_,λos N x G=>?_,λb u hb d0 gs e=>?_,?_,λx G=>Lr _<|an x G,λx G=>?_,?_,aN,?_,?_,c0,c3,?_⟩
  .have eu:∀os∈m.set j (aj::k.flatten),n∉os:=λos N=>by
    rcases Nl N with w|w
    .exact as os w
    .rw [w];exact ((a0 n).mp ec).2
   refine L7.frame L7.fu (λb u ⟨os,N,hb⟩ e=>?_) (by rw [eb];exact ab.refl _)
   rw [aA λz=>eu os N (by rw [<-z];exact hb)]
   exact e
  .rcases Nl N with w|w
   .exact Y os w x G
   .rw [w] at G
    rcases Lw.mp G with z|z
    .exact Y _ af x (by rw [z];exact Lj)
    .rcases cd x z with y|y
     .exact Y _ af x y
     .exact gp y
  .rw [aA d0]
   refine k7 b u hb<|ch b u (λz=>?_)<|s5 _ _<|kX b u hb d0 gs e
   rcases Y _ af b z with ⟨o,am,w⟩|w
   .exact gs o am w
   .rw [e] at w;cases w
  .have:ap (k.flatten++J) X7:=λx G z=>by
    cases qx:X6 x with
    |none=>exact l6 x G qx
    |some u=>
     by_cases w:x=td
     .rw [w,gh] at z;cases z
     .rw [k7 x u w qx] at z;cases z
   exact this.upd
  .rcases LI.mp G with z|z
   .rcases cd x z with y|y
    .rcases Y _ af x y with ⟨o,am,w⟩|w
     .exact .inl<|Lg _<|bi o am x w
     .exact .inr w
    .rcases gp y with ⟨o,am,w⟩|w
     .exact .inl<|Lg _<|bi o am x w
     .exact .inr w
   .exact bx x z
  .rw [aA<|Ml e6,gh,ct,nH,Mm]
  .rw [eb,ct,LU]
   exact (ga.mono et).append i0
  .rw [eb];exact f5.trans et
  .rw [eb]
   exact ((E6.mono et).drop 4)
 .rintro J O X ⟨m,uF,a3,Y,kX,lX,an,bx,bk,b0,rF,SX,j0,j3,EX⟩
  have gy:us.length=l.length:=c2.l1
  rw [gy,MR,List.drop_length,LV] at a3
  rw [gy,<-e7,MR] at bk rF
  refine ⟨.ref n,j3,?_⟩
  have bd:∀{x:Addr},H4 x=none->H x=none:=λ{x} e=>eg<|gx s4 e
  have f0:n∈J:=an n Lj
  have as:∀os∈m,n∉os:=λos N hy=>by
   rcases Y os N n hy with ⟨o,am,w⟩|w
   .exact n3<|bi o am n w
   .rw [s4 _ _ h3] at w;cases w
  have Zs:∀x∈J.filter (λx=>decide<|x≠n),x∈J:=λx G=>(Ly.mp G).1
  have g0:n∉J.filter (λx=>decide<|x≠n):=λz=>by simp at z
  refine q (.ref n) X (J.filter λx=>decide<|x≠n) m (λb u hb d0 e=>?_) (λx G=>?_) (λx G=>?_) (λx G=>lX x<|Zs x G) ?_ (λos N x G=>?_) bk ?_
  .have nb:b≠n:=λz=>by rw [z,hh] at e;cases e
   exact kX b u hb nb d0<|s4 _ _<|K3 b u hb e
  .refine Ly.mpr ⟨an x<|Lg _ G,LH λz=>?_⟩
   rw [z] at G;exact n3 G
  .rcases bx x (Zs x G) with z|z
   .rcases Lw.mp z with w|w
    .rw [w] at G;exact absurd G g0
    .exact .inl w
   .exact .inr<|bd z
  .refine a3.frame (λos N x G=>Ly.mpr ⟨a3.fu os N x G,LH λz=>as os N (by rw [<-z];exact G)⟩) (λb u _ e=>e)<|dR Zs
  .rcases Y os N x G with z|z
   .exact .inl z
   .exact .inr<|bd z
  .exact .lst (by rw [bf g0];exact b0)<|rF.mono<|dR Zs
end
end a7
namespace a7
open PySem L2 FL
section
variable {P:Program}{w:World}{K:PySem.W.Frag}{mg:Str->Option Value}{base:Heap}{f:Addr}{fd:FuncData}
def ET:bV ["self","rules"] ["self","rules"] (be lO):=⟨rfl,rfl,rfl,Z9,rfl,Z9,Z9⟩
def GV(F:aI K "__init__" "Weaving.__init__" lO f fd)(J:pe K CW)(t:iU P w K mg base 7 CL "Loom" ["self","body"] (vv C CL)):bp P w K mg base bD 9 f fd ["self","rules"] (Cs C CL CW):=by
 refine F.ok ET (λvs H Q E q0=>by obtain ⟨_,_,_,_,_,e,_⟩:=q0;rw [e];rfl) λas A ac s H vs Q E hr h=>?_
 obtain ⟨M,m,x,g,d,rfl,hx,lv,a0,r1,ay,a1,q⟩:=h
 refine ⟨_,(aD (fw (pv 0) (pv 1) rfl)
   (aD (fw (pv 0) (fh ["rule"] [] 1 (ck<|pv 1) (λ_ _ _ _ _=>(bq 0<|jP _)) (λ_ _ _ _ _=>iG) λ_ _ _ _ _=>(Hj t hr<|ak (m6 (pv 0) aO) ar)) rfl)
   (aE<|fw (pv 0) vk rfl))),?_⟩
 have af:al (but H (x::M)) d (.lst<|m.map aV):=al.eW hx rfl r1
 refine ⟨d,rfl,.ref x,rfl,x,CW,g,[],rfl,hx,J.cl,J.nR,(show 0<1000 by decide),?_⟩
 have N:but (upd H x (.ins CW g<|cN "rules" d [])) (x::M)=but H (x::M):=dw Lj
 have l1:ap (x::M) (upd H x (.ins CW g<|cN "rules" d [])):=(lv.upd).cons aN
 have E1:ax (but (upd H x (.ins CW g<|cN "rules" d [])) (x::M)) (L2.start ["self","rules"] [.ref x,d]) [none,some (.lst<|m.map aV)]:=by
  rw [N];exact fB (.raw (.dat af .nil)) _
 have n:(upd H x (.ins CW g<|cN "rules" d [])) x=some (.ins CW g<|cN "rules" d []):=aN
 have K1:∀b u,b≠x->H b=some u->(upd H x (.ins CW g<|cN "rules" d [])) b=some u:=λb u r e=>by rw [aA r];exact e
 have N1:∀{b:Addr},(upd H x (.ins CW g<|cN "rules" d [])) b=none->H b=none:=λ{b} e=>by
  cases qb:H b with
  |none=>rfl
  |some u=>
   by_cases z:b=x
   .rw [z,n] at e;cases e
   .rw [K1 b u z qb] at e;cases e
 generalize upd H x (.ins CW g<|cN "rules" d [])=H1 at N l1 E1 n K1 N1
 refine IU (M:=x::M) (dn<|aG E1 rfl) l1 ay Z4 λD us o L k2 B O hn l2 aj=>?_
 have am:=k2 _ _ n
 have an:x≠D:=λz=>by rw [<-z,n] at B;cases B
 refine ⟨.ref x,rfl,x,CW,g,_,rfl,am,J.cl,J.nL,(show 1<1000 by decide),λi j=>⟨.ref x,rfl,x,CW,g,[("rules",d),("looms",.ref D)],rfl,?_,J.cl,J.nT,(show 2<1000 by decide),?_⟩⟩
 .rw [aA λz=>by rw [<-z,aN] at j;cases j]
  exact aN
 have T:i≠x:=λz=>by rw [z,aN] at j;cases j
 have a:L i=none:=by rw [aA T] at j;exact j
 have U:i≠D:=λz=>by rw [z,O] at a;cases a
 have Y:∀{b:Addr},L b=none->H b=none:=λ{b} e=>N1<|gx (λc u q=>k2 c u q) e
 have k:∀b,(upd (upd (upd L x (.ins CW g<|cN "looms" (.ref D)<|cN "rules" d [])) i (.dT [])) x (.ins CW g<|cN "told" (.ref i) [("rules",d),("looms",.ref D)])) b=if b=x then some (.ins CW g<|lN d D i) else if b=i then some (.dT []) else L b:=λb=>by
  by_cases z:b=x
  .rw [Lv z,z];exact aN
  .rw [Lq z,aA z]
   by_cases v:b=i
   .rw [Lv v,v];exact aN
   .rw [Lq v,aA v,aA z]
 generalize upd (upd (upd L x (.ins CW g<|cN "looms" (.ref D)<|cN "rules" d [])) i (.dT [])) x (.ins CW g<|cN "told" (.ref i) [("rules",d),("looms",.ref D)])=H5 at k
 have G:∀os∈o,∀y∈os,y≠x/\y≠i:=λos l y p=>by
  refine ⟨λz=>?_,λz=>?_⟩
  .have:=(hn os l y p).1
   rw [z,n] at this;cases this
  .refine l2 y (Lu _<|Mc.mpr ⟨os,l,p⟩) ?_
   rw [z];exact a
 have I:∀b u,b≠x->L b=some u->H5 b=some u:=λb u r e=>by
  rw [k,Lq r,Lq λz=>by rw [z,a] at e;cases e];exact e
 have a2:i∉M:=λz=>lv i z<|Y a
 have a3:x∉o.flatten:=λz=>by
  obtain ⟨os,l,p⟩:=Mc.mp z
  exact (G os l x p).1 rfl
 refine q D i us o H5 (λb u r e=>I b u r<|k2 _ _<|K1 b u r e) (by rw [k,Lv rfl]) (Y a) (by rw [k,Lq T,Lv rfl]) (λos l y p=>⟨N1 (hn os l y p).1,(G os l y p).2⟩) ?_ (λb r z=>?_) ?_
 .rw [bf,k,Lq<|Ml an,Lq<|Ml U]
  .exact O
  .intro z
   rcases Lw.mp z with w|w
   .exact U w.symm
   .rcases LI.mp w with w|w
    .obtain ⟨os,l,p⟩:=Mc.mp w
     exact (hn os l D p).2 rfl
    .exact lv D w<|N1 B
 .rw [k] at z
  by_cases z1:b=x
  .rw [Lv z1] at z;cases z
  .rw [Lq z1] at z
   by_cases v:b=i
   .rw [Lv v] at z;cases z
   .rw [Lq v] at z
    rcases Lw.mp r with w|w
    .exact v w
    .refine l2 b ?_ z
     rcases LI.mp w with w|w
     .exact Lu _ w
     .exact Lr _<|Lg _ w
 .refine aj.frame (λos l y p=>Lg _<|Lu _<|Mc.mpr ⟨os,l,p⟩) (λb u q3 e=>by obtain ⟨os,l,r⟩:=q3;exact I b u (G os l b r).1 e) λb u e=>?_
  obtain ⟨q1,q2⟩:=aw e
  have ao:b≠x:=λz=>q1<|Lr _ (by rw [z];exact Lj)
  rw [bf]
  .exact I b u ao q2
  .intro z
   rcases Lw.mp z with w|w
   .rw [w,a] at q2;cases q2
   .rcases LI.mp w with w|w
    .exact q1<|Lu _ w
    .exact q1<|Lr _<|Lg _ w
end
end a7
namespace a7
open PySem L2 FL
section
variable {P:Program}{w:World}{K:PySem.W.Frag}{mg:Str->Option Value}{base:Heap}{f:Addr}{fd:FuncData}
def Hm:bV ["_law_script","_law_k"] ["_law_script","_law_k"] (be sv):=⟨rfl,rfl,rfl,Z9,rfl,Z9,Z9⟩
def GB (F:aI K "_law_at" "_law_at" sv f fd)(B:Bl mg):bp P w K mg base bD 1 f fd ["_law_script","_law_k"] (bA pY):=by
 refine F.ok Hm (eI (n:=2) λo d p=>by obtain ⟨l,k,e,_⟩:=p;rw [e];rfl) λr A b s H I Q E t h=>?_
 obtain ⟨M,o,d,u,x,⟨l,k,rfl,y,rfl⟩,q⟩:=h
 have J:=eC t
 refine ⟨_,(aD (cx (cX m5 (pv 1)<|da B<|pv 0) (aE<|bE<|bG (pv 0)<|pv 1) cM)
   (aE<|bE aO)),?_⟩
 have E0:=gN x ["_law_script","_law_k"]
 refine ij u E0 (c7<|mP (aG E0 rfl)<|dX<|aa (aG E0 rfl) ag) (λe j c m g=>?_) λe j c m g=>?_
 .have a:=LD e
  have i:l[k.toNat]?=some (lQ l k):=by
   unfold lQ
   rw [Lv a,List.getD,Lk Z4]
   rfl
  exact eA m (cP (me y i) (aG g rfl)<|aG g rfl) λv z C G=>q v z (c.trans C) G
 .have a:=Mu e
  have i:lQ l k=.int 0:=by unfold lQ;rw [Lq a]
  rw [i] at q
  exact q (.int 0) j c (.int 0)
def Kx:bV ["_law_found"] ["_law_found"] (be t8):=⟨rfl,rfl,rfl,Z9,rfl,Z9,Z9⟩
def Ep (F:aI K "_law_whole" "_law_whole" t8 f fd)(B:Bl mg):bp P w K mg base bD 1 f fd ["_law_found"] (bA uE):=by
 refine F.ok Kx (eI (n:=1) λb d c=>by obtain ⟨x,e,_⟩:=c;rw [e];rfl) λg A a s H k Q E l h=>?_
 obtain ⟨M,b,d,i,j,⟨x,rfl,rfl⟩,q⟩:=h
 refine ⟨_,(aE<|bE<|n9 (jg B (pv 0) B.int OF)<|pr<|Ap<|jg B (pv 0) B.bool PyProof.Rows.boot_bool),?_⟩
 have E0:=gN j ["_law_found"]
 exact eA i (fq (nW<|aG E0 rfl) λ_=>Ch<|C9<|aG E0 rfl) q
def KU:bV ["_law_script"] ["_law_script"] (be sD):=⟨rfl,rfl,rfl,Z9,rfl,Z9,Z9⟩
def Db (F:aI K "_law_mixed" "_law_mixed" sD f fd)(B:Bl mg):bp P w K mg base bD 1 f fd ["_law_script"] (bA A6):=by
 refine F.ok KU (eI (n:=1) λz d C=>by obtain ⟨x,e,_⟩:=C;rw [e];rfl) λG A b s H u Q E hr h=>?_
 obtain ⟨M,z,d,I,J,⟨a,rfl,L,rfl⟩,q⟩:=h
 refine ⟨_,(aE<|bE<|fh ["_law_script","_law_k"] [0] 1 (oE rfl B.range<|ak (da B<|pv 0) ar) (λ_ _ _ _ _=>(bq 1 (show (["_law_script","_law_k"]:ZY).Nodup from by decide+kernel))) (λ_ _ _ _ _=>iG) λ_ _ _ _ _=>(cC eo (cC yR (cC jK (m6 (pv 0)<|pv 1)<|cC yR aO<|pv 1) aO) aO)),?_⟩
 have E0:=gN J ["_law_script"]
 obtain ⟨N,c,O⟩:=E0.get 0 _ rfl
 let g:D->D:=λd=>match d with
  |.int j=>.int<|(a.getD j.toNat 0+7919*j)*48271%1000003
  |_=>.aq
 have m:=gk (caps:=a5 [0] 1) (i:=1) (p:=λ_=>true) (f:=g) (tt:=j7) (te:=bZ (rI (λ_ j=>0<j) λi j=>.int<|i%j) (bZ (rI mo λi j=>.int<|i*j) (bZ (fS λi j=>.int<|i+j) (bZ (gS K) (aY 0)<|aY 1)<|bZ (rI mo λi j=>.int<|i*j) (tC (.int 7919))<|aY 1)<|tC (.int 48271))<|tC (.int 1000003))
  (yK (n:=a.length) Z4<|aa ((dX (K:=K) (l:=a.map D.int)<|aa (aG (i:=0) E0 rfl) ag).eq Z8) ag)
  (λT v d _ _ _=>jn) (λT v d U Y _ r=>?_) (by simp only [Ll,N5];exact cp Z4)
 .refine eA I (m.eq ?_) q
  have e1:(List.filter (λ_=>true)<|(List.range a.length).map λ(k:Nat)=>D.int<|0+k)=(List.range a.length).map λ(k:Nat)=>D.int (0+k):=Mp.mpr λ_ _=>rfl
  rw [e1]
  show D.lst _=D.lst _
  congr 1
  unfold lq
  rw [Mb,Mb]
  refine LW λk _=>?_
  show D.int ((a.getD (0+(k:Int)).toNat 0+7919*(0+(k:Int)))*48271%1000003)=D.int _
  have o:(0+(k:Int)).toNat=k:=by omega
  rw [o,Int.zero_add]
 .obtain ⟨k,hk,rfl⟩:=LG.mp Y
  have t:k<a.length:=NY.mp hk
  have h0:((a5 [0] 1<|L2.start ["_law_script"] u).set 1<|some v)[0]?=some (some N):=by simp [a5,c]
  have y:((a5 [0] 1<|L2.start ["_law_script"] u).set 1<|some v)[1]?=some (some v):=by simp [a5]
  have ix:dM (a.map D.int) (0+(k:Int))=some (.int<|a.getD (0+(k:Int)).toNat 0):=by
   have o:(0+(k:Int)).toNat=k:=by omega
   refine me Z4 ?_
   rw [o,LA,List.getD,Lk t]
   rfl
  exact eD Z1 (AQ (.inr ⟨by decide,by decide⟩) (kl (cP ix (cA h0<|O.mono U)<|cA y r)<|AQ (.inl ⟨by decide,by decide⟩) av<|cA y r) av) av
def AE:bV ["_law_found","_law_part"] ["_law_found"] (be tU):=⟨rfl,rfl,rfl,Z9,rfl,Z9,Z9⟩
def EN (F:aI K "_law_is_fact" "_law_is_fact" tU f fd)(B:Bl mg)(a:a6 P w K mg base 1 "_law_whole" ["_law_found"] (bA uE)):bp P w K mg base bD 2 f fd ["_law_found"] (bA A4):=by
 refine F.ok AE (eI (n:=1) λt d u=>by obtain ⟨_,e,_⟩:=u;rw [e];rfl) λy A k s H T Q E p h=>?_
 obtain ⟨M,t,d,C,I,⟨_,rfl,⟨r,l,rfl,J⟩,rfl⟩,q⟩:=h
 have L:=eC p
 refine ⟨_,(aD (cx (kQ (gg<|dN<|jg B (pv 0) B.tuple PD)<|kQ (cX (f9 (by exact L)) (da B<|pv 0) aO)<|ng<|gg<|dN<|jg B (bG (pv 0) aO) B.str OE).pt (aE<|bE eh) cM)
   (aD (cO LM rfl (ck<|pv 0) (bq 1 AE.nd)<|aE<|cx (kG (gg<|dN<|jg B (pv 1) B.str OE)<|kR<|gg<|dN<|bI a p<|ak (pv 1) ar).pt (aE<|bE eh) cM)
   (aE<|bE eh))),?_⟩
 have N:Bx H M [] _ H [Sl.d (.tup (.str r::l)),.no]:=hJ C I ["_law_found","_law_part"]
 refine aW.run N ?_
 refine lR (λG m e=>li (b:=false) (c:=false) (bJ.eq (f6<|dP<|Dy<|e.v rfl) rfl) λ_=>li (b:=false) (c:=false) (bJ.eq (c7<|jF (nX (K:=K)<|aa (e.v rfl) ag) av)<|LR (by simp;omega)) λ_=>bJ.eq (f6<|dP<|kA<|cv (ds:=.str r::l) (d:=.str r) jr (e.v rfl) av) rfl) ?_
 refine bu<|gP (i:=1) (dQ.of λG m e=>jy<|e.vd rfl) (λ_ g=>∃s,g=[Sl.d (.tup (.str r::l)),s]) ⟨_,rfl⟩ (λU Y hk j x g O o=>?_) λg o=>?_
 .obtain ⟨s,rfl⟩:=o
  have cJ:x.sc=true:=by
   rcases Lw.mp (Lp O) with z|z
   .rw [z];rfl
   .exact J x z
  exact fP (b:=false) (λG m e=>bJ.eq (mi (f6<|dP<|kA<|e.v rfl) λ_=>f6<|dP<|bQ ⟨x,rfl,rfl⟩<|aa (e.v rfl) ag)<|DU cJ) (λz=>nomatch z) λ_=>ik<|eR ⟨_,rfl⟩
 .obtain ⟨s,rfl⟩:=o
  dsimp only
  exact f7 (λG m e=>jw (b:=true)) q
def rT:bV ["_law_atoms","_law_blanks","_law_atom","_law_part"] ["_law_atoms"] (be qt):=⟨rfl,rfl,rfl,Z9,rfl,Z9,Z9⟩
def Gd (F:aI K "_law_blanks_in" "_law_blanks_in" qt f fd)(B:Bl mg):bp P w K mg base bD 1 f fd ["_law_atoms"] (bA Co):=by
 refine F.ok rT (eI (n:=1) λds d q0=>by obtain ⟨_,e,_⟩:=q0;rw [e];rfl) λao A T s H vs Q E hr h=>?_
 obtain ⟨M,ds,d,lv,rs,⟨g,rfl,t,rfl⟩,q⟩:=h
 have hu:=eC hr
 refine ⟨_,(aD (bj 1 rT.nd<|dj ar)
   (aD (cO LM rfl (ck<|pv 0) (bq 2 rT.nd)<|aE<|cO LM rfl (ck<|mr qT (pv 2) (ki aO) on) (bq 3 rT.nd)<|aE<|cx (kG (cX (Gz hu) (pv 3)<|eE<|ak gF<|ak gF<|ak gF ar)<|kR<|cX (wG hu) (pv 3)<|pv 1).pt (aE<|iZ (pv 1)<|pv 3) cM)
   (aE<|bE<|pv 1))),?_⟩
 have b0:Bx H M [] _ H [Sl.d<|cq g,.no,.no,.no]:=hJ lv rs ["_law_atoms","_law_blanks","_law_atom","_law_part"]
 refine aW.run b0<|bu<|rl (i:=1) ?_
 have dA:∀(u:ZW) (l:ZZ) (j:Nat),u.length<=100->(∀a∈u,a.length<=10)->l.length<=10->(ai (aT [] u)<|l.take j).length<=1010:=λu l j h1 h2 h3=>by
  have g1:=y2 (B:=[]) h2
  have g2:=jS (l.take j)<|aT [] u
  rw [L9] at g2
  rw [Nq] at g1
  omega
 refine bu<|gP (i:=2) (ds:=g.map D.tup) (dQ.of λG O e=>jy<|e.vd rfl) (λj m=>∃U p,m=[Sl.d<|cq g,.l<|(aT []<|g.take j).map D.str,U,p]) ⟨_,_,rfl⟩ (λB' sB hk j x m hj r=>?_) λm r=>?_
 .obtain ⟨U,p,rfl⟩:=r
  rw [LA] at hj
  obtain ⟨a,ha,rfl⟩:=Mj.mp hj
  have o:=Lp ha
  obtain ⟨C,Y⟩:=t.ne a o
  have ac:=t.dA.2 a o
  obtain ⟨y,l,rfl⟩:∃y l,a=y::l:=by
   cases a with
   |nil=>exact absurd rfl C
   |cons y l=>exact ⟨y,l,rfl⟩
  have I:l.length<=10:=by rw [Ma] at ac;omega
  have J:aT [] (g.take<|j+1)=ai (aT []<|g.take j) l:=by rw [Fp g j ha,JZ C Y];rfl
  have af:∀z∈g.take j,z∈g:=λz hz=>OW hz
  have aj:(g.take j).length<=100:=by rw [L9];have:=t.dA.1;omega
  refine gP (i:=3) (ds:=l) (dQ.of λG O e=>jy<|qH (k:=1) (l:=y::l) Z1 (Nat.succ_pos _)<|e.vd rfl) (λi m=>∃p,m=[Sl.d<|cq g,.l<|(ai (aT []<|g.take j)<|l.take i).map D.str,.d (.tup (y::l)),p]) ⟨_,rfl⟩ (λB2 a0 a1 i x am hx r=>?_) λam r=>?_
  .obtain ⟨p,rfl⟩:=r
   have L:x∈l:=Lp hx
   have cJ:=t.sc _ o x<|Lg _ L
   have N:aH x=decide (x∈dh):=t.bl _ o x L
   have c:=Gb (B:=aT []<|g.take j) hx
   have hf:=dA (g.take j) l i aj (λz hz=>t.dA.2 z<|af z hz) I
   generalize ai (aT []<|g.take j) (l.take i)=Bj at c hf
   rw [Dl _ _ cJ,N] at c
   refine fP (b:=decide (x∈dh)&& !decide (x∈Bj.map D.str)) (λG O e=>mi (c7<|Jg (λy hy=>gj ((by decide:∀y∈dh,y.sc=true) y hy) cJ) (e.v rfl)<|aR (ds:=dh) (aa aM<|aa aM<|aa aM ag) Z1) λ_=>c7<|xo (λy hy=>by obtain ⟨b,_,rfl⟩:=LG.mp hy;exact gj rfl cJ) (e.v rfl)<|e.v rfl) (λz=>?_) λz=>?_
   .rw [Lv z] at c
    have an:x=.str x.name:=by
     refine jp ?_
     rw [N];exact (Mt.mp z).1
    refine uP (j:=1) (d:=x) rfl (λG O e=>e.v rfl) (oy cJ) (by rw [Ll];exact NI hf Z1) ?_
    rw [show Bj.map D.str++[x]=(Bj++[x.name]).map D.str by rw [LU,an];rfl,<-c]
    exact eR ⟨_,rfl⟩
   .rw [Lq (by rw [z];exact Ls)] at c
    rw [<-c]
    exact ik<|eR ⟨_,rfl⟩
  .obtain ⟨p,rfl⟩:=r
   rw [MR,<-J]
   exact eR ⟨_,_,rfl⟩
 .obtain ⟨U,p,rfl⟩:=r
  rw [Ll,MR]
  exact f7 (λG O e=>e.v rfl) q
def vt:bV ["_law_script","_law_seed","_law_pools"] ["_law_script"] (be qP):=⟨rfl,rfl,rfl,Z9,rfl,Z9,Z9⟩
def Ke (F:aI K "_law_pool_by" "_law_pool_by" qP f fd)(B:Bl mg)(a:a6 P w K mg base 1 "_law_at" ["_law_script","_law_k"] (bA pY)):bp P w K mg base bD 2 f fd ["_law_script"] (bA vV):=by
 refine F.ok vt (eI (n:=1) λo d p=>by obtain ⟨_,e,_⟩:=p;rw [e];rfl) λr A k s H O Q E g h=>?_
 obtain ⟨M,o,d,t,u,⟨b,rfl,rfl⟩,q⟩:=h
 have x:=eC g
 refine ⟨_,(aD (cx (cX (f9 (by exact x)) (cC eo (bI a g<|ak (pv 0)<|ak aO ar) aO) aO) (aE<|bE<|fh ["_law_k"] [] 1 (oE rfl B.range<|ak aO ar) (λ_ _ _ _ _=>(bq 0<|jP _)) (λ_ _ _ _ _=>iG) λ_ _ _ _ _=>(pv 0)) cM)
   (aD (bj 1 vt.nd<|cC eo (bI a g<|ak (pv 0)<|ak aO ar) aO)
   (aD (bj 2 vt.nd<|dj<|ak (dj<|ak gF<|ak aO<|ak gF ar)<|ak (dj<|ak gF<|ak aO<|ak (lH mB aO) ar)<|ak (dj<|ak (cC EK aO aO)<|ak aO<|ak (lH mB aO) ar) ar)
   (aE<|bE<|bG (cC qc (pv 2)<|dj<|ak (dj<|ak gF<|ak (cC jK (pv 1) aO)<|ak (cC wT (lH mB aO)<|pv 1) ar) ar)<|cC eo (cC gt (bI a g<|ak (pv 0)<|ak aO ar) aO) aO)))),?_⟩
 have y:Bx H M [] _ H [Sl.d (.lst<|b.map D.int),.no,.no]:=hJ t u ["_law_script","_law_seed","_law_pools"]
 refine aW.run y<|bu<|fP (λG j e=>c7<|jF (eD Z1 (bQ (kK b 0)<|aa (e.v rfl)<|aa av ag) av) av) (λz=>?_) λz=>?_
 .have m:fZ b=tP:=by unfold fZ;rw [Lv<|LD z]
  rw [m] at q
  exact f7 (λG j e=>ae.eq (e.comp (λ_=>true) (λd=>d) (yK (n:=10) Z1<|aa av ag) (λ_ _ _ _ _=>jn) (λT C d U _ I=>I.v rfl)<|cp Z8) (by rw [Mp.mpr λ_ _=>rfl,OB];rfl)) q
 .obtain ⟨d,J,L,N⟩:=fm (l:=nV<|b.getD 1 0%1000) (n:=4) (b.getD 0 0/4) Z1 rfl
  obtain ⟨c,rfl,_⟩:=zW (PR (b.getD 1 0) (show (1000:Int)≠0 by decide)) d L
  have m:fZ b=c:=by unfold fZ;rw [Lq<|Mu z,<-N];rfl
  rw [m] at q
  refine ik ?_
  dsimp only
  refine bu<|el (i:=1) (d:=.int<|b.getD 1 0%1000) (λG j e=>eD Z1 (bQ (kK b 1)<|aa (e.v rfl)<|aa av ag) av) rfl ?_
  refine bu<|gW (i:=2) (d:=.lst [.lst [.str "ashenashenashen",.int 0,.str "ashenashxnashen"],.lst [.str "ashenashenashen",.int 2,.int (-1)],.lst [.int<|10^(30:Int).toNat,.int 0,.int (-1)]]) (λG j e=>fg<|aa (fg<|aa aM<|aa av<|aa aM ag)<|aa (fg<|aa aM<|aa av<|aa (oQ av) ag)<|aa (fg<|aa (DZ ⟨by decide,by decide,by decide⟩ av av)<|aa av<|aa (oQ av) ag) ag) ?_
  exact f7 (λG j e=>cP (ds:=nV<|b.getD 1 0%1000) J (oK (xs:=[.lst [.str "ashenashenashen",.int 0,.str "ashenashxnashen"],.lst [.str "ashenashenashen",.int 2,.int (-1)],.lst [.int<|10^(30:Int).toNat,.int 0,.int (-1)]]) (ys:=[.lst [.str "qu",.int<|b.getD 1 0%1000+4,.int (-4-b.getD 1 0%1000)]]) (by show 3+1<=1000;decide) (e.v rfl)<|fg<|aa (fg<|aa aM<|aa (kl (e.v rfl) av)<|aa (w9 (oQ av)<|e.v rfl) ag) ag)<|eD Z1 (gm ⟨by decide,by decide⟩ (bQ (kK b 0)<|aa (e.v rfl)<|aa av ag) av) av) q
end
end a7
namespace a7
open PySem L2 FL
section
variable {P:Program}{w:World}{K:PySem.W.Frag}{mg:Str->Option Value}{base:Heap}{f:Addr}{fd:FuncData}
def GW:bV ["_law_atom","_law_things"] ["_law_atom","_law_things"] (be tm):=⟨rfl,rfl,rfl,Z9,rfl,Z9,Z9⟩
def Fu (F:aI K "_law_fill_in" "_law_fill_in" tm f fd)(B:Bl mg):bp P w K mg base bD 1 f fd ["_law_atom","_law_things"] (jo ur):=by
 refine F.ok GW (uy (n:=2) λds d q0=>by obtain ⟨_,_,e,_⟩:=q0;rw [e];rfl) (λcdv A outer s H vs Q E hr h=>?_)
 obtain ⟨M,ds,d,lv,rs,⟨a,S,rfl,hne,cJ,hS,hz,rfl⟩,q⟩:=h
 have hu1:=fJ hr
 obtain ⟨v0,v1,rfl,r0,⟨p,rfl,hp⟩⟩:=vT rs
 have r0:al (but H M) v0 (.tup a):=r0
 refine ⟨_,(aE (bE (sK B (cC qc (dj (ak (bG (pv 0) aO) ar)) (fh ["_law_things","_law_part"] [1] 1 (ck (mr qT (pv 0) (ki aO) on)) (λ_ _ _ _ _=>(bq 1 (show (["_law_things","_law_part"]:ZY).Nodup from by decide+kernel))) (λ_ _ _ _ _=>iG) (λ_ _ _ _ _=>(sT hu1 (pv 0) (pv 1) (pv 1) ⟨rfl,rfl,rfl,rfl⟩))))))),?_⟩
 have E0:ax (but H M) (L2.start ["_law_atom","_law_things"] [v0,.ref p]) [some (.tup a),none]:=fB (.dat r0 (.raw .nil)) ["_law_atom","_law_things"]
 obtain ⟨x,r,rfl⟩:∃x r,a=x::r:=by
  cases a with
  |nil=>exact absurd rfl hne
  |cons x r=>exact ⟨x,r,rfl⟩
 rw [Ma] at hz
 refine eA lv (ae.eq (qk (aa (oK (xs:=[x]) (ys:=r.map (bY S)) (by rw [Ll,My];omega) (fg (aa (cv (d:=x) jr (aG E0 rfl) av) ag)) (ae.eq (gk (caps:=a5 [1] 1) (i:=1) (p:=λ_=>true) (f:=bY S) (tt:=j7) (te:=px (aY 0) (aY 1) (aY 1)) (jy (ds:=r) (qH (k:=1) (l:=x::r) Z1 (Nat.succ_pos _) (aG E0 rfl))) (λG' v d _ _ _=>jn) (λG' v d sG hd _ rv=>?_) (cp Z4)) (by rw [Mp.mpr λ_ _=>rfl]))) ag)) rfl) q
 exact z8 (i:=0) (j:=1) (a:=p) (by simp [a5,L2.start]) (sG _ _ hp) (cJ d (Lg _ hd)) hS (cA (by simp [a5]) rv)
def FO:bV ["_law_atom","_law_there"] ["_law_atom","_law_there"] (be tI):=⟨rfl,rfl,rfl,Z9,rfl,Z9,Z9⟩
def KJ (F:aI K "_law_true" "_law_true" tI f fd)(B:Bl mg)(g:a6 P w K mg base 1 "_law_whole" ["_law_found"] (bA uE)):bp P w K mg base bD 2 f fd ["_law_atom","_law_there"] (spS Ct):=by
 refine F.ok FO (JX (n:=2) λT d U=>by obtain ⟨_,_,e,_⟩:=U;rw [e];rfl) λY A I s H vs Q E p h=>?_
 obtain ⟨M,T,d,lv,rs,⟨a,l,rfl,⟨J,cJ,o⟩,rfl⟩,q⟩:=h
 have L:=eC p
 have N:=fJ p
 refine ⟨_,(aD (cx (cX (f9 (by exact L)) (bG (pv 0) aO) gF) (aE<|bE<|jW (jO (by exact L)) (bG (pv 0) aO)<|bG (pv 0) aO) cM)
   (aD (cx (cX (f9 (by exact L)) (bG (pv 0) aO) gF) (aE<|bE<|n9 (bI g p<|ak (bG (pv 0) aO) ar)<|n9 (bI g p<|ak (bG (pv 0) aO) ar)<|pr<|jW m5 (bG (pv 0) aO)<|bG (pv 0) aO) cM)
   (aE<|bE<|EC<|tY (by exact N) (pv 0)<|pv 1))),?_⟩
 have b0:Bx H M [] _ H [Sl.d (.tup a),.td l]:=Gg lv rs (by simp [Sl.own]) ["_law_atom","_law_there"]
 obtain ⟨x,r,rfl⟩:∃x r,a=x::r:=by
  cases a with
  |nil=>exact absurd rfl J
  |cons x r=>exact ⟨x,r,rfl⟩
 have t:=cJ x Lj
 refine aW.run b0<|bu<|fP (λG m e=>c7<|oz (d1:=x) (d2:=.str "unlike") (gj t rfl).1 (gj t (b:=.str "unlike") rfl).2 (cv (d:=x) jr (e.v rfl) av) aM) (λz=>?_) λz=>ik ?_
 .have e:=LD z
  subst e
  obtain ⟨r0,y,z,O⟩:=o (by unfold aK;simp)
  obtain ⟨_,rfl⟩:=Nr O
  have k:dF (l.map (·.1)) [.str "unlike",y,z]= !decide (y=z):=rfl
  rw [k] at q
  have u:=cJ y Z8
  have C:=cJ z Z8
  exact f7 (λG m e=>ti (gj u C).1 (gj u C).2 (cv (d:=y) rfl (e.v rfl) av)<|cv (d:=z) rfl (e.v rfl) av) q
 have n1:=Mu z
 dsimp only
 refine bu<|fP (λG m e=>c7<|oz (d1:=x) (d2:=.str "less") (gj t rfl).1 (gj t (b:=.str "less") rfl).2 (cv (d:=x) jr (e.v rfl) av) aM) (λz=>?_) λz=>ik ?_
 .have e:=LD z
  subst e
  obtain ⟨r0,y,z,O⟩:=o (by unfold aK;simp)
  obtain ⟨_,rfl⟩:=Nr O
  have u:=cJ y Z8
  have C:=cJ z Z8
  cases y with
  |int i=>
   cases z with
   |int j=>
    have k:dF (l.map (·.1)) [.str "less",.int i,.int j]=decide (i<j):=rfl
    rw [k] at q
    exact f7 (λG m e=>(fq (b:=true) (c:=decide<|i<j) (bQ ⟨.int i,rfl,rfl⟩<|aa (cv (d:=.int i) rfl (e.v rfl) av) ag) λ_=>(fq (b:=true) (bQ ⟨.int j,rfl,rfl⟩<|aa (cv (d:=.int j) rfl (e.v rfl) av) ag) λ_=>mP (cv (d:=.int i) rfl (e.v rfl) av)<|cv (d:=.int j) rfl (e.v rfl) av).eq (by rw [OL])).eq (by rw [OL])) q
   |str j=>
    have k:dF (l.map (·.1)) [.str "less",.int i,.str j]=false:=rfl
    rw [k] at q
    exact f7 (λG m e=>fq (b:=true) (c:=false) (bQ ⟨.int i,rfl,rfl⟩<|aa (cv (d:=.int i) rfl (e.v rfl) av) ag) λ_=>fq (b:=false) (c:=false) (bQ ⟨.str j,rfl,rfl⟩<|aa (cv (d:=.str j) rfl (e.v rfl) av) ag) λz=>nomatch z) q
   |_=>simp [D.sc] at C
  |str i=>
   have k:dF (l.map (·.1)) [.str "less",.str i,z]=false:=by cases z<;>rfl
   rw [k] at q
   exact f7 (λG m e=>fq (b:=false) (c:=false) (bQ ⟨.str i,rfl,rfl⟩<|aa (cv (d:=.str i) rfl (e.v rfl) av) ag) λz=>nomatch z) q
  |_=>simp [D.sc] at u
 have n2:=Mu z
 have k:dF (l.map (·.1)) (x::r)=decide (x::r∈l.map (·.1)):=by
  unfold dF
  rw [Lq (show¬(x::r).headD .aq=.str "unlike" from n1),Lq (show¬(x::r).headD .aq=.str "less" from n2)]
 rw [k] at q
 dsimp only
 exact f7 (λG m e=>e.J1 rfl cJ<|e.v rfl) q
end
end a7
namespace L2
open PySem PySem.Spec PyProof.Rows
structure WE (X:Cx)(e:Expr)(t:TE):Prop where
 h:PE X e t
structure WA (X:Cx)(es:List Expr)(t:TA):Prop where
 h:PA X es t
structure WS (X:Cx)(st:Stmt)(t:TS):Prop where
 h:PS X st t
structure rK (X:Cx)(l:List Stmt)(t:TS):Prop where
 h:gv X l t
section
variable {X:Cx}{e a b c:Expr}{es:List Expr}{te ta tb:TE}{t:TA}{st:Stmt}{b9:List Stmt}{ts us:TS}{pos:Pos}
def aU{j}:WE X (.Constant (.str x) j pos) (tC (.str x)):=⟨gF⟩
def bz{j}:WE X (.Constant (.int i) j pos) (tC (.int i)):=⟨aO⟩
def wv(i:Nat)(f:X.N[i]?=some x:=by rfl)(g:pJ X.env.scope x:=by first|exact Or.inl rfl|exact Or.inr (Or.inl rfl)|exact Or.inr (Or.inr rfl))(h:(x==("__debug__":Str))=false:=by decide)(d:(x==("__classdict__":Str))=false:=by decide):WE X (.Name x pos) (aY i):=⟨Bo f g h d⟩
def aX:WA X [] bB:=⟨ar⟩
def ah (d:WE X e te)(f:WA X es t)(g:starEach (e::es) X.env=(false,eval e X.env)::starEach es X.env:=by rfl):WA X (e::es) (bn te t):=⟨ak d.h f.h g⟩
def a9 {d}(h:WA X es t):WE X (.Tuple es d pos) (sZ t):=⟨eE h.h⟩
def m9 (h:WA X es t):WE X (.List es pos) (jG t):=⟨dj h.h⟩
def dS(f:cH X (binaryOp d) r)(g:WE X a ta)(i:WE X b tb):WE X (.BinOp a d b pos) (bZ r ta tb):=⟨cC f g.h i.h⟩
def gr (ha:WE X a ta)(hb:WE X b tb)(hs:rW b:=by intro _ _;rfl):WE X (.Subscript a b pos) (bZ (gS X.K) ta tb):=⟨FL.bG ha.h hb.h hs⟩
def Bt (h:WS X st ts):rK X [st] ts:=⟨aE h.h⟩
def fe (h:WS X st ts)(d:rK X b9 us):rK X (st::b9) (nq ts us):=⟨aD h.h d.h⟩
def Jj (h:WE X e te):WS X (.Return (some e) pos) (m8 te):=⟨bE h.h⟩
def iw{i:Nat}(f:X.N.Nodup)(g:X.N[i]?=some x)(j:Loc X.env.scope x)(k:WE X e te)(l:swapsWith e (some (.Name x d)) pos.line X.env=pure false:=by rfl)(m:X.fn x=true\/X.env.scope.names.lookup x=some .local:=by first|exact .inl rfl|exact .inr rfl|assumption):
  WS X (.Assign [.Name x d] e pos) (dZ te (cf i)):=⟨AO f g j k.h l m⟩
end
section
variable {P:Program}{w:World}{K:PySem.W.Frag}{mg:Str->Option Value}{base:Heap}
def aI.BQ{st:Stmt}{i:Sp}(F:aI K x b st f m)(S:bV N g (be st))(j:∀d H Q E,i d H Q E->d.length=g.length)
  (e:∀(c:Value) (A:Around) (a:List Env) (s:Shared) (H:Hp) (d:List V) (Q:VK) (E:XK),cK k (A.deeper (envOfC b (be st) s.heap.objs.size f c))->i d H Q E->
   ∃t,rK (mf bD P w K mg base N b (be st) f c A a s H E).qe (du st) t/\t {nx:=λ_ n=>Q .aq n,rt:=Q} (start N d) H):bp P w K mg base bD (k+1) f m g i:=
 F.ok S j λc A a s H d Q E o l=>let ⟨t,h,q⟩:=e c A a s H d Q E o l;⟨t,h.h,q⟩
end
end L2
namespace a7
open PySem L2 FL
section
variable {P:Program}{w:World}{K:PySem.W.Frag}{mg:Str->Option Value}{base:Heap}{f:Addr}{fd:FuncData}
abbrev xT:List Str:=["_law_seed","_law_pool","_law_first","_law_second","_law_third","_law_one","_law_two","_law_parts","_law_words","_law_left","_law_right","_law_both","_law_head"]
def ju:bV xT ["_law_seed","_law_pool","_law_first","_law_second","_law_third"] (be rB):=⟨rfl,rfl,rfl,Z9,rfl,Z9,Z9⟩
def JS (F:aI K "_law_menu_by" "_law_menu_by" rB f fd)(B:Bl mg):bp P w K mg base bD 1 f fd ["_law_seed","_law_pool","_law_first","_law_second","_law_third"] (iQ yT yO):=by
 refine F.BQ ju (qI (n:=5) λds q0=>by obtain ⟨_,_,_,_,_,e,_⟩:=q0;rw [e];rfl) λbx A am s H vs Q E hr h=>?_
 obtain ⟨M,ds,lv,rs,⟨p,m,a,b,c,rfl,L⟩,q⟩:=h
 refine ⟨_,(fe (iw (i:=5) ju.nd rfl (Or.inl rfl)<|gr (wv 1)<|dS eo (wv 0) ⟨da B<|pv 1⟩)
   (fe (iw (i:=6) ju.nd rfl (Or.inl rfl)<|gr (wv 1)<|dS eo (dS jK (dS gt (wv 0) ⟨da B<|pv 1⟩) bz) ⟨da B<|pv 1⟩)
   (fe (iw (i:=7) ju.nd rfl (Or.inl rfl)<|m9<|ah aU<|ah aU<|ah aU<|ah (wv 5) aX)
   (fe (iw (i:=8) ju.nd rfl (Or.inl rfl)<|m9<|ah aU<|ah aU<|ah aU aX)
   (fe (iw (i:=9) ju.nd rfl (Or.inl rfl)<|a9<|ah (gr (wv 8)<|dS eo (wv 2) bz)<|ah (gr (wv 7)<|dS eo (dS gt (wv 2) bz) bz)<|ah (gr (wv 7)<|dS eo (dS gt (wv 2) bz) bz) aX)
   (fe (iw (i:=10) ju.nd rfl (Or.inl rfl)<|a9<|ah (gr (wv 8)<|dS eo (wv 3) bz)<|ah (gr (wv 7)<|dS eo (dS gt (wv 3) bz) bz)<|ah (gr (wv 7)<|dS eo (dS gt (wv 3) bz) bz) aX)
   (fe (iw (i:=11) ju.nd rfl (Or.inl rfl)<|dS AR ⟨mr qT (pv 9) (ki aO) on⟩ ⟨mr qT (pv 10) (ki aO) on⟩)
   (fe (iw (i:=12) ju.nd rfl (Or.inl rfl)<|a9<|ah (gr (wv 8)<|dS eo (wv 4) bz)<|ah (gr (wv 11)<|dS eo (dS gt (wv 4) bz) bz)<|ah (gr (wv 11)<|dS eo (dS gt (wv 4) bz) bz) aX)
   (Bt<|Jj<|m9<|ah (a9<|ah (a9<|ah aU<|ah aU<|ah aU aX)<|ah (a9<|ah (a9<|ah aU<|ah aU<|ah aU aX) aX) aX)<|ah (a9<|ah (a9<|ah aU<|ah aU<|ah aU aX)<|ah (a9<|ah (a9<|ah aU<|ah aU<|ah aU aX)<|ah (a9<|ah aU<|ah aU<|ah aU aX) aX) aX)<|ah (a9<|ah (a9<|ah aU<|ah aU aX)<|ah (a9<|ah (a9<|ah aU<|ah aU aX)<|ah (a9<|ah aU<|ah aU<|ah aU aX) aX) aX)<|ah (a9<|ah (a9<|ah aU<|ah aU<|ah aU aX)<|ah (a9<|ah (a9<|ah aU<|ah aU<|ah aU aX) aX) aX)<|ah (a9<|ah (a9<|ah aU<|ah aU<|ah aU aX)<|ah (a9<|ah (a9<|ah aU<|ah aU<|ah aU aX)<|ah (a9<|ah aU<|ah aU<|ah aU aX)<|ah (a9<|ah aU<|ah aU<|ah aU aX) aX) aX)<|ah (a9<|ah (a9<|ah aU aX)<|ah (a9<|ah (a9<|ah aU<|ah (wv 5) aX)<|ah (a9<|ah aU<|ah aU<|ah aU aX) aX) aX)<|ah (a9<|ah (a9<|ah aU<|ah aU<|ah aU aX)<|ah (a9<|ah (a9<|ah aU<|ah aU<|ah aU aX)<|ah (a9<|ah aU<|ah aU<|ah aU aX) aX) aX)<|ah (a9<|ah (a9<|ah aU<|ah (wv 6) aX)<|ah (a9<|ah (a9<|ah aU aX) aX) aX)<|ah (a9<|ah (a9<|ah aU<|ah aU<|ah aU aX)<|ah (a9<|ah (a9<|ah aU<|ah aU<|ah aU aX)<|ah (a9<|ah aU<|ah aU<|ah aU aX)<|ah (a9<|ah aU<|ah aU<|ah aU aX) aX) aX)<|ah (a9<|ah (a9<|ah aU<|ah aU<|ah aU aX)<|ah (a9<|ah (a9<|ah aU<|ah aU<|ah aU aX)<|ah (a9<|ah aU<|ah aU<|ah aU aX) aX) aX)<|ah (a9<|ah (a9<|ah aU<|ah aU<|ah (wv 5) aX)<|ah (a9<|ah (a9<|ah aU<|ah aU aX)<|ah (a9<|ah aU<|ah (wv 6)<|ah bz aX) aX) aX)<|ah (a9<|ah (a9<|ah aU<|ah (wv 5) aX)<|ah (a9<|ah (a9<|ah aU<|ah bz<|ah bz aX) aX) aX)<|ah (a9<|ah (wv 12)<|ah (a9<|ah (wv 9)<|ah (wv 10) aX) aX)<|ah (a9<|ah (wv 12)<|ah (a9<|ah (wv 9)<|ah (a9<|ah aU<|ah (gr (wv 11) bz)<|ah (gr (wv 11) bz) aX)<|ah (wv 10) aX) aX) aX))))))))),?_⟩
 have b0:Bx H M [] _ H [Sl.d (.int p),.d (.lst m),.d (.int a),.d (.int b),.d (.int c),.no,.no,.no,.no,.no,.no,.no,.no]:=hJ lv rs xT
 obtain ⟨n,N,h0,b6⟩:∃n:Nat,m.length=n/\0<n/\n<=10:=⟨_,rfl,by rcases L.len with z|z<;>omega,by rcases L.len with z|z<;>omega⟩
 obtain ⟨g,o1,o2,_⟩:=fm (l:=m) (n:=n) p h0 N
 obtain ⟨J,t1,t2,_⟩:=fm (l:=m) (n:=n) (p/(n:Int)+1) h0 N
 refine aW.run b0<|bu<|el (i:=5) (d:=g) (λG I e=>cP o1 (e.v rfl)<|eD Z4 (e.v rfl)<|(dX (K:=K)<|aa (e.v rfl) ag).eq (by rw [N])) (oy (L.gp g o2).1) ?_
 dsimp only
 refine bu<|el (i:=6) (d:=J) (λG I e=>cP t1 (e.v rfl)<|eD Z4 (kl (gm ⟨by omega,by omega⟩ (e.v rfl)<|(dX (K:=K)<|aa (e.v rfl) ag).eq (by rw [N])) av)<|(dX (K:=K)<|aa (e.v rfl) ag).eq (by rw [N])) (oy (L.gp J t2).1) ?_
 dsimp only
 refine bu<|gW (i:=7) (d:=.lst [.str "X",.str "Xy",.str "Z",g]) (λG I e=>fg<|aa aM<|aa aM<|aa aM<|aa (e.vd rfl) ag) ?_
 dsimp only
 refine bu<|gW (i:=8) (d:=.lst<|hZ.map D.str) (λG I e=>fg (aa aM<|aa aM<|aa aM ag) Z1) ?_
 have O:∀x∈[D.str "X",.str "Xy",.str "Z",g],x∈m\/x∈dh:=λx j=>by
  simp only [Lw,L1,Mo] at j
  rcases j with rfl|rfl|rfl|rfl
  .exact .inr (by simp [dh])
  .exact .inr (by simp [dh])
  .exact .inr (by simp [dh])
  .exact .inl o2
 have o:∀x∈[D.str "X",.str "Xy",.str "Z",g],x.sc=true:=λx j=>(O x j).elim (λz=>(L.gp x z).1) λz=>(nQ x z).1
 obtain ⟨_,an,ao,_⟩:=fm (l:=hZ.map D.str) (n:=3) a Z1 rfl
 obtain ⟨wl,as,rfl⟩:=LG.mp ao
 obtain ⟨u,a0,T,_⟩:=fm (l:=[D.str "X",.str "Xy",.str "Z",g]) (n:=4) (a/3) Z1 rfl
 obtain ⟨r,a1,U,_⟩:=fm (l:=[D.str "X",.str "Xy",.str "Z",g]) (n:=4) (a/12) Z1 rfl
 dsimp only
 refine bu<|el (i:=9) (d:=.tup [.str wl,u,r]) (λG I e=>aR<|aa (cP (ds:=hZ.map D.str) an (e.v rfl)<|eD Z1 (e.v rfl) av)<|aa (cP a0 (e.v rfl)<|eD Z1 (gm ⟨by decide,by decide⟩ (e.v rfl) av) av)<|aa (cP a1 (e.v rfl)<|eD Z1 (gm ⟨by decide,by decide⟩ (e.v rfl) av) av) ag) (ji λx j=>?_) ?_
 .simp only [Lw,L1,Mo] at j
  rcases j with rfl|rfl|rfl
  .rfl
  .exact o _ T
  .exact o _ U
 obtain ⟨_,a2,a3,_⟩:=fm (l:=hZ.map D.str) (n:=3) b Z1 rfl
 obtain ⟨wr,a4,rfl⟩:=LG.mp a3
 obtain ⟨t,bc,Y,_⟩:=fm (l:=[D.str "X",.str "Xy",.str "Z",g]) (n:=4) (b/3) Z1 rfl
 obtain ⟨y,bd,ac,_⟩:=fm (l:=[D.str "X",.str "Xy",.str "Z",g]) (n:=4) (b/12) Z1 rfl
 dsimp only
 refine bu<|el (i:=10) (d:=.tup [.str wr,t,y]) (λG I e=>aR<|aa (cP (ds:=hZ.map D.str) a2 (e.v rfl)<|eD Z1 (e.v rfl) av)<|aa (cP bc (e.v rfl)<|eD Z1 (gm ⟨by decide,by decide⟩ (e.v rfl) av) av)<|aa (cP bd (e.v rfl)<|eD Z1 (gm ⟨by decide,by decide⟩ (e.v rfl) av) av) ag) (ji λx j=>?_) ?_
 .simp only [Lw,L1,Mo] at j
  rcases j with rfl|rfl|rfl
  .rfl
  .exact o _ Y
  .exact o _ ac
 have C:∀x∈[u,r,t,y],x∈[D.str "X",.str "Xy",.str "Z",g]:=λx j=>by
  simp only [Lw,L1,Mo] at j
  rcases j with rfl|rfl|rfl|rfl
  .exact T
  .exact U
  .exact Y
  .exact ac
 dsimp only
 refine bu<|el (i:=11) (d:=.tup [u,r,t,y]) (λG I e=>zU (xs:=[u,r]) (ys:=[t,y]) Z8 (qH (k:=1) (l:=[.str wl,u,r]) Z1 Z8<|e.v rfl)<|qH (k:=1) (l:=[.str wr,t,y]) Z1 Z8<|e.v rfl) (ji λx j=>o x<|C x j) ?_
 obtain ⟨_,bi,bk,_⟩:=fm (l:=hZ.map D.str) (n:=3) c Z1 rfl
 obtain ⟨wh,bl,rfl⟩:=LG.mp bk
 obtain ⟨h1,bs,af,_⟩:=fm (l:=[u,r,t,y]) (n:=4) (c/3) Z1 rfl
 obtain ⟨h2,bt,aj,_⟩:=fm (l:=[u,r,t,y]) (n:=4) (c/12) Z1 rfl
 dsimp only
 refine bu<|el (i:=12) (d:=.tup [.str wh,h1,h2]) (λG I e=>aR<|aa (cP (ds:=hZ.map D.str) bi (e.v rfl)<|eD Z1 (e.v rfl) av)<|aa (cv bs (e.v rfl)<|eD Z1 (gm ⟨by decide,by decide⟩ (e.v rfl) av) av)<|aa (cv bt (e.v rfl)<|eD Z1 (gm ⟨by decide,by decide⟩ (e.v rfl) av) av) ag) (ji λx j=>?_) ?_
 .simp only [Lw,L1,Mo] at j
  rcases j with rfl|rfl|rfl
  .rfl
  .exact o _<|C _ af
  .exact o _<|C _ aj
 dsimp only
 refine f7 (d:=.lst<|(uT g J [.str wl,u,r] [.str wr,t,y] [.str wh,h1,h2] r t).map aV) (λG I e=>ae.eq (fg<|aa (aR<|aa (aR<|aa aM<|aa aM<|aa aM ag)<|aa (aR<|aa (aR<|aa aM<|aa aM<|aa aM ag) ag) ag)<|aa (aR<|aa (aR<|aa aM<|aa aM<|aa aM ag)<|aa (aR<|aa (aR<|aa aM<|aa aM<|aa aM ag)<|aa (aR<|aa aM<|aa aM<|aa aM ag) ag) ag)<|aa (aR<|aa (aR<|aa aM<|aa aM ag)<|aa (aR<|aa (aR<|aa aM<|aa aM ag)<|aa (aR<|aa aM<|aa aM<|aa aM ag) ag) ag)<|aa (aR<|aa (aR<|aa aM<|aa aM<|aa aM ag)<|aa (aR<|aa (aR<|aa aM<|aa aM<|aa aM ag) ag) ag)<|aa (aR<|aa (aR<|aa aM<|aa aM<|aa aM ag)<|aa (aR<|aa (aR<|aa aM<|aa aM<|aa aM ag)<|aa (aR<|aa aM<|aa aM<|aa aM ag)<|aa (aR<|aa aM<|aa aM<|aa aM ag) ag) ag)<|aa (aR<|aa (aR<|aa aM ag)<|aa (aR<|aa (aR<|aa aM<|aa (e.v rfl) ag)<|aa (aR<|aa aM<|aa aM<|aa aM ag) ag) ag)<|aa (aR<|aa (aR<|aa aM<|aa aM<|aa aM ag)<|aa (aR<|aa (aR<|aa aM<|aa aM<|aa aM ag)<|aa (aR<|aa aM<|aa aM<|aa aM ag) ag) ag)<|aa (aR<|aa (aR<|aa aM<|aa (e.v rfl) ag)<|aa (aR<|aa (aR<|aa aM ag) ag) ag)<|aa (aR<|aa (aR<|aa aM<|aa aM<|aa aM ag)<|aa (aR<|aa (aR<|aa aM<|aa aM<|aa aM ag)<|aa (aR<|aa aM<|aa aM<|aa aM ag)<|aa (aR<|aa aM<|aa aM<|aa aM ag) ag) ag)<|aa (aR<|aa (aR<|aa aM<|aa aM<|aa aM ag)<|aa (aR<|aa (aR<|aa aM<|aa aM<|aa aM ag)<|aa (aR<|aa aM<|aa aM<|aa aM ag) ag) ag)<|aa (aR<|aa (aR<|aa aM<|aa aM<|aa (e.v rfl) ag)<|aa (aR<|aa (aR<|aa aM<|aa aM ag)<|aa (aR<|aa aM<|aa (e.v rfl)<|aa av ag) ag) ag)<|aa (aR<|aa (aR<|aa aM<|aa (e.v rfl) ag)<|aa (aR<|aa (aR<|aa aM<|aa av<|aa av ag) ag) ag)<|aa (aR<|aa (e.v rfl)<|aa (aR<|aa (e.v rfl)<|aa (e.v rfl) ag) ag)<|aa (aR<|aa (e.v rfl)<|aa (aR<|aa (e.v rfl)<|aa (aR<|aa aM<|aa (cv (ds:=[u,r,t,y]) (d:=r) rfl (e.v rfl) av)<|aa (cv (ds:=[u,r,t,y]) (d:=t) rfl (e.v rfl) av) ag)<|aa (e.v rfl) ag) ag) ag) rfl) λv H' s' r'=>q _ v H' ⟨p,m,a,b,c,_,rfl,rfl,rfl,Jc L o2 t2 as a4 bl (λx j=>O x<|C x j) λx j=>?_,rfl⟩ s' r'
 simp only [Lw,L1,Mo] at j
 rcases j with rfl|rfl
 .exact af
 .exact aj
end
end a7
namespace a7
open PySem L2 FL
section
variable {P:Program}{w:World}{K:PySem.W.Frag}{mg:Str->Option Value}{base:Heap}{f:Addr}{fd:FuncData}
def kq:List (List Nat):=[[0,1,2],[0,6,5],[1,0,4],[3,8,9],[9,0,6],[3,9,2],[0,5,7],[10,3,2],[11,2,10],[12,0,3],[13,1,0],[12,13,2]]
def iW (l:List Nat):D:=.tup (l.map λn=>D.int (n:Nat))
def GL:∀l∈kq,l.length=3/\∀x∈l,x<14:=by decide
abbrev Cu:List Str:=["_law_script","_law_pool","_law_seed","_law_more","_law_menu","_law_threes","_law_three","_law_cells","_law_rules","_law_k","_law_way","_law_one","_law_two","_law_rule"]
def eO:bV Cu ["_law_script"] (be sq):=⟨rfl,rfl,rfl,Z9,rfl,Z9,Z9⟩
def KP (F:aI K "_law_rules_by" "_law_rules_by" sq f fd)(B:Bl mg)(o:a6 P w K mg base 1 "_law_at" ["_law_script","_law_k"] (bA pY))(t:a6 P w K mg base 2 "_law_pool_by" ["_law_script"] (bA vV))(u:a6 P w K mg base 1 "_law_menu_by" ["_law_seed","_law_pool","_law_first","_law_second","_law_third"] (iQ yT yO)):bp P w K mg base bD 3 f fd ["_law_script"] (iQ BD xu):=by
 refine F.BQ eO (qI (n:=1) λds q0=>by obtain ⟨_,e,_⟩:=q0;rw [e];rfl) λc2 A bi s H vs Q E T h=>?_
 obtain ⟨M,ds,lv,J,⟨b,rfl,c3⟩,q⟩:=h
 have hu:=eC T
 refine ⟨_,(fe ⟨bj 1 eO.nd<|bI t T<|ak (pv 0) ar⟩
   (fe ⟨bj 2 eO.nd<|bI o T<|ak (pv 0)<|ak aO ar⟩
   (fe ⟨bj 3 eO.nd<|dj<|ak (bI o T<|ak (pv 0)<|ak aO ar)<|ak (bI o T<|ak (pv 0)<|ak aO ar)<|ak (bI o T<|ak (pv 0)<|ak aO ar) ar⟩
   (fe ⟨bj 4 eO.nd<|bI u T<|ak (cC gt (pv 2) aO)<|ak (pv 1)<|ak (bG (pv 3) aO)<|ak (bG (pv 3) aO)<|ak (bG (pv 3) aO) ar⟩
   (fe (iw (i:=5) eO.nd rfl (Or.inl rfl)<|m9<|ah (a9<|ah bz<|ah bz<|ah bz aX)<|ah (a9<|ah bz<|ah bz<|ah bz aX)<|ah (a9<|ah bz<|ah bz<|ah bz aX)<|ah (a9<|ah bz<|ah bz<|ah bz aX)<|ah (a9<|ah bz<|ah bz<|ah bz aX)<|ah (a9<|ah bz<|ah bz<|ah bz aX) aX)
   (fe (iw (i:=5) eO.nd rfl (Or.inl rfl)<|dS qc (wv 5)<|m9<|ah (a9<|ah bz<|ah bz<|ah bz aX)<|ah (a9<|ah bz<|ah bz<|ah bz aX)<|ah (a9<|ah bz<|ah bz<|ah bz aX) aX)
   (fe (iw (i:=6) eO.nd rfl (Or.inl rfl)<|gr (dS qc (wv 5)<|m9<|ah (a9<|ah bz<|ah bz<|ah bz aX)<|ah (a9<|ah bz<|ah bz<|ah bz aX)<|ah (a9<|ah bz<|ah bz<|ah bz aX) aX)<|dS eo (wv 2) bz)
   (fe ⟨bj 7 eO.nd<|mr uD (pv 0) (ki aO)<|ki aO⟩
   (fe ⟨bj 8 eO.nd<|dj ar⟩
   (fe ⟨cO LM rfl (oE rfl B.range<|ak (da B<|pv 7) ar) (bq 9 eO.nd) (aD (bj 10 eO.nd<|cC eo (bG (pv 7)<|pv 9) aO)
   (aD (bj 11 eO.nd<|bG (pv 1)<|cC eo (cC jK (cC gt (bG (pv 7)<|pv 9) aO)<|pv 9)<|da B<|pv 1)
   (aD (bj 12 eO.nd<|bG (pv 1)<|cC eo (cC jK (cC jK (cC gt (cC gt (bG (pv 7)<|pv 9) aO)<|da B<|pv 1)<|pv 9) aO)<|da B<|pv 1)
   (aD (bj 13 eO.nd<|eE<|ak (eE<|ak gF<|ak (pv 11)<|ak (pv 12) ar)<|ak (eE ar) ar)
   (aD (cx (cX (f9 (by exact hu)) (pv 10) aO) (aE<|bj 13 eO.nd<|eE<|ak (eE<|ak gF<|ak (pv 11) ar)<|ak (eE ar) ar)<|aE<|cx (kG (cX rR (da B<|pv 1) aO)<|kR<|cX rR (pv 10) aO).pt (aE<|bj 13 eO.nd<|bG (pv 4) aO)<|aE<|cx (cX rR (pv 10) aO) (aE<|bj 13 eO.nd<|bG (pv 4)<|bG (pv 6)<|cC eo (cC jK (cC gt (bG (pv 7)<|pv 9) aO)<|pv 9) aO)<|aE<|cx (kG (cX (f9 (by exact hu)) (pv 10) aO)<|kR<|cX (f9 (by exact hu)) (da B<|pv 1) aO).pt (aE<|bj 13 eO.nd<|eE<|ak (eE<|ak gF<|ak (pv 11)<|ak (pv 12) ar)<|ak (eE ar) ar) cM)
   (aE<|cx (cX (wG hu) (pv 13)<|pv 8) (aE<|iZ (pv 8)<|pv 13) cM))))))⟩
   (Bt ⟨bE<|pv 8⟩))))))))))),?_⟩
 have b0:Bx H M [] _ H [Sl.d (.lst<|b.map D.int),.no,.no,.no,.no,.no,.no,.no,.no,.no,.no,.no,.no,.no]:=hJ lv J Cu
 have N:=zH b
 generalize a1:fZ b=a at N
 obtain ⟨n,hn,h0,c4⟩:∃n:Nat,a.length=n/\0<n/\n<=10:=⟨_,rfl,by rcases N.len with z|z<;>omega,by rcases N.len with z|z<;>omega⟩
 have U:(0:Int)<(n:Int):=by omega
 have bk:(n:Int)<1073741824:=by omega
 refine aW.run b0<|bu<|gW (i:=1) (d:=.lst a) (λG C e=>bQ ⟨b,rfl,by rw [a1]⟩<|aa (e.vd rfl) ag) ?_
 dsimp only
 refine bu<|el (i:=2) (d:=.int<|b.getD 1 0) (λG C e=>bQ (kK b 1)<|aa (e.v rfl)<|aa av ag) rfl ?_
 dsimp only
 refine bu<|gW (i:=3) (d:=.lst [.int<|b.getD 2 0,.int<|b.getD 3 0,.int<|b.getD 4 0]) (λG C e=>fg<|aa (bQ (kK b 2)<|aa (e.vd rfl)<|aa av ag)<|aa (bQ (kK b 3)<|aa (e.vd rfl)<|aa av ag)<|aa (bQ (kK b 4)<|aa (e.vd rfl)<|aa av ag) ag) ?_
 dsimp only
 refine bu<|qo (i:=4) (ds:=[.int<|b.getD 1 0/12,.lst a,.int<|b.getD 2 0,.int<|b.getD 3 0,.int<|b.getD 4 0]) (λG C e=>aa (gm ⟨by decide,by decide⟩ (e.vd rfl) av)<|aa (e.vd rfl)<|aa (cP (ds:=[.int<|b.getD 2 0,.int<|b.getD 3 0,.int<|b.getD 4 0]) (d:=.int<|b.getD 2 0) rfl (e.vd rfl) av)<|aa (cP (ds:=[.int<|b.getD 2 0,.int<|b.getD 3 0,.int<|b.getD 4 0]) (d:=.int<|b.getD 3 0) rfl (e.vd rfl) av)<|aa (cP (ds:=[.int<|b.getD 2 0,.int<|b.getD 3 0,.int<|b.getD 4 0]) (d:=.int<|b.getD 4 0) rfl (e.vd rfl) av) ag) ⟨_,_,_,_,_,rfl,N⟩ λd hd=>?_
 obtain ⟨_,bl,_,_,_,L,he,rfl,bs,af,aj⟩:=hd
 simp only [Of,D.lst.injEq] at he
 obtain ⟨_,rfl,_⟩:=he
 dsimp only
 refine bu<|gW (i:=5) (d:=.lst<|(kq.take 6).map iW) (λG C e=>ae.eq (fg<|aa (aR<|aa av<|aa av<|aa av ag)<|aa (aR<|aa av<|aa av<|aa av ag)<|aa (aR<|aa av<|aa av<|aa av ag)<|aa (aR<|aa av<|aa av<|aa av ag)<|aa (aR<|aa av<|aa av<|aa av ag)<|aa (aR<|aa av<|aa av<|aa av ag) ag) rfl) ?_
 dsimp only
 refine bu<|gW (i:=5) (d:=.lst<|(kq.take 9).map iW) (λG C e=>ae.eq (oK (xs:=(kq.take 6).map iW) Z1 (e.vd rfl)<|fg<|aa (aR<|aa av<|aa av<|aa av ag)<|aa (aR<|aa av<|aa av<|aa av ag)<|aa (aR<|aa av<|aa av<|aa av ag) ag) rfl) ?_
 obtain ⟨dt,bt,bx,_⟩:=fm (l:=kq.map iW) (n:=12) (b.getD 1 0) Z1 rfl
 obtain ⟨tl,b6,rfl⟩:=LG.mp bx
 obtain ⟨b7,a2⟩:=GL tl b6
 dsimp only
 refine bu<|el (i:=6) (d:=iW tl) (λG C e=>cP (ds:=kq.map iW) bt (ae.eq (oK (xs:=(kq.take 9).map iW) Z1 (e.v rfl)<|fg<|aa (aR<|aa av<|aa av<|aa av ag)<|aa (aR<|aa av<|aa av<|aa av ag)<|aa (aR<|aa av<|aa av<|aa av ag) ag) rfl)<|eD Z1 (e.v rfl) av) (ji λx hx=>by obtain ⟨_,_,rfl⟩:=LG.mp hx;rfl) ?_
 obtain ⟨cs,b8,c5⟩:∃cs:List Int,((b.map D.int).drop 2).take 30=cs.map D.int/\cs.length<=30:=⟨(b.drop 2).take 30,by rw [Qb,List.map_drop],by rw [L9];exact Nat.min_le_left _ _⟩
 dsimp only
 refine bu<|gW (i:=7) (d:=.lst<|cs.map D.int) (λG C e=>ae.eq (DE (k:=2) (n:=30) (m:=32) rfl<|e.vd rfl) (by rw [b8])) ?_
 dsimp only
 refine bu<|rl (i:=8) ?_
 generalize Sl.d (D.lst<|b.map D.int)=s0
 generalize Sl.d (D.int<|b.getD 1 0)=s2
 generalize Sl.d (D.lst [.int<|b.getD 2 0,.int<|b.getD 3 0,.int<|b.getD 4 0])=s3
 generalize Sl.d (D.lst<|(kq.take 9).map iW)=s5
 dsimp only
 refine bu<|gP (i:=9) (dQ.xp (n:=cs.length) Z4 λG C e=>aa ((dX (K:=K)<|aa (e.v rfl) ag).eq (by rw [Ll])) ag) (λj O=>∃J s9 am an ao as,fI a J/\J.length<=j/\O=[s0,.d (.lst a),s2,s3,.d (.lst<|L.map aV),s5,.d<|iW tl,.d (.lst<|cs.map D.int),.l<|J.map aV,s9,am,an,ao,as]) ⟨[],_,_,_,_,_,⟨(λr T=>nomatch T),(λ_ r T=>nomatch T)⟩,Lo _,rfl⟩ (λB' sB hk j x O hx hp=>?_) λO hp=>?_
 .obtain ⟨J,s9,am,an,ao,as,Y,ac,rfl⟩:=hp
  obtain ⟨hj,rfl⟩:=oF 0 _ j x hx
  have hc:dM (cs.map D.int) (0+(j:Int))=some (.int<|cs[j]'hj):=wW (by rw [LA,Lk hj];rfl)
  generalize cs[j]'hj=c at hc
  refine bu<|el (i:=10) (d:=.int<|c%8) (λG C e=>eD Z1 (cP hc (e.v rfl)<|e.v rfl) av) rfl ?_
  obtain ⟨p,o1,o2,_⟩:=fm (l:=a) (n:=n) (c/8+(0+(j:Int))) h0 hn
  refine bu<|el (i:=11) (d:=p) (λG C e=>cP o1 (e.v rfl)<|eD U (kl (gm ⟨by decide,by decide⟩ (cP hc (e.v rfl)<|e.v rfl) av)<|e.v rfl)<|(dX (K:=K)<|aa (e.v rfl) ag).eq (by rw [hn])) (oy (N.gp p o2).1) ?_
  obtain ⟨I,t1,t2,_⟩:=fm (l:=a) (n:=n) (c/8/(n:Int)+(0+(j:Int))+1) h0 hn
  refine bu<|el (i:=12) (d:=I) (λG C e=>cP t1 (e.v rfl)<|eD U (kl (kl (gm ⟨U,bk⟩ (gm ⟨by decide,by decide⟩ (cP hc (e.v rfl)<|e.v rfl) av)<|(dX (K:=K)<|aa (e.v rfl) ag).eq (by rw [hn]))<|e.v rfl) av)<|(dX (K:=K)<|aa (e.v rfl) ag).eq (by rw [hn])) (oy (N.gp I t2).1) ?_
  have p2:∀x∈[p,I],x∈a:=λx hx=>by
   simp only [Lw,L1,Mo] at hx
   rcases hx with rfl|rfl
   .exact o2
   .exact t2
  have kr:cY a (j9 "road" [p,I]):=vi N (by simp [dy]) p2
  have kk:cY a (j9 "kin" [p,I]):=vi N (by simp [dy]) p2
  have km:cY a (j9 "mark" [p]):=vi N (by simp [dy]) λx hx=>by rw [LK.mp hx];exact o2
  have nr:∀{r:bo},cY a r->(aV r).fx=true:=λh=>y8 (h.sc N).1 (h.sc N).2
  refine bu<|el (i:=13) (d:=aV<|j9 "road" [p,I]) (λG C e=>ae.eq (aR<|aa (aR<|aa aM<|aa (e.v rfl)<|aa (e.v rfl) ag)<|aa (aR ag) ag) rfl) (nr kr) ?_
  refine bu<|Kr (λO=>∃r,cY a r/\(a.length=10->qu a r)/\O=[s0,.d (.lst a),s2,s3,.d (.lst<|L.map aV),s5,.d<|iW tl,.d (.lst<|cs.map D.int),.l<|J.map aV,.d (.int<|0+(j:Int)),.d (.int<|c%8),.d p,.d I,.d<|aV r]) (λG C e=>c7<|jF (e.v rfl) av) (λk z=>?_) (λk z=>?_) λO hp=>?_
  .exact el (i:=13) (d:=aV<|j9 "mark" [p]) (λG C e=>ae.eq (aR<|aa (aR<|aa aM<|aa (e.v rfl) ag)<|aa (aR ag) ag) rfl) (nr km)<|k _ ⟨_,km,λ_=>.inr (.inr ⟨p,o2,rfl⟩),rfl⟩
  .refine fP (λG C e=>mi (c7<|tJ ((dX (K:=K)<|aa (e.v rfl) ag).eq (by rw [hn])) av) λ_=>c7<|tJ (e.v rfl) av) (λz1=>?_) (λz1=>?_)
   .exact el (i:=13) (d:=aV xa) (λG C e=>cP (i:=((2:Nat):Int)) (mq (by rw [LA,aj];rfl)) (e.v rfl) av) (nr<|af _<|Lp aj)<|k _ ⟨_,af _<|Lp aj,λ_=>.inl rfl,rfl⟩
   .refine fP (λG C e=>c7<|tJ (e.v rfl) av) (λz2=>?_) (λz2=>?_)
    .have cd:¬a.length=10:=λw=>by
      rw [z2,OK] at z1
      have:=Mu z1
      omega
     obtain ⟨di,ch,cl,_⟩:=fm (l:=tl.map λn=>D.int (n:Nat)) (n:=3) (c/8+(0+(j:Int))) Z1 (by rw [Ll];exact b7)
     obtain ⟨i,co,rfl⟩:=LG.mp cl
     have hi:=a2 i co
     have a3:L[i]?=some (L[i]'Z4):=Lk _
     have a4:=af _<|Lp a3
     exact el (i:=13) (d:=aV<|L[i]'Z4) (λG C e=>cP (mq (by rw [LA,a3];rfl)) (e.v rfl)<|cv ch (e.v rfl)<|eD Z1 (kl (gm ⟨by decide,by decide⟩ (cP hc (e.v rfl)<|e.v rfl) av)<|e.v rfl) av) (nr a4)<|k _ ⟨_,a4,λw=>absurd w cd,rfl⟩
    .refine fP (λG C e=>mi (c7<|jF (e.v rfl) av) λ_=>c7<|jF ((dX (K:=K)<|aa (e.v rfl) ag).eq (by rw [hn])) av) (λz3=>?_) (λz3=>ik<|k _ ⟨_,kr,λ_=>.inr (.inl ⟨p,o2,I,t2,rfl⟩),rfl⟩)
     have ct:¬a.length=10:=λw=>by
      have:=LD (Mt.mp z3).2
      omega
     exact el (i:=13) (d:=aV<|j9 "kin" [p,I]) (λG C e=>ae.eq (aR<|aa (aR<|aa aM<|aa (e.v rfl)<|aa (e.v rfl) ag)<|aa (aR ag) ag) rfl) (nr kk)<|k _ ⟨_,kk,λw=>absurd w ct,rfl⟩
  obtain ⟨r,a0,c0,rfl⟩:=hp
  have bc:=a0.sc N
  dsimp only
  refine fP (λG C e=>c7<|xo (d:=aV r) (es:=J.map aV) (λy hy=>?_) (e.v rfl)<|e.v rfl) (λz=>?_) λz=>ik<|eR ⟨J,_,_,_,_,_,Y,Nat.le_succ_of_le ac,rfl⟩
  .obtain ⟨g,hg,rfl⟩:=LG.mp hy
   have bd:=(Y.ok g hg).sc N
   exact Gq bd.1 bd.2 bc.1 bc.2
  .have c1:r∉J:=λw=>by
    have:decide (aV r∈J.map aV)=true:=LH<|LG.mpr ⟨r,w,rfl⟩
    rw [this] at z;cases z
   refine uP (j:=8) rfl (λG C e=>e.v rfl) (nr a0) (by rw [Ll];exact cp Z4) ?_
   rw [show J.map aV++[aV r]=(J++[r]).map aV by rw [LU];rfl]
   exact eR ⟨J++[r],_,_,_,_,_,Y.snoc a0 c0 c1,by rw [LC];exact Nat.succ_le_succ ac,rfl⟩
 obtain ⟨J,s9,am,an,ao,as,Y,ac,rfl⟩:=hp
 rw [Ll,N5] at ac
 dsimp only
 exact f7 (d:=.lst<|J.map aV) (λG C e=>e.v rfl) λv H' s' r'=>q _ v H' ⟨b,J,rfl,rfl,by rw [a1];exact Y,by omega⟩ s' r'
end
end a7
namespace a7
open PySem L2 FL
section
variable {P:Program}{w:World}{K:PySem.W.Frag}{mg:Str->Option Value}{base:Heap}{f:Addr}{fd:FuncData}
def kW:bV ["_law_blanks","_law_pool","_law_made","_law_blank","_law_more","_law_things","_law_thing","_law_longer_one"] ["_law_blanks","_law_pool"] (be r9):=⟨rfl,rfl,rfl,Z9,rfl,Z9,Z9⟩
def Gx (F:aI K "_law_choices" "_law_choices" r9 f fd)(B:Bl mg):bp P w K mg base bD 1 f fd ["_law_blanks","_law_pool"] qV:=by
 refine F.ok kW (λvs H Q E q0=>by obtain ⟨_,_,_,_,_,e,_⟩:=q0;rw [e];rfl) λep A co s H vs Q E hr h=>?_
 obtain ⟨M,r,g,v0,v1,rfl,lv,r0,r1,hp,ct,a4,q⟩:=h
 have c0:=fJ hr
 refine ⟨_,(aD (bj 2 kW.nd<|dj<|ak ro ar)
   (aD (cO LM rfl (ck<|pv 0) (bq 3 kW.nd) (aD (bj 4 kW.nd<|dj ar)
   (aD (cO LM rfl (ck<|pv 2) (bq 5 kW.nd) (aE (cO LM rfl (ck<|pv 1) (bq 6 kW.nd) (aD (bj 7 kW.nd<|DB B<|pv 5)
   (aD (ly c0 (pv 7) (pv 3) (pv 6) rfl)
   (aE<|iZ (pv 4)<|pv 7))))))
   (aE<|bj 2 kW.nd<|pv 4))))
   (aE<|bE<|pv 2))),?_⟩
 have E0:ax (but H M) (L2.start ["_law_blanks","_law_pool","_law_made","_law_blank","_law_more","_law_things","_law_thing","_law_longer_one"] [v0,v1]) [some<|fA r,some (.lst g),none,none,none,none,none,none]:=fB (.dat r0 (.dat r1 .nil)) _
 have c1:∀k,(cG g (r.take k) [[]]).length<=1000:=λk=>by
  rw [zE,My,Nat.one_mul]
  have h1:(r.take k).length<=3:=LN (by rw [L9];exact Nat.min_le_right _ _) ct
  calc g.length^(r.take k).length<=10^(r.take k).length:=Nat.pow_le_pow_left a4 _
   _<=10^3:=Nat.pow_le_pow_right Z1 h1
   _=1000:=by decide
 intro J kM
 refine ⟨by show 1<=sizeLine;decide,λm0 bc=>?_⟩
 have sA:=c8 kM (.dK [])
 have sB:=c8 bc (.lst [.ref J])
 have af:ab H (upd (upd H J (.dK [])) m0 (.lst [.ref J])):=sA.trans sB
 have c3:J∉M:=lv.fresh kM
 have c4:m0∉M:=(lv.same sA).fresh bc
 have bd:gJ (but (upd (upd H J (.dK [])) m0 (.lst [.ref J])) M) [.ref J] (cG g (r.take 0) [[]]):=by
  refine ⟨rfl,λj c e=>?_⟩
  cases j with
  |zero=>
   have e:([]:aP)=c:=LB e
   subst e
   exact ⟨J,rfl,by rw [bf c3];exact sB _ _ aN⟩
  |succ j=>simp [cG] at e
 have bi:but (upd (upd H J (.dK [])) m0 (.lst [.ref J])) M m0=some (.lst [.ref J]):=by rw [bf c4];exact aN
 generalize upd (upd H J (.dK [])) m0 (.lst [.ref J])=H1 at af bd bi
 have E1:ax (but H1 M) ((L2.start ["_law_blanks","_law_pool","_law_made","_law_blank","_law_more","_law_things","_law_thing","_law_longer_one"] [v0,v1]).set 2<|some (.ref m0)) [some<|fA r,some (.lst g),none,none,none,none,none,none]:=(E0.same af).off 2 _
 have l1:ap M H1:=lv.same af
 refine gK (M:=M) (ds:=r.map D.str) (dn<|aG E1 rfl) l1 λH2 s2=>?_
 refine ⟨λk C H'=>∃m us,C[2]?=some (some (.ref m))/\but H' M m=some (.lst us)/\gJ (but H' M) us (cG g (r.take k) [[]])/\ab H2 H'/\ax (but H' M) C [some<|fA r,some (.lst g),none,none,none,none,none,none],
  ⟨m0,_,rfl,(s2.but M) _ _ bi,bd.mono<|s2.but M,ab.refl _,E1.same s2⟩,λk C H' q1=>by obtain ⟨_,_,_,_,_,x,_⟩:=q1;exact ⟨x.but M,(l1.same s2).same x⟩,?_,?_⟩
 .rintro k d x C H' u hd ⟨m,us,j2,hm,hD,S',E'⟩ s3 rx
  obtain ⟨b,c5,rfl⟩:∃b,r[k]?=some b/\d=.str b:=by
   rw [LA] at hd
   cases e:r[k]? with
   |none=>rw [e] at hd;cases hd
   |some y=>rw [e] at hd;exact ⟨y,rfl,(LB hd).symm⟩
  have dc:r.take (k+1)=r.take k++[b]:=by rw [L0,c5];rfl
  have l3:ap M u:=((l1.same s2).same S').same s3
  have E3:ax (but u M) (C.set 3<|some x) [some<|fA r,some (.lst g),none,some (.str b),none,none,none,none]:=(E'.same s3).set 3 rx
  have c2:(C.set 3<|some x)[2]?=some (some (.ref m)):=(Lm Z1).trans j2
  refine m4 (i:=4) l3 E3 Z8 ag (LP _) λa dd di H4 o4 i4 n4 h4 r4 l4 k4 E4=>?_
  have dp:dd=[]:=by cases r4;rfl
  subst dp
  have bk:ab u H4:=λx o e=>(k4 x o e).2
  have bl:u a=none:=none_of (ab.refl u) k4
  have SV:ab (but u M) (but H4 (a::M)):=gX bl bk
  have d2:di[2]?=some (some (.ref m)):=(o4 2 Z1).trans c2
  have dt:=SV _ _<|(s3.but M) _ _ hm
  have bs:=(hD.mono<|s3.but M).mono SV
  have dx:=c1 k
  generalize as:cG g (r.take k) [[]]=L at bs dx
  have ek:∀c∈L,∀p∈c,p.2.sc=true:=λc hc=>by
   rw [<-as] at hc
   exact sj g _ [[]] c hp (λm hm p bt=>by rw [LK.mp hm] at bt;cases bt) hc
  have bx:∀c∈L,c.length<=3:=λc hc=>by
   rw [<-as] at hc
   have:=yv g (r.take k) [[]] 0 (λm hm=>by rw [LK.mp hm];rfl) c hc
   rw [L9] at this
   omega
  refine rJ (M:=a::M) (vI (Hr d2) dt) l4 λH5 s5=>?_
  have a0:=bs.mono<|s5.but _
  refine ⟨λj M' N X=>M'=a::M/\∃ws,N[4]?=some (some (.ref a))/\X a=some (.lst ws)/\gJ (but X (a::M)) ws ((L.take j).flatMap λc=>g.map λt=>c++[(b,t)])/\ab u X/\ap (a::M) X/\ab (but H5 (a::M)) (but X (a::M))/\ax (but X (a::M)) N [some<|fA r,some (.lst g),none,some (.str b),none,none,none,none],
   ⟨rfl,[],i4,s5 _ _ h4,.nil,bk.trans s5,l4.same s5,ab.refl _,E4.same s5⟩,λj M' N X q2=>by obtain ⟨e,_,_,_,_,_,x,y,_⟩:=q2;rw [e];exact ⟨y,x⟩,?_,?_⟩
  .rintro j M' y N X X' hj ⟨rfl,ws,t4,a1,O,SX,lX,a2,EX⟩ s6 hy
   have hy:us[j]?=some y:=hy
   have ao:=a0.len
   have d1:j<L.length:=by omega
   have aj:L[j]?=some L[j]:=Lk d1
   obtain ⟨U,h1,h2⟩:=a0.get j _ aj
   have ey:y=.ref U:=by rw [hy] at h1;exact LB h1
   subst ey
   have b0:=Lp aj
   generalize eq:L[j]=c at h2 aj b0
   have E6:ax (but X' (a::M)) (N.set 5<|some (.ref U)) [some<|fA r,some (.lst g),none,some (.str b),none,none,none,none]:=(EX.same s6).off 5 _
   have d3:N.length=8:=EX.len
   have e4:(N.set 5<|some (.ref U))[4]?=some (some (.ref a)):=(Lm Z1).trans t4
   have e5:(N.set 5<|some (.ref U))[5]?=some (some (.ref U)):=Lx Z4
   have d4:=(s6.but (a::M)) _ _<|a2 _ _ h2
   have b6:(L.take<|j+1).flatMap (λc=>g.map λt=>c++[(b,t)])=(L.take j).flatMap (λc=>g.map λt=>c++[(b,t)])++g.map λt=>c++[(b,t)]:=by
    rw [L0,aj,Pe]
    congr 1
    exact MV _ _
   have d5:((L.take j).flatMap λc=>g.map λt=>c++[(b,t)]).length<=10000:=by
    rw [List.length_flatMap]
    have ea:∀l:List aP,(l.map λc=>(g.map λt=>c++[(b,t)]).length).sum=l.length*g.length:=by
     intro l
     induction l with
     |nil=>simp
     |cons m t ih=>rw [Me,Ps,ih,Ma,PQ,Qe,Ll]
    rw [ea,L9]
    calc min j L.length*g.length<=1000*10:=P7 Z4 a4
     _=10000:=by decide
   generalize er:((L.take j).flatMap λc=>g.map λt=>c++[(b,t)])=W at O b6 d5
   refine gK (M:=a::M) (ds:=g) (dn<|aG E6 rfl) (lX.same s6) λH7 s7=>?_
   refine ⟨λi I Y=>∃ws,I[4]?=some (some (.ref a))/\I[5]?=some (some (.ref U))/\Y a=some (.lst ws)/\gJ (but Y (a::M)) ws (W++(g.take i).map λt=>c++[(b,t)])/\ab u Y/\ap (a::M) Y/\ab (but H7 (a::M)) (but Y (a::M))/\ax (but Y (a::M)) I [some<|fA r,some (.lst g),none,some (.str b),none,none,none,none],
    ⟨ws,e4,e5,s7 _ _<|s6 _ _ a1,by rw [List.take_zero,Ow,LV];exact O.mono<|(s6.trans s7).but _,SX.trans<|s6.trans s7,(lX.same s6).same s7,ab.refl _,E6.same s7⟩,λi I Y q3=>by obtain ⟨_,_,_,_,_,_,x,y,_⟩:=q3;exact ⟨y,x⟩,?_,?_⟩
   .rintro i t v I Y Y' ht ⟨G,u4,u5,a3,T,SY,lY,am,EY⟩ s8 rt
    have ec:=Lp ht
    have b7:=hp t ec
    have es:=(Li.mp ht).1
    have E8:ax (but Y' (a::M)) (I.set 6<|some v) [some<|fA r,some (.lst g),none,some (.str b),none,none,some t,none]:=(EY.same s8).set 6 rt
    have w4:(I.set 6<|some v)[4]?=some (some (.ref a)):=(Lm Z1).trans u4
    have w5:(I.set 6<|some v)[5]?=some (some (.ref U)):=(Lm Z1).trans u5
    have ed:=(s8.but (a::M)) _ _<|am _ _<|(s7.but _) _ _ d4
    have l8:=lY.same s8
    refine ⟨.ref U,w5,U,_,rfl,.inl (aw ed).2,λp an=>?_⟩
    have b8:=c8 an (.dK<|cb []<|bK c)
    have cd:p∉a::M:=l8.fresh an
    have em:I.length=8:=EY.len
    have E9:ax (but (upd Y' p (.dK<|cb []<|bK c)) (p::a::M)) ((I.set 6<|some v).set 7<|some (.ref p)) [some<|fA r,some (.lst g),none,some (.str b),none,none,some t,none]:=uB E8 an
    have x7:((I.set 6<|some v).set 7<|some (.ref p))[7]?=some (some (.ref p)):=Lx (by rw [MU];omega)
    have x4:((I.set 6<|some v).set 7<|some (.ref p))[4]?=some (some (.ref a)):=(Lm Z1).trans w4
    have x5:((I.set 6<|some v).set 7<|some (.ref p))[5]?=some (some (.ref U)):=(Lm Z1).trans w5
    have en:=bx c b0
    refine z0 (n:=b) (y:=t) (F:=c) (l8.upd.cons aN) E9 Z8 x7 aN b7 Z4 (aG E9 rfl) (aG E9 rfl) λZ kZ lZ eg EZ=>?_
    have ei:a≠p:=λz=>cd (by rw [<-z];exact Lj)
    have ch:Z a=some (.lst G):=kZ a _ ei<|b8 _ _<|s8 _ _ a3
    have cl:ab Y' Z:=λz o e=>kZ z o (cU e an)<|b8 _ _ e
    refine ⟨.ref a,x4,(show gM K "list" (.ref a) _ from .inl ⟨rfl,G,aQ.of ch⟩),.ref p,x7,a,G,.ref p,rfl,rfl,ch,?_,?_⟩
    .rw [T.len,LC,Ll,L9]
     exact NI (show _<=20000 by omega) Z1
    .have eb:but (upd Z a (.lst<|G++[.ref p])) (a::M)=but Z (a::M):=dw Lj
     have SZ:ab (but Y' (a::M)) (but (upd Z a (.lst<|G++[.ref p])) (a::M)):=by rw [eb];exact cl.but _
     refine ⟨_,x4,x5,aN,?_,mJ (SY.trans<|s8.trans cl) bl λz o hz e=>by rw [aA hz];exact e,?_,am.trans<|(s8.but _).trans SZ,?_⟩
     .rw [L0,ht,LU,<-Mm]
      refine (T.mono<|(s8.but _).trans SZ).snoc ?_
      rw [eb,bf cd]
      exact eg
     .exact (λz hz=>(lZ.upd (a:=a)) z<|Lg _ hz)
     .rw [eb]
      exact (EZ.mono<|dR λz hz=>Lg _ hz).drop 6
   .rintro I Y ⟨G,u4,u5,a3,T,SY,lY,am,EY⟩
    rw [LS<|Lo _,<-b6] at T
    exact ⟨a::M,rfl,G,u4,a3,T,SY,lY,a2.trans<|((s6.trans s7).but _).trans am,EY⟩
  .rintro M' N X ⟨rfl,ws,t4,a1,O,SX,lX,a2,EX⟩
   have ao:=a0.len
   rw [ao,LS<|Lo _] at O
   have ej:a∉M:=n4
   have ES:ax (but X M) N [some<|fA r,some (.lst g),none,some (.str b),none,none,none,none]:=EX.mono<|dR λz hz=>Lg _ hz
   have d3:N.length=8:=EX.len
   refine ⟨.ref a,t4,a,ws,Lx Z4,by rw [bf ej];exact a1,?_,S'.trans<|s3.trans SX,(ES.drop 3).off 2 _⟩
   rw [dc,zd,as]
   exact O.mono<|dR λz hz=>Lg _ hz
 .rintro C H' ⟨m,us,j2,hm,hD,S',E'⟩
  rw [Ll,LS<|Lo _] at hD
  exact ⟨.ref m,j2,q m us H' (af.trans<|s2.trans S') hm hD⟩
end
end a7
namespace a7
open PySem L2 FL
section
variable {P:Program}{w:World}{K:PySem.W.Frag}{mg:Str->Option Value}{base:Heap}{f:Addr}{fd:FuncData}
def oh:bV ["atoms","body","bound","asker","blank","atom"] ["atoms","body"] (be sL):=⟨rfl,rfl,rfl,Z9,rfl,Z9,Z9⟩
def HJ (F:aI K "refuse_loose" "refuse_loose" sL f fd)(B:Bl mg)(m:a6 P w K mg base 2 "askers_in" ["body"] (bA um))(l:a6 P w K mg base 2 "blanks_in" ["atom"] (bA nD)):bp P w K mg base bD 3 f fd ["atoms","body"] (bA wn):=by
 refine F.ok oh (eI (n:=2) λds d q0=>by obtain ⟨_,_,e,_⟩:=q0;rw [e];rfl) λbk A ao s H vs Q E hr h=>?_
 obtain ⟨M,ds,d,lv,rs,⟨J,u,rfl,hx,bl,hb,a0,Y,rfl⟩,q⟩:=h
 have hu:=eC hr
 have am:=fJ hr
 refine ⟨_,(aD (bj 2 oh.nd ro)
   (aD (cO LM rfl (ck<|bI m hr<|ak (pv 1) ar) (bq 3 oh.nd)<|aE<|cO LM rfl (ck<|bI l hr<|ak (pv 3) ar) (bq 4 oh.nd)<|aE<|ly am (pv 2) (pv 4) eh rfl)
   (aE<|cO LM rfl (ck<|pv 0) (bq 5 oh.nd)<|aE<|cO LM rfl (ck<|bI l hr<|ak (pv 5) ar) (bq 4 oh.nd)<|aE<|cx (jt<|ny (by exact am) (pv 4)<|pv 2) (aE vA) cM))),?_⟩
 have E0:=gN rs ["atoms","body","bound","asker","blank","atom"]
 refine vH (i:=2) lv E0 Z8 λp bs H1 o1 i1 n1 h1 l1 k1 E1=>?_
 have a1:ab H H1:=λb o e=>(k1 b o e).2
 have a2:H p=none:=none_of (ab.refl H) k1
 let g:=u.filter λa=> !aK a
 have ac:∀a∈g,dz a:=λa ha=>hb a (Ly.mp ha).1
 have a3:g.length<=3:=LN (LZ _ _) a0
 let O:Nat->ZY:=λj=>(g.take j).foldl (λB a=>(ai [] a).foldl io B) []
 refine gK (M:=p::M) (ds:=g.map D.tup) (dn<|bQ ⟨u,rfl,hb,by omega,rfl⟩<|aa (aG E1 rfl) ag) l1 λH2 L=>?_
 refine ⟨λj c k=>c[2]?=some (some (.ref p))/\k p=some (.dK<|dY<|O j)/\(O j).length<=100*j/\ab H k/\ap (p::M) k/\ab (but H2 (p::M)) (but k (p::M))/\ax (but k (p::M)) c [some<|ci J,some<|cq u,none,none,none,none],
  ⟨i1,L _ _ h1,Lo _,a1.trans L,l1.same L,ab.refl _,E1.same L⟩,λj c k q1=>by obtain ⟨_,_,_,_,x,y,_⟩:=q1;exact ⟨y,x⟩,?_,?_⟩
 .rintro j d x c k af T ⟨j1,hp,bd,S0,U,S',E'⟩ v rx
  obtain ⟨a,C,rfl⟩:∃a,g[j]?=some a/\d=.tup a:=by
   rw [LA] at T
   cases e:g[j]? with
   |none=>rw [e] at T;cases T
   |some y=>rw [e] at T;exact ⟨y,rfl,(LB T).symm⟩
  have hj:j<g.length:=(Li.mp C).1
  have N:=ac a<|Lp C
  have E3:ax (but af (p::M)) (c.set 3<|some x) [some<|ci J,some<|cq u,none,some (.tup a),none,none]:=(E'.same v).set 3 rx
  have b1:(c.set 3<|some x)[2]?=some (some (.ref p)):=(Lm Z1).trans j1
  have bt:(ai [] a).length<=100:=by
   have:=jS a []
   have:=N.len
   simp only [Nq] at*
   omega
  have G:O (j+1)=(ai [] a).foldl io (O j):=by
   show (g.take<|j+1).foldl _ []=_
   rw [L0,C,MM]
   rfl
  refine gK (M:=p::M) (ds:=(ai [] a).map D.str) (dn<|bQ ⟨a,rfl,N,rfl⟩<|aa (aG E3 rfl) ag) (U.same v) λH4 I=>?_
  refine ⟨λi c k=>c[2]?=some (some (.ref p))/\k p=some (.dK<|dY<|((ai [] a).take i).foldl io<|O j)/\ab H k/\ap (p::M) k/\ab (but H4 (p::M)) (but k (p::M))/\ax (but k (p::M)) c [some<|ci J,some<|cq u,none,some (.tup a),none,none],
   ⟨b1,I _ _<|v _ _ hp,S0.trans<|v.trans I,(U.same v).same I,ab.refl _,E3.same I⟩,λj c k q2=>by obtain ⟨_,_,_,x,y,_⟩:=q2;exact ⟨y,x⟩,?_,?_⟩
  .rintro i d x2 t H5 H6 dr ⟨j2,r,S2,l2,S3,E2⟩ z aj
   obtain ⟨n,hn,rfl⟩:∃n,(ai [] a)[i]?=some n/\d=.str n:=by
    rw [LA] at dr
    cases e:(ai [] a)[i]? with
    |none=>rw [e] at dr;cases dr
    |some y=>rw [e] at dr;exact ⟨y,rfl,(LB dr).symm⟩
   have E6:ax (but H6 (p::M)) (t.set 4<|some x2) [some<|ci J,some<|cq u,none,some (.tup a),some (.str n),none]:=(E2.same z).set 4 aj
   have b2:(t.set 4<|some x2)[2]?=some (some (.ref p)):=(Lm Z1).trans j2
   have a4:=uk ((ai [] a).take i)<|O j
   have bi:((ai [] a).take i).length<=100:=by rw [L9];omega
   refine Cd (n:=n) (l2.same z) E6 Z8 b2 (z _ _ r) Z4 (aG E6 rfl) (jw (b:=true)) λH7 k7 l7 h7 E7=>?_
   have S7:ab (but H6 (p::M)) (but H7 (p::M)):=lD Z8 k7
   refine ⟨b2,?_,mJ (S2.trans z) a2 k7,l7,S3.trans<|(z.but _).trans S7,E7.drop 4⟩
   rw [L0,hn,MM]
   exact h7
  .rintro t H5 ⟨j2,r,S2,l2,S3,E2⟩
   rw [Ll,LS<|Lo _] at r
   have a4:=uk (ai [] a)<|O j
   refine ⟨j2,by rw [G];exact r,by rw [G];omega,S2,l2,S'.trans ((v.trans I).but _|>.trans S3),E2.drop 3⟩
 .rintro c k ⟨j1,hp,_,S0,U,S',E'⟩
  rw [Ll] at hp
  have bc:O g.length=qf u:=by
   show (g.take g.length).foldl _ []=_
   rw [LS<|Lo _]
   rfl
  rw [bc] at hp
  have Y:∀a∈J,∀n∈ai [] a,n∈qf u:=λa ha n hn=>by
   obtain ⟨b,h1,h2,h3⟩:=Y a ha n hn
   exact xW _ _ (.inr ⟨b,Ly.mpr ⟨h1,by rw [h2];rfl⟩,h3⟩)
  refine gK (M:=p::M) (ds:=J.map D.tup) (dn<|aG E' rfl) U λH2 L=>?_
  refine ⟨λj c k=>c[2]?=some (some (.ref p))/\k p=some (.dK<|dY<|qf u)/\ab H k/\ap (p::M) k/\ab (but H2 (p::M)) (but k (p::M))/\ax (but k (p::M)) c [some<|ci J,some<|cq u,none,none,none,none],
   ⟨j1,L _ _ hp,S0.trans L,U.same L,ab.refl _,E'.same L⟩,λj c k q4=>by obtain ⟨_,_,_,x,y,_⟩:=q4;exact ⟨y,x⟩,?_,λc k q3=>by obtain ⟨_,_,S0,_⟩:=q3;exact q .aq k S0 .aq⟩
  rintro j d x c k af T ⟨j1,hp,S0,U,S',E'⟩ v rx
  rw [LA] at T
  obtain ⟨a,C,rfl⟩:=Mj.mp T
  have an:=Lp C
  have N:=hx a an
  have E3:ax (but af (p::M)) (c.set 5<|some x) [some<|ci J,some<|cq u,none,none,none,some (.tup a)]:=(E'.same v).set 5 rx
  have b1:(c.set 5<|some x)[2]?=some (some (.ref p)):=(Lm Z1).trans j1
  refine gK (M:=p::M) (ds:=(ai [] a).map D.str) (dn<|bQ ⟨a,rfl,N,rfl⟩<|aa (aG E3 rfl) ag) (U.same v) λH4 I=>?_
  refine ⟨λi c k=>c[2]?=some (some (.ref p))/\k p=some (.dK<|dY<|qf u)/\ab H k/\ap (p::M) k/\ab (but H4 (p::M)) (but k (p::M))/\ax (but k (p::M)) c [some<|ci J,some<|cq u,none,none,none,some (.tup a)],
   ⟨b1,I _ _<|v _ _ hp,S0.trans<|v.trans I,(U.same v).same I,ab.refl _,E3.same I⟩,λj c k q5=>by obtain ⟨_,_,_,x,y,_⟩:=q5;exact ⟨y,x⟩,?_,?_⟩
  .rintro i d x2 t H5 H6 dr ⟨j2,r,S2,l2,S3,E2⟩ z aj
   rw [LA] at dr
   obtain ⟨n,hn,rfl⟩:=Mj.mp dr
   have E6:ax (but H6 (p::M)) (t.set 4<|some x2) [some<|ci J,some<|cq u,none,none,some (.str n),some (.tup a)]:=(E2.same z).set 4 aj
   have b2:(t.set 4<|some x2)[2]?=some (some (.ref p)):=(Lm Z1).trans j2
   have l6:=l2.same z
   refine wI l6 E6 (Fs b2 (z _ _ r) l6<|aG E6 rfl) (λe H7 s7 l7 E7=>?_) λe H7 s7 l7 E7=>?_
   .rw [LH<|Y a an n<|Lp hn] at e
    cases e
   .exact nx ⟨b2,s7 _ _<|z _ _ r,S2.trans<|z.trans s7,l7,S3.trans<|(z.trans s7).but _,E7.drop 4⟩
  .rintro t H5 ⟨j2,r,S2,l2,S3,E2⟩
   exact ⟨j2,r,S2,l2,S'.trans ((v.trans I).but _|>.trans S3),E2.drop 5⟩
def sr:bV ["body","guards","guard","relation"] ["body"] (be sO):=⟨rfl,rfl,rfl,Z9,rfl,Z9,Z9⟩
def CG (F:aI K "check_body" "check_body" sO f fd)(B:Bl mg)(k:a6 P w K mg base 2 "guards_in" ["body"] (bA ph))(c:a6 P w K mg base 3 "refuse_loose" ["atoms","body"] (bA wn)):bp P w K mg base bD 4 f fd ["body"] (bA yM):=by
 refine F.ok sr (eI (n:=1) λI d J=>by obtain ⟨_,e,_⟩:=J;rw [e];rfl) λL A p s H vs Q E r h=>?_
 obtain ⟨M,I,d,N,O,⟨l,rfl,t,u,T,y,rfl⟩,q⟩:=h
 have U:=eC r
 refine ⟨_,(aD (bj 1 sr.nd<|bI k r<|ak (pv 0) ar)
   (aD (cO LM rfl (ck<|pv 1) (bq 2 sr.nd) (aE (cx (cX (jO (by exact U)) (da B<|pv 2) aO) (aD (bj 3 sr.nd<|bG (pv 2) aO)
   (aE vA)) cM)))
   (aE<|il<|bI c r<|ak (pv 1)<|ak (pv 0) ar))),?_⟩
 have Y:Bx H M [] _ H [Sl.d<|cq l,.no,.no,.no]:=hJ N O ["body","guards","guard","relation"]
 refine aW.run Y<|bu<|gW (i:=1) (d:=ci<|l.filter aK) (λG o e=>bQ ⟨l,rfl,t,by omega,rfl⟩<|aa (e.vd rfl) ag) ?_
 refine bu<|gP (i:=2) (ds:=(l.filter aK).map D.tup) (dQ.of λG o e=>dn<|e.vd rfl) (λj m=>∃s,m=[Sl.d<|cq l,.d<|ci<|l.filter aK,s,.no]) ⟨_,rfl⟩ (λB' sB hk j x m hj C=>?_) λm C=>?_
 .obtain ⟨s,rfl⟩:=C
  obtain ⟨g,hg,rfl⟩:=LG.mp<|Lp hj
  obtain ⟨g1,g2⟩:=Ly.mp hg
  exact fP (b:=false) (λG o e=>bJ.eq (c7<|pf (nX (K:=K)<|aa (e.v rfl) ag) av) (by rw [T g g1 g2];rfl)) (λz=>nomatch z) λ_=>ik<|eR ⟨_,rfl⟩
 .obtain ⟨s,rfl⟩:=C
  dsimp only
  exact t6 (d:=.aq) (λG o e=>bQ ⟨_,l,rfl,λa ha=>t a (Ly.mp ha).1,LN (LZ _ _) Z4,t,u,y,rfl⟩<|aa (e.v rfl)<|aa (e.v rfl) ag) λac o H' b=>q .aq H' b.same .aq
def qC:bV ["rule","head","body","relation"] ["rule"] (be qv):=⟨rfl,rfl,rfl,Z9,rfl,Z9,Z9⟩
def IB (F:aI K "check_rule" "check_rule" qv f fd)(B:Bl mg)(j:a6 P w K mg base 1 "is_guard" ["atom"] (bA qF))(c:a6 P w K mg base 3 "refuse_loose" ["atoms","body"] (bA wn))(g:a6 P w K mg base 4 "check_body" ["body"] (bA yM)):bp P w K mg base bD 5 f fd ["rule"] (bA Bq):=by
 refine F.ok qC (eI (n:=1) λo d p=>by obtain ⟨_,e,_⟩:=p;rw [e];rfl) λt A m s H J Q E l h=>?_
 obtain ⟨M,o,d,u,x,⟨r,rfl,S,rfl⟩,q⟩:=h
 have L:=eC l
 refine ⟨_,(aD (bj 1 qC.nd<|bG (pv 0) aO)
   (aD (bj 2 qC.nd<|bG (pv 0) aO)
   (aD (cx (dN<|bI j l<|ak (pv 1) ar) (aD (bj 3 qC.nd<|bG (pv 1) aO)
   (aE vA)) cM)
   (aD (il<|bI g l<|ak (pv 2) ar)
   (aE<|il<|bI c l<|ak (dj<|ak (pv 1) ar)<|ak (pv 2) ar))))),?_⟩
 have y:Bx H M [] _ H [Sl.d<|aV r,.no,.no,.no]:=hJ u x ["rule","head","body","relation"]
 refine aW.run y ?_
 refine bu<|gW (i:=1) (d:=.tup r.1) (λG k e=>cv (ds:=[.tup r.1,cq r.2]) rfl (e.vd rfl) av) ?_
 refine bu<|gW (i:=2) (d:=cq r.2) (λG k e=>cv (ds:=[.tup r.1,cq r.2]) rfl (e.vd rfl) av) ?_
 refine lR (λG k e=>bJ.eq (dP<|bQ ⟨r.1,rfl,S.hd,rfl⟩<|aa (e.v rfl) ag) S.hg) ?_
 refine bu<|t6 (d:=.aq) (λG k e=>bQ ⟨r.2,rfl,S.ok,S.dA,S.g3,S.gb,rfl⟩<|aa (e.v rfl) ag) ?_
 exact t6 (d:=.aq) (λG k e=>bQ ⟨[r.1],r.2,rfl,λa z=>by rw [LK.mp z];exact S.hd,Nat.le_of_ble_eq_true rfl,S.ok,S.dA,S.hb,rfl⟩<|aa (fg<|aa (e.v rfl) ag)<|aa (e.v rfl) ag) λC k I b=>q .aq I b.same .aq
def Ib:bV ["found"] ["found"] (be qY):=⟨rfl,rfl,rfl,Z9,rfl,Z9,Z9⟩
def Gw (F:aI K "facts_of" "facts_of" qY f fd)(B:Bl mg):bp P w K mg base bD 1 f fd ["found"] (bA uO):=by
 refine F.ok Ib (eI (n:=1) λb d c=>by obtain ⟨_,e,_⟩:=c;rw [e];rfl) λg A a s H t Q E u h=>?_
 obtain ⟨M,b,d,i,j,⟨k,rfl,l,rfl⟩,q⟩:=h
 refine ⟨_,(aE<|bE<|fh ["reason"] [] 1 (ck<|pv 0) (λ_ _ _ _ _=>(bq 0<|jP _)) (λ_ _ _ _ _=>iG) λ_ _ _ _ _=>(m6 (pv 0) aO)),?_⟩
 have m:Bx H M [] _ H [Sl.d (.lst<|k.map eX)]:=hJ i j ["found"]
 refine aW.run m ?_
 refine f7 (λG y e=>ae.eq (e.comp (λ_=>true) (λd=>match d with|.tup (x::_)=>x|_=>.aq) (dn<|e.v rfl) (λ_ _ _ _ _=>jn) (λz o d p _ r=>?_) (by rw [Ll];exact cp l)) ?_) q
 .obtain ⟨x,_,rfl⟩:=LG.mp p
  exact cv (ds:=[.tup x.1,.int ((x.2.1:Nat):Int),.tup<|x.2.2.map λn=>D.int (n:Nat)]) (d:=.tup x.1) rfl (r.v rfl) av
 .rw [Mp.mpr λ_ _=>rfl,Mb]
  unfold aC
  show _=D.lst _
  rw [Mb]
  rfl
end
end a7
namespace a7
open PySem L2 FL
section
variable {P:Program}{w:World}{K:PySem.W.Frag}{mg:Str->Option Value}{base:Heap}{f:Addr}{fd:FuncData}
def ow:bV ["rules","rule","weaving","found","latest"] ["rules"] (be sC):=⟨rfl,rfl,rfl,Z9,rfl,Z9,Z9⟩
def KI(F:aI K "reasons_by_round" "reasons_by_round" sC f fd)(B:Bl mg)(TW:pe K CW)(N:a6 P w K mg base 5 "check_rule" ["rule"] (bA Bq))(aj:iU P w K mg base 9 CW "Weaving" ["self","rules"] (Cs C CL CW))(t:d7 P w K mg base 6 CW "one_round" ["self","facts"] (xN C CL CW))(U:a6 P w K mg base 1 "facts_of" ["found"] (bA uO)):bp P w K mg base bD 11 f fd ["rules"] (iQ rD Bp):=by
 refine F.ok ow (qI (n:=1) λk q0=>by obtain ⟨_,_,e,_⟩:=q0;rw [e];rfl) λf0 A ey s H0 vs Q E hr h=>?_
 obtain ⟨M,k,ez,rs,⟨c1,a,rfl,hP,hR,e0⟩,q⟩:=h
 have nP:=TW.cl
 refine ⟨_,(aD (cO LM rfl (ck<|pv 0) (bq 1 ow.nd)<|aE<|il<|bI N hr<|ak (pv 1) ar)
   (aD (bj 2 ow.nd<|vE aj hr<|ak (pv 0) ar)
   (aD (bj 3 ow.nd<|dj ar)
   (aD (bj 4 ow.nd<|jH (pv 2) nP t hr<|ak (dj ar) ar)
   (aD (ve LM (uf (pv 4) λ_=>rfl) (aD (iZ (pv 3)<|pv 4)
   (aE<|bj 4 ow.nd<|jH (pv 2) nP t hr<|ak (bI U hr<|ak (pv 4) ar) ar)))
   (aE<|bE<|pv 3)))))),?_⟩
 have b0:Bx H0 M [] _ H0 [Sl.d (.lst<|a.map aV),.no,.no,.no,.no]:=hJ ez rs ["rules","rule","weaving","found","latest"]
 refine aW.run b0 ?_
 refine bu<|gP (i:=1) (dQ.of λG σ e=>dn<|e.vd rfl) (λj dp=>∃x,dp=[Sl.d (.lst<|a.map aV),x,.no,.no,.no]/\x.own=false) ⟨_,rfl,rfl⟩ (λB' sB hk j x dp hj hp=>?_) λdp hp=>?_
 .obtain ⟨s1,rfl,_⟩:=hp
  obtain ⟨r,e1,rfl⟩:=LG.mp<|Lp hj
  exact t6 (d:=.aq) (λG σ e=>bQ ⟨r,rfl,(hR.ok r e1).sound hP,rfl⟩<|aa (e.v rfl) ag)<|eR ⟨_,rfl,rfl⟩
 obtain ⟨x1,rfl,Y⟩:=hp
 intro f1 σ H b
 have b:=b.free λs hs=>by
  simp only [Lw,L1,Mo] at hs
  rcases hs with rfl|rfl|rfl|rfl|rfl
  .rfl
  .exact Y
  .rfl
  .rfl
  .rfl
 have S0:ab H0 H:=b.same
 have lv:ap M H:=b.live
 have E0:ax (but H M) σ _:=b.iV
 have e2:=E0.len
 obtain ⟨v0,i0,r0⟩:=E0.get 0 (.lst<|a.map aV) rfl
 dsimp only
 refine ⟨v0,i0,λx dx hx e3 a1=>?_⟩
 have S1:ab H (upd (upd H dx (.own x)) x (.ins CW dx [])):=λb u e=>by rw [aA<|cU e hx,aA<|cU e e3];exact e
 have back:∀{z:Addr},(upd (upd H dx (.own x)) x (.ins CW dx [])) z=none->H z=none:=λ{z} e=>gx S1 e
 have Y:(upd (upd H dx (.own x)) x (.ins CW dx [])) x=some (.ins CW dx []):=aN
 generalize upd (upd H dx (.own x)) x (.ins CW dx [])=H1 at S1 back Y
 have eb:x∉M:=lv.fresh hx
 refine ⟨M,a,x,dx,v0,rfl,Y,lv.same S1,eb,r0.mono<|S1.but M,λr hr=>(hR.ok r hr).FK,e0,λll J us l H2 k2 ec ac c2 hn dt l2 b7=>⟨rfl,?_⟩⟩
 have S2:ab H H2:=λb u e=>k2 b u (cU e hx)<|S1 _ _ e
 have ed:x∉J::(l.flatten++M):=λz=>by
  rcases Lw.mp z with w|w
  .rw [<-w,Y] at ac;cases ac
  .rcases LI.mp w with w|w
   .obtain ⟨os,p,O⟩:=Mc.mp w
    rw [(hn os p x O).1] at Y;cases Y
   .exact eb w
 have SZ:ab (but H M) (but H2 (J::(l.flatten++M))):=λb u e=>by
  obtain ⟨q1,q2⟩:=aw e
  rw [bf]
  .exact S2 _ _ q2
  .intro z
   rcases Lw.mp z with w|w
   .rw [w,back ac] at q2;cases q2
   .rcases LI.mp w with w|w
    .obtain ⟨os,p,O⟩:=Mc.mp w
     rw [back (hn os p b O).1] at q2;cases q2
    .exact q1 w
 have E2:ax (but H2 (J::(l.flatten++M))) (σ.set 2<|some (.ref x)) [some (.lst<|a.map aV),none,none,none,none]:=((E0.mono SZ).off 2 _).drop 1
 have eg:(σ.set 2<|some (.ref x))[2]?=some (some (.ref x)):=Lx (by rw [e2];exact (show 2<5 by decide))
 have d0:but H2 (J::(l.flatten++M)) x=some (.ins CW dx<|lN v0 ll J):=by rw [bf ed];exact ec
 have a2:∀y∈M,y∈J::(l.flatten++M):=λy O=>Lg _<|Lr _ O
 have ei:∀os∈l,∀y∈os,H y=none:=λos p y O=>back (hn os p y O).1
 have c3:H J=none:=back ac
 have ej:∀os∈l,J∉os:=λos p z=>(hn os p J z).2 rfl
 have am:J∈J::(l.flatten++M):=Lj
 have d1:=r0.mono SZ
 refine (show nq _ _ _ (σ.set 2<|some (.ref x)) H2 from ?_)
 generalize J::(l.flatten++M)=Z at dt l2 b7 E2 d0 a2 am d1
 generalize σ.set 2 (some (.ref x))=f2 at E2 eg
 clear ed SZ hn ac Y k2 ec
 refine m4 (i:=3) l2 E2 Z8 ag (LP _) λI vF ek H3 o3 i3 n3 h3 r3 l3 k3 E3=>?_
 have b8:ab H2 H3:=λx o e=>(k3 x o e).2
 have bs:H2 I=none:=none_of (ab.refl H2) k3
 have HF:H I=none:=gx S2 bs
 have e5:vF=[]:=by cases r3;rfl
 subst e5
 have S3:ab H H3:=S2.trans b8
 have a3:ab (but H2 Z) (but H3 (I::Z)):=gX bs b8
 have em:ek[2]?=some (some (.ref x)):=(o3 2 Z1).trans eg
 have c4:=b8 _ _ c2
 have an:=b7.fu
 have L3:db C CL H3 (I::Z) us l (a.map λr=>bL r.2):=b7.frame (λos p y O=>Lg _<|an os p y O) (λb u _ e=>b8 _ _ e) a3
 have en:∀os∈l,I∉os:=λos p z=>l2 I (an os p I z) bs
 have cd:I≠J:=λz=>by rw [z,c2] at bs;cases bs
 have c5:∀y∈M,y∈I::Z:=λy O=>Lg _<|a2 y O
 have as:J∈I::Z:=Lg _ am
 have bc:I∈I::Z:=Lj
 have af:=a3 _ _ d0
 have a0:=a3 _ _ dt
 have ch:=d1.mono a3
 generalize I::Z=Z3 at l3 E3 a3 L3 c5 as bc af a0 ch
 clear b7 dt d0 l2 E2 an a2 am d1 a3
 refine ⟨.ref x,em,x,dx,_,rfl,(aw af).2,rfl,aa (fg (ds:=[]) ag) ag Z3 H3 (ab.refl _) l3 _ λvs H4 T co=>?_⟩
 obtain ⟨v1,rfl,r1⟩:=iR co
 have bd:=T.but Z3
 have dc:=L3.fu
 refine ⟨Z3,x,dx,v0,ll,J,us,l,a,a.map λr=>bL r.2,[],[],v1,rfl,l3.same T,bd _ _ af,bd _ _ a0,L3.frame dc (λb u _ e=>T _ _ e) bd,as,ej,T _ _ c4,ch.mono bd,r1,F7 hP hR,λv H5 Z5 d2 k5 cs ep l5 L5 n5 d3 r5=>?_⟩
 have eq:ab (but H4 Z3) (but H5 Z5):=λb u e=>by
  obtain ⟨q1,q2⟩:=aw e
  rw [bf λz=>(ep b z).elim q1 λw=>by rw [w] at q2;cases q2]
  exact k5 b u (λz=>q1 (by rw [z];exact as)) (λos p z=>q1<|dc os p b z) q2
 have bt:=bd.trans eq
 have bx:H5 I=some (.lst []):=k5 I _ cd en<|T _ _ h3
 have S5:ab H H5:=λb u e=>k5 b u (λz=>by rw [z,c3] at e;cases e) (λos p z=>by rw [ei os p b z] at e;cases e)<|T _ _<|S3 _ _ e
 have e6:ab H H4:=S3.trans T
 rw [ED] at L5
 have E5:ax (but H5 Z5) (ek.set 4<|some v) [some (.lst<|a.map aV),none,none,none,none]:=(E3.mono bt).off 4 _
 have e7:=E3.len
 rw [Fd,show de [] []=[] from rfl] at d3 r5
 refine ⟨λm bi X=>∃(k:List (List cj)) (Z:ZX) (l:List ZX) (v4:V) (uF:List V),dH c1 a k/\m=200-(aB k).length/\bi[2]?=some (some (.ref x))/\bi[3]?=some (some (.ref I))/\bi[4]?=some (some v4)/\but X Z x=some (.ins CW dx<|lN v0 ll J)/\but X Z ll=some (.lst us)/\db C CL X Z us l (gq a k)/\J∈Z/\(∀os∈l,J∉os/\I∉os/\∀y∈os,H y=none)/\X J=some (.dT<|cy<|aB k++aC (bb 0 (cn a<|aB k)<|aB k))/\al (but X Z) v0 (.lst<|a.map aV)/\I∈Z/\X I=some (.lst uF)/\az (but X Z) uF (jL k)/\al (but X Z) v4 (.lst<|(bb 0 (cn a<|aB k)<|aB k).map eX)/\ap Z X/\(∀y∈M,y∈Z)/\ab H X/\ax (but X Z) bi [some (.lst<|a.map aV),none,none,none,none],
  ⟨_,[],Z5,d2,v,[],dH.nil,rfl,(Lm Z1).trans em,(Lm Z1).trans i3,Lx (by rw [e7];exact (show 4<5 by decide)),bt _ _ af,bt _ _ a0,L5,cs _ as,λos p=>?_,d3,ch.mono bt,cs _ bc,bx,.nil,r5,l5,λy O=>cs _<|c5 y O,S5,E5⟩,?_⟩
 .refine ⟨λz=>?_,λz=>?_,λy O=>?_⟩
  .rcases n5 os p J z with ⟨o,h1,h2⟩|w
   .exact ej o h1 h2
   .rw [T _ _ c4] at w;cases w
  .rcases n5 os p I z with ⟨o,h1,h2⟩|w
   .exact en o h1 h2
   .rw [T _ _ h3] at w;cases w
  .rcases n5 os p y O with ⟨o,h1,h2⟩|w
   .exact ei o h1 y h2
   .exact gx e6 w
 clear E5 L5 d3 r5 l5 bx S5 bt eq n5 k5 cs ep L3 E3 ch a0 af bd
 rintro m bi X ⟨k,Z,l,v4,uF,b6,rfl,j2,j3,j4,er,es,LX,am,ao,ct,rz,bc,d4,rF,r4,lX,a2,SX,EX⟩
 obtain ⟨a4,u4,rfl,h4,co⟩:=r4.dI
 have e4:(!u4.isEmpty)= !(bb 0 (cn a<|aB k)<|aB k).isEmpty:=by
  have:=co.length
  rw [Ll] at this
  cases u4<;>cases hc:bb 0 (cn a<|aB k) (aB k)<;>rw [hc] at this<;>simp at this⊢
 refine ⟨.ref a4,j4, !u4.isEmpty,.inl ⟨u4,aQ.of (aw h4).2,rfl⟩,?_⟩
 rw [e4]
 by_cases a1:bb 0 (cn a<|aB k) (aB k)=[]
 .refine Eq.mpr (Lq (c:=(!(bb 0 (cn a<|aB k)<|aB k).isEmpty)=true) (by rw [a1];simp)) ?_
  exact ⟨.ref I,j3,q (.lst<|jL k) _ X ⟨c1,a,k,rfl,rfl,hP,hR,b6,a1⟩ (S0.trans SX) (.lst (by rw [bf λz=>lv I z HF];exact d4)<|rF.mono<|dR a2)⟩
 have L:=b6.snoc hR a1
 have ft:=ox hP L.nd L.hd
 have fv:0<(bb 0 (cn a<|aB k)<|aB k).length:=List.length_pos_iff.mpr a1
 have e8:=vq hP hR L
 have fa:=Ag hR L
 have fl:=Et a k<|bb 0 (cn a<|aB k)<|aB k
 refine Eq.mpr (Lv (c:=(!(bb 0 (cn a<|aB k)<|aB k).isEmpty)=true) (by rw [<-e4];cases u4 with|nil=>(exact absurd (by have:=co.length;rw [Ll] at this;exact MH this.symm) a1)|cons _ _=>rfl)) ?_
 have eT:aB k++aC (bb 0 (cn a<|aB k)<|aB k)=aB (k++[bb 0 (cn a<|aB k)<|aB k]):=by rw [iB,jB]
 rw [eT] at ct
 have f3:(aB<|k++[bb 0 (cn a<|aB k)<|aB k]).length=(aB k).length+(bb 0 (cn a<|aB k)<|aB k).length:=by rw [<-eT,LC];unfold aC;rw [Ll]
 have f4:(aC<|bb 0 (cn a<|aB k)<|aB k)=aC (bb 0 (cn a<|aB k)<|aB k):=rfl
 have et:∀g∈aC (bb 0 (cn a<|aB k)<|aB k),g∈aB (k++[bb 0 (cn a<|aB k)<|aB k]):=λg hg=>by rw [<-eT];exact Lr _ hg
 have f5:k.length<=(aB k).length:=wM b6
 generalize bb 0 (cn a<|aB k) (aB k)=bk at*
 have eu:ax (but X Z) bi [some (.lst<|a.map aV),none,none,none,some (.lst<|bk.map eX)]:=DW EX j4 r4
 refine ⟨_,λ_ _ h=>h,?_⟩
 refine tM (d:=.lst<|bk.map eX) lX eu bc j3 d4 rF (by unfold jL;rw [Ll];exact cp Z4) (aG (i:=4) eu rfl) λv5 X5 k5 l5 bx ev E5=>?_
 have an:=LX.fu
 have S5:ab (but X Z) (but X5 Z):=λb u e=>by
  obtain ⟨q1,q2⟩:=aw e
  rw [bf q1]
  exact k5 b u (λz=>q1 (by rw [z];exact bc)) q2
 have fn:ab H X5:=λb u e=>k5 b u (λz=>by rw [z,HF] at e;cases e)<|SX _ _ e
 have cd:J≠I:=λz=>by rw [z,d4] at ct;cases ct
 have dd:=k5 J _ cd ct
 have fp:db C CL X5 Z us l (gq a k):=LX.frame an (λb u q3 e=>by obtain ⟨os,p,hb⟩:=q3;exact k5 b u (λz=>(ao os p).2.1 (by rw [<-z];exact hb)) e) S5
 have di:=S5 _ _ er
 dsimp only
 refine ⟨.ref x,j2,x,dx,_,rfl,(aw di).2,rfl,aa (bQ (d:=ci<|aC bk) ⟨bk,rfl,by omega,rfl⟩<|aa (aG (i:=4) E5 rfl) ag) ag Z X5 (ab.refl _) l5 _ λvs X6 s6 fr=>?_⟩
 obtain ⟨v1,rfl,r1⟩:=iR fr
 have bl:=s6.but Z
 refine ⟨Z,x,dx,v0,ll,J,us,l,a,gq a k,_,aC bk,v1,rfl,l5.same s6,bl _ _ di,bl _ _<|S5 _ _ es,fp.frame an (λb u _ e=>s6 _ _ e) bl,am,λos p=>(ao os p).1,s6 _ _ dd,(rz.mono S5).mono bl,r1,e8,λv X7 Z7 d5 k7 ea fs l7 L7 n7 ew r7=>?_⟩
 rw [vO _ _ et,fa] at ew r7
 rw [fl] at L7
 have ex:ab (but X6 Z) (but X7 Z7):=λb u e=>by
  obtain ⟨q1,q2⟩:=aw e
  rw [bf λz=>(fs b z).elim q1 λw=>by rw [w] at q2;cases q2]
  exact k7 b u (λz=>q1 (by rw [z];exact am)) (λos p z=>q1<|an os p b z) q2
 have c0:=S5.trans<|bl.trans ex
 have K6:ab H X6:=fn.trans s6
 refine ⟨_,?_,k++[bk],Z7,d5,v,_,L,rfl,(Lm Z1).trans j2,(Lm Z1).trans j3,Lx (by rw [EX.len];exact (show 4<5 by decide)),c0 _ _ er,c0 _ _ es,L7,ea _ am,λos p=>?_,ew,rz.mono c0,ea _ bc,k7 I _ (Ml cd) (λos p=>(ao os p).2.1)<|s6 _ _ bx,?_,r7,l7,λy O=>ea _<|a2 y O,λb u e=>?_,(EX.mono c0).off 4 _⟩
 .omega
 .refine ⟨λz=>?_,λz=>?_,λy O=>?_⟩
  .rcases n7 os p J z with ⟨o,h1,h2⟩|w
   .exact (ao o h1).1 h2
   .rw [s6 _ _ dd] at w;cases w
  .rcases n7 os p I z with ⟨o,h1,h2⟩|w
   .exact (ao o h1).2.1 h2
   .rw [s6 _ _ bx] at w;cases w
  .rcases n7 os p y O with ⟨o,h1,h2⟩|w
   .exact (ao o h1).2.2 y h2
   .exact gx K6 w
 .unfold jL at ev⊢
  rw [LU]
  exact ev.mono<|bl.trans ex
 .exact k7 b u (λz=>by rw [z,c3] at e;cases e) (λos p z=>by rw [(ao os p).2.2 b z] at e;cases e)<|K6 _ _ e
def K9:bV ["rules"] ["rules"] (be tL):=⟨rfl,rfl,rfl,Z9,rfl,Z9,Z9⟩
def EI (F:aI K "rounds" "rounds" tL f fd)(a:a6 P w K mg base 11 "reasons_by_round" ["rules"] (iQ rD Bp))(c:a6 P w K mg base 1 "facts_of" ["found"] (bA uO)):bp P w K mg base bD 12 f fd ["rules"] (iQ rD xS):=by
 refine F.ok K9 (qI (n:=1) λY q0=>by obtain ⟨_,_,e,_⟩:=q0;rw [e];rfl) λac A z s H vs Q E N h=>?_
 obtain ⟨M,Y,B,rs,⟨p,j,rfl,hP,hR,C⟩,q⟩:=h
 refine ⟨_,(aE<|bE<|fh ["found"] [] 1 (ck<|bI a N<|ak (pv 0) ar) (λ_ _ _ _ _=>(bq 0<|jP _)) (λ_ _ _ _ _=>iG) λ_ _ _ _ _=>(iN c N<|ak (pv 0) ar)),?_⟩
 have b:Bx H M [] _ H [Sl.d (.lst<|j.map aV)]:=hJ B rs ["rules"]
 refine .inl ?_
 unfold jT ii
 refine aa (b.iV.vd (i:=0) rfl) ag M H (ab.refl _) B _ λvs H2 G I=>⟨M,_,B.same G,by rw [LV];exact I,⟨p,j,rfl,hP,hR,C⟩,λd v O u T r3=>?_⟩
 obtain ⟨o,m,g,e1,rfl,t⟩:=u
 have U:(aB g).length<=110:=ox t.pk t.run.nd t.run.hd
 have af:=wM t.run
 have b3:=b.grow<|G.trans T
 refine (show gH (jT K<|tK v) (a5 [] 1) (cf 0) j7 _ _ O _ from ?_)
 refine ae.eq (b3.wide.comp (λ_=>true) (λd=>.lst (match d with|.lst l=>l.map (λy=>match y with|.tup (x::_)=>x|_=>.aq)|_=>[])) (Bm (tl:=tK v) (ds:=jL g) λM' J s l Q k=>k v J (ab.refl _)<|r3.mono s) (λ_ _ _ _ _=>jn) (λG' aj d u _ e'=>?_) (by unfold jL;rw [Ll];exact cp Z4)) ?_ M O (ab.refl _) b3.live _ λv' J s' r'=>q (.lst<|g.map λr=>ci<|aC r) v' J ⟨o,m,g,e1,rfl,t⟩ (G.trans<|T.trans s') r'
 .unfold jL at u
  obtain ⟨r,L,rfl⟩:=LG.mp u
  have hl:r.length<=1000:=by
   have h1:=(List.sublist_flatten_of_mem L).length_le
   have h2:(aB g).length=g.flatten.length:=by unfold aB aC;rw [Ll]
   omega
  refine ae.eq (bQ (d:=ci<|aC r) ⟨r,rfl,hl,rfl⟩<|aa (e'.v rfl) ag) ?_
  unfold aC
  show D.lst ((r.map (·.1)).map D.tup)=D.lst ((r.map eX).map _)
  rw [Mb,Mb]
  rfl
 .unfold jL
  rw [Mp.mpr λ_ _=>rfl,Mb]
  congr 1
  refine LW λr _=>?_
  unfold aC
  show D.lst ((r.map eX).map _)=D.lst ((r.map (·.1)).map D.tup)
  rw [Mb,Mb]
  rfl
end
end a7
namespace FL
open PySem L2
section
variable {P:Program}{w:World}{K:PySem.W.Frag}{mg:Str->Option Value}{base h:Heap}{x q:Str}{st:Stmt}{f C:Addr}{fd:FuncData}{oc kV dc pm cd ct:Value}{od an:Option Addr}{sl:Array (Option Value)}{n:Nat}{ps:List Str}{sp:Sp}{p1 p2 p3 p4 p5:Str}
def c9 (X:K.In h)(G:h.Ns mainGlobals mg)(a:W.nsIn K mainGlobals x=some (some (.ref f)))(l:K.lookup f=some ⟨oc,od,.func (W.fnOf x x (dE st) (du st) (be st) .none kV dc pm an cd ct),sl⟩)(c:W.codeIn K cd x=true)(k:W.keepIn K (.ref f)=true):∃f d,aI K x x st f d/\mg x=some (.ref f):=⟨f,_,wS l c k,OM X G a⟩
def ig (a:W.findIn K (.ref C) x=some (some (.ref f)))(i:W.isFn K (.ref f)=true)(l:K.lookup f=some ⟨oc,od,.func (W.fnOf x q (dE st) (du st) (be st) .none kV dc pm an cd ct),sl⟩)(c:W.codeIn K cd q=true)(k:W.keepIn K (.ref f)=true):∃f d,aI K x q st f d/\cZ K C x f:=⟨f,_,wS l c k,⟨a,i,k⟩⟩
def wy (X:K.In h)(G:h.Ns mainGlobals mg)(n:W.nsIn K mainGlobals x=some (some (.ref C)))(a:W.plainGet K C Str.empty=true)(b:W.hasDictIn K C=true)(c:W.plainOver K C=true)(d:W.findIn K (.ref C) "__setattr__"=some (some (.builtin "object.__setattr__")))(e:W.makesIn K C=true)(g:W.keepIn K (.ref C)=true):mg x=some (.ref C)/\dk K C/\W.makesIn K C=true/\W.keepIn K (.ref C)=true:=⟨OM X G n,⟨a,b,c,d⟩,e,g⟩
def a6.of (h:bp P w K mg base bD n f fd ps sp)(b:Binds K fd ps [])(k:W.keepIn K (.ref f)=true)(m:mg x=some (.ref f)):a6 P w K mg base n x ps sp:=⟨⟨f,fd,h,b,k,m⟩⟩
def d7.of (h:bp P w K mg base bD n f fd ps sp)(b:Binds K fd ps [])(m:cZ K C x f):d7 P w K mg base n C x ps sp:=⟨⟨f,fd,h,b,m⟩⟩
def iU.of (h:bp P w K mg base bD n f fd ps sp)(b:Binds K fd ps [])(m:cZ K C "__init__" f)(c:mg x=some (.ref C)/\dk K C/\W.makesIn K C=true/\W.keepIn K (.ref C)=true):iU P w K mg base n C x ps sp:=⟨⟨f,fd,h,b,⟨c.2.2.1,m.at_,m.fn,c.2.2.2⟩,c.1⟩⟩
def b1 (F:aI K x q st f fd)(h:∀(kV b pm:Value) (an:Option Addr) (c ct a:Value),bindArgs (W.fnOf x q (dE st) (du st) (be st) .none kV b pm an c ct) ⟨[a],[]⟩=pure [(p1,a)]):Binds K fd [p1] []:=F.binds λkV d pm an e ct g i=>match g,i with|[a],_=>h kV d pm an e ct a
def b2 (F:aI K x q st f fd)(h:∀(kV c pm:Value) (an:Option Addr) (d ct a b:Value),bindArgs (W.fnOf x q (dE st) (du st) (be st) .none kV c pm an d ct) ⟨[a,b],[]⟩=pure [(p1,a),(p2,b)]):Binds K fd [p1,p2] []:=F.binds λkV e pm an g ct i j=>match i,j with|[a,b],_=>h kV e pm an g ct a b
def b3 (F:aI K x q st f fd)(h:∀(kV d pm:Value) (an:Option Addr) (e ct a b c:Value),bindArgs (W.fnOf x q (dE st) (du st) (be st) .none kV d pm an e ct) ⟨[a,b,c],[]⟩=pure [(p1,a),(p2,b),(p3,c)]):Binds K fd [p1,p2,p3] []:=F.binds λkV g pm an i ct j k=>match j,k with|[a,b,c],_=>h kV g pm an i ct a b c
def b4 (F:aI K x q st f fd)(h:∀(kV e pm:Value) (an:Option Addr) (g ct a b c d:Value),bindArgs (W.fnOf x q (dE st) (du st) (be st) .none kV e pm an g ct) ⟨[a,b,c,d],[]⟩=pure [(p1,a),(p2,b),(p3,c),(p4,d)]):Binds K fd [p1,p2,p3,p4] []:=F.binds λkV i pm an j ct k l=>match k,l with|[a,b,c,d],_=>h kV i pm an j ct a b c d
def b5 (F:aI K x q st f fd)(h:∀(kV g pm:Value) (an:Option Addr) (i ct a b c d e:Value),bindArgs (W.fnOf x q (dE st) (du st) (be st) .none kV g pm an i ct) ⟨[a,b,c,d,e],[]⟩=pure [(p1,a),(p2,b),(p3,c),(p4,d),(p5,e)]):Binds K fd [p1,p2,p3,p4,p5] []:=F.binds λkV j pm an k ct l m=>match l,m with|[a,b,c,d,e],_=>h kV j pm an k ct a b c d e
end
end FL
namespace a7
open PySem L2 FL
def FM{K:W.Frag}(X:K.In h)(G:h.Ns mainGlobals a)(u:W.nsIn K mainGlobals "LESS"=some (some (.str "less" t))):∃t,a "LESS"=some (.str "less" t):=⟨t,OM X G u⟩
def F0{K:W.Frag}(X:K.In h)(G:h.Ns mainGlobals a)(u:W.nsIn K mainGlobals "UNLIKE"=some (some (.str "unlike" t))):∃t,a "UNLIKE"=some (.str "unlike" t):=⟨t,OM X G u⟩
def Fx{K:W.Frag}(X:K.In h)(G:h.Ns mainGlobals a)(z:W.nsIn K mainGlobals "max"=some none):a "max"=none:=Mi X G z
section
variable {l:PySem.W.OpenLaw}{w:World}{K:PySem.W.Frag}{h base:Heap}{mg:Str->Option Value}{A_Step A_Loom A_Weaving f_is_blank f_filled f_matched f_is_guard f_blanks_in f_holds f_askers_in f_guards_in f_slots_of f_is_ready f_steps_for f_refuse_loose f_check_body f_check_rule f_facts_of f_reasons_by_round f_rounds f_law_at f_law_whole f_law_mixed f_law_is_fact f_law_blanks_in f_law_pool_by f_law_fill_in f_law_true f_law_menu_by f_law_rules_by f_law_choices f_law_rounds_hold f_law_least f_Step_init f_Step_offer f_Step_allows f_Step_carry_on f_Loom_init f_Loom_take_in f_Loom_beginnings f_Loom_is_whole f_Loom_carried_on f_Weaving_given_by f_Weaving_one_round f_Weaving_init:Addr}{d_is_blank d_filled d_matched d_is_guard d_blanks_in d_holds d_askers_in d_guards_in d_slots_of d_is_ready d_steps_for d_refuse_loose d_check_body d_check_rule d_facts_of d_reasons_by_round d_rounds d_law_at d_law_whole d_law_mixed d_law_is_fact d_law_blanks_in d_law_pool_by d_law_fill_in d_law_true d_law_menu_by d_law_rules_by d_law_choices d_law_rounds_hold d_law_least d_Step_init d_Step_offer d_Step_allows d_Step_carry_on d_Loom_init d_Loom_take_in d_Loom_beginnings d_Loom_is_whole d_Loom_carried_on d_Weaving_given_by d_Weaving_one_round d_Weaving_init fd:FuncData}{fa:Addr}{t_LESS t_UNLIKE:Tok}
def all_mk (B:Bl mg)(ex:aI K "law" "law" lA fa fd)
 (L:aI K "is_blank" "is_blank" qA f_is_blank d_is_blank/\mg "is_blank"=some (.ref f_is_blank))
 (a0:aI K "filled" "filled" qZ f_filled d_filled/\mg "filled"=some (.ref f_filled))
 (ac:aI K "matched" "matched" qK f_matched d_matched/\mg "matched"=some (.ref f_matched))
 (M:aI K "is_guard" "is_guard" qE f_is_guard d_is_guard/\mg "is_guard"=some (.ref f_is_guard))
 (y:aI K "blanks_in" "blanks_in" sW f_blanks_in d_blanks_in/\mg "blanks_in"=some (.ref f_blanks_in))
 (bi:aI K "holds" "holds" s_holds f_holds d_holds/\mg "holds"=some (.ref f_holds))
 (z:aI K "askers_in" "askers_in" qQ f_askers_in d_askers_in/\mg "askers_in"=some (.ref f_askers_in))
 (A:aI K "guards_in" "guards_in" qy f_guards_in d_guards_in/\mg "guards_in"=some (.ref f_guards_in))
 (N:aI K "slots_of" "slots_of" sU f_slots_of d_slots_of/\mg "slots_of"=some (.ref f_slots_of))
 (O:aI K "is_ready" "is_ready" tR f_is_ready d_is_ready/\mg "is_ready"=some (.ref f_is_ready))
 (E:aI K "steps_for" "steps_for" qG f_steps_for d_steps_for/\mg "steps_for"=some (.ref f_steps_for))
 (f:aI K "refuse_loose" "refuse_loose" sL f_refuse_loose d_refuse_loose/\mg "refuse_loose"=some (.ref f_refuse_loose))
 (t:aI K "check_body" "check_body" sO f_check_body d_check_body/\mg "check_body"=some (.ref f_check_body))
 (u:aI K "check_rule" "check_rule" qv f_check_rule d_check_rule/\mg "check_rule"=some (.ref f_check_rule))
 (Q:aI K "facts_of" "facts_of" qY f_facts_of d_facts_of/\mg "facts_of"=some (.ref f_facts_of))
 (a:aI K "reasons_by_round" "reasons_by_round" sC f_reasons_by_round d_reasons_by_round/\mg "reasons_by_round"=some (.ref f_reasons_by_round))
 (a1:aI K "rounds" "rounds" tL f_rounds d_rounds/\mg "rounds"=some (.ref f_rounds))
 (a2:aI K "_law_at" "_law_at" sv f_law_at d_law_at/\mg "_law_at"=some (.ref f_law_at))
 (G:aI K "_law_whole" "_law_whole" t8 f_law_whole d_law_whole/\mg "_law_whole"=some (.ref f_law_whole))
 (H:aI K "_law_mixed" "_law_mixed" sD f_law_mixed d_law_mixed/\mg "_law_mixed"=some (.ref f_law_mixed))
 (k:aI K "_law_is_fact" "_law_is_fact" tU f_law_is_fact d_law_is_fact/\mg "_law_is_fact"=some (.ref f_law_is_fact))
 (d:aI K "_law_blanks_in" "_law_blanks_in" qt f_law_blanks_in d_law_blanks_in/\mg "_law_blanks_in"=some (.ref f_law_blanks_in))
 (m:aI K "_law_pool_by" "_law_pool_by" qP f_law_pool_by d_law_pool_by/\mg "_law_pool_by"=some (.ref f_law_pool_by))
 (n:aI K "_law_fill_in" "_law_fill_in" tm f_law_fill_in d_law_fill_in/\mg "_law_fill_in"=some (.ref f_law_fill_in))
 (U:aI K "_law_true" "_law_true" tI f_law_true d_law_true/\mg "_law_true"=some (.ref f_law_true))
 (o:aI K "_law_menu_by" "_law_menu_by" rB f_law_menu_by d_law_menu_by/\mg "_law_menu_by"=some (.ref f_law_menu_by))
 (g:aI K "_law_rules_by" "_law_rules_by" sq f_law_rules_by d_law_rules_by/\mg "_law_rules_by"=some (.ref f_law_rules_by))
 (p:aI K "_law_choices" "_law_choices" r9 f_law_choices d_law_choices/\mg "_law_choices"=some (.ref f_law_choices))
 (b:aI K "_law_rounds_hold" "_law_rounds_hold" tZ f_law_rounds_hold d_law_rounds_hold/\mg "_law_rounds_hold"=some (.ref f_law_rounds_hold))
 (I:aI K "_law_least" "_law_least" qM f_law_least d_law_least/\mg "_law_least"=some (.ref f_law_least))
 (af:aI K "__init__" "Step.__init__" mI f_Step_init d_Step_init/\cZ K A_Step "__init__" f_Step_init)
 (Y:aI K "offer" "Step.offer" lW f_Step_offer d_Step_offer/\cZ K A_Step "offer" f_Step_offer)
 (J:aI K "allows" "Step.allows" lp f_Step_allows d_Step_allows/\cZ K A_Step "allows" f_Step_allows)
 (r:aI K "carry_on" "Step.carry_on" mn f_Step_carry_on d_Step_carry_on/\cZ K A_Step "carry_on" f_Step_carry_on)
 (aj:aI K "__init__" "Loom.__init__" lC f_Loom_init d_Loom_init/\cZ K A_Loom "__init__" f_Loom_init)
 (v:aI K "take_in" "Loom.take_in" lL f_Loom_take_in d_Loom_take_in/\cZ K A_Loom "take_in" f_Loom_take_in)
 (i:aI K "beginnings" "Loom.beginnings" mM f_Loom_beginnings d_Loom_beginnings/\cZ K A_Loom "beginnings" f_Loom_beginnings)
 (s:aI K "is_whole" "Loom.is_whole" mw f_Loom_is_whole d_Loom_is_whole/\cZ K A_Loom "is_whole" f_Loom_is_whole)
 (j:aI K "carried_on" "Loom.carried_on" mG f_Loom_carried_on d_Loom_carried_on/\cZ K A_Loom "carried_on" f_Loom_carried_on)
 (e:aI K "given_by" "Weaving.given_by" lU f_Weaving_given_by d_Weaving_given_by/\cZ K A_Weaving "given_by" f_Weaving_given_by)
 (c:aI K "one_round" "Weaving.one_round" mL f_Weaving_one_round d_Weaving_one_round/\cZ K A_Weaving "one_round" f_Weaving_one_round)
 (x:aI K "__init__" "Weaving.__init__" lO f_Weaving_init d_Weaving_init/\cZ K A_Weaving "__init__" f_Weaving_init)
 (ea:mg "Step"=some (.ref A_Step)/\dk K A_Step/\W.makesIn K A_Step=true/\W.keepIn K (.ref A_Step)=true) (er:bO K A_Step "asker") (ec:bO K A_Step "shared") (ed:bO K A_Step "guards") (eg:bO K A_Step "offers") (ei:bO K A_Step "newest")
 (eb:mg "Loom"=some (.ref A_Loom)/\dk K A_Loom/\W.makesIn K A_Loom=true/\W.keepIn K (.ref A_Loom)=true) (ej:bO K A_Loom "steps") (cs:bO K A_Loom "is_barred") (c4:bO K A_Loom "taken_in") (ek:bO K A_Loom "fresh") (a4:bO K A_Loom "last_fresh_step")
 (b8:mg "Weaving"=some (.ref A_Weaving)/\dk K A_Weaving/\W.makesIn K A_Weaving=true/\W.keepIn K (.ref A_Weaving)=true) (em:bO K A_Weaving "rules") (en:bO K A_Weaving "looms") (es:bO K A_Weaving "told")
 (c5:mg "LESS"=some (.str "less" t_LESS))
 (a3:mg "UNLIKE"=some (.str "unlike" t_UNLIKE))
 (et:mg "max"=none)
 :bp l.prog w K mg base bD 13 fa fd ["_law_script"] (sP K):=by
 have T:ky K A_Step:=⟨ea.2.1,er,ec,ed,eg,ei⟩
 have TL:kU K A_Loom:=⟨eb.2.1,ej,cs,c4,ek,a4⟩
 have TW:pe K A_Weaving:=⟨b8.2.1,em,en,es⟩
 have c5:=And.intro c5 (show RelV (.str "less") (.str "less" t_LESS) from ⟨_,rfl⟩)
 have a3:=And.intro a3 (show RelV (.str "unlike") (.str "unlike" t_UNLIKE) from ⟨_,rfl⟩)
 have bx:a6 l.prog w K mg base _ "is_blank" _ _:=.of (GR L.1 B) (b1 L.1 λ_ _ _ _ _ _ _=>rfl) L.1.kp L.2
 have c3:a6 l.prog w K mg base _ "filled" _ _:=.of (CY a0.1 B) (b2 a0.1 λ_ _ _ _ _ _ _ _=>rfl) a0.1.kp a0.2
 have d3:a6 l.prog w K mg base _ "matched" _ _:=.of (J8 ac.1 B bx) (b3 ac.1 λ_ _ _ _ _ _ _ _ _=>rfl) ac.1.kp ac.2
 have ao:a6 l.prog w K mg base _ "is_guard" _ _:=.of (C5 M.1 B c5 a3) (b1 M.1 λ_ _ _ _ _ _ _=>rfl) M.1.kp M.2
 have q:a6 l.prog w K mg base _ "blanks_in" _ _:=.of (He y.1 B bx) (b1 y.1 λ_ _ _ _ _ _ _=>rfl) y.1.kp y.2
 have ds:a6 l.prog w K mg base _ "holds" _ _:=.of (ok_holds bi.1 B a3) (b1 bi.1 λ_ _ _ _ _ _ _=>rfl) bi.1.kp bi.2
 have bk:a6 l.prog w K mg base _ "askers_in" _ _:=.of (JO z.1 B ao) (b1 z.1 λ_ _ _ _ _ _ _=>rfl) z.1.kp z.2
 have am:a6 l.prog w K mg base _ "guards_in" _ _:=.of (Hk A.1 B ao) (b1 A.1 λ_ _ _ _ _ _ _=>rfl) A.1.kp A.2
 have b0:a6 l.prog w K mg base _ "slots_of" _ _:=.of (Em N.1 B q) (b2 N.1 λ_ _ _ _ _ _ _ _=>rfl) N.1.kp N.2
 have dt:a6 l.prog w K mg base _ "is_ready" _ _:=.of (JI O.1 B q b0) (b2 O.1 λ_ _ _ _ _ _ _ _=>rfl) O.1.kp O.2
 have ev:iU l.prog w K mg base _ A_Step "Step" _ _:=.of (GD af.1 T (C:=A_Step)) (b4 af.1 λ_ _ _ _ _ _ _ _ _ _=>rfl) af.2 ea
 have eu:d7 l.prog w K mg base _ A_Step "offer" _ _:=.of (Ex Y.1 T B d3 (C:=A_Step)) (b3 Y.1 λ_ _ _ _ _ _ _ _ _=>rfl) Y.2
 have ep:d7 l.prog w K mg base _ A_Step "allows" _ _:=.of (JB J.1 T B c3 ds (C:=A_Step)) (b2 J.1 λ_ _ _ _ _ _ _ _=>rfl) J.2
 have dx:d7 l.prog w K mg base _ A_Step "carry_on" _ _:=.of (Ii r.1 T B ep (C:=A_Step)) (b3 r.1 λ_ _ _ _ _ _ _ _ _=>rfl) r.2
 have dc:a6 l.prog w K mg base _ "steps_for" _ _:=.of (GO E.1 B am bk q b0 dt ev (C:=A_Step)) (b1 E.1 λ_ _ _ _ _ _ _=>rfl) E.1.kp E.2
 have ew:iU l.prog w K mg base _ A_Loom "Loom" _ _:=.of (HG aj.1 TL B am q ds dc (C:=A_Step) (CL:=A_Loom)) (b2 aj.1 λ_ _ _ _ _ _ _ _=>rfl) aj.2 eb
 have d4:d7 l.prog w K mg base _ A_Loom "take_in" _ _:=.of (Hl v.1 T TL B et eu (C:=A_Step) (CL:=A_Loom)) (b2 v.1 λ_ _ _ _ _ _ _ _=>rfl) v.2
 have ct:d7 l.prog w K mg base _ A_Loom "beginnings" _ _:=.of (EM i.1 T TL B (C:=A_Step) (CL:=A_Loom)) (b1 i.1 λ_ _ _ _ _ _ _=>rfl) i.2
 have d0:d7 l.prog w K mg base _ A_Loom "is_whole" _ _:=.of (GU s.1 TL B (C:=A_Step) (CL:=A_Loom)) (b2 s.1 λ_ _ _ _ _ _ _ _=>rfl) s.2
 have c0:d7 l.prog w K mg base _ A_Loom "carried_on" _ _:=.of (FY j.1 T TL B et dx (C:=A_Step) (CL:=A_Loom)) (b2 j.1 λ_ _ _ _ _ _ _ _=>rfl) j.2
 have d1:d7 l.prog w K mg base _ A_Weaving "given_by" _ _:=.of (HM e.1 TL TW B c3 ct d0 c0 (C:=A_Step) (CL:=A_Loom) (CW:=A_Weaving)) (b3 e.1 λ_ _ _ _ _ _ _ _ _=>rfl) e.2
 have dd:d7 l.prog w K mg base _ A_Weaving "one_round" _ _:=.of (Gn c.1 TL TW B d4 d1 (C:=A_Step) (CL:=A_Loom) (CW:=A_Weaving)) (b2 c.1 λ_ _ _ _ _ _ _ _=>rfl) c.2
 have d5:iU l.prog w K mg base _ A_Weaving "Weaving" _ _:=.of (GV x.1 TW ew (C:=A_Step) (CL:=A_Loom) (CW:=A_Weaving)) (b2 x.1 λ_ _ _ _ _ _ _ _=>rfl) x.2 b8
 have an:a6 l.prog w K mg base _ "refuse_loose" _ _:=.of (HJ f.1 B bk q) (b2 f.1 λ_ _ _ _ _ _ _ _=>rfl) f.1.kp f.2
 have c1:a6 l.prog w K mg base _ "check_body" _ _:=.of (CG t.1 B am an) (b1 t.1 λ_ _ _ _ _ _ _=>rfl) t.1.kp t.2
 have c2:a6 l.prog w K mg base _ "check_rule" _ _:=.of (IB u.1 B ao an c1) (b1 u.1 λ_ _ _ _ _ _ _=>rfl) u.1.kp u.2
 have b6:a6 l.prog w K mg base _ "facts_of" _ _:=.of (Gw Q.1 B) (b1 Q.1 λ_ _ _ _ _ _ _=>rfl) Q.1.kp Q.2
 have bc:a6 l.prog w K mg base _ "reasons_by_round" _ _:=.of (KI a.1 B TW c2 d5 dd b6 (C:=A_Step) (CL:=A_Loom) (CW:=A_Weaving)) (b1 a.1 λ_ _ _ _ _ _ _=>rfl) a.1.kp a.2
 have eq:a6 l.prog w K mg base _ "rounds" _ _:=.of (EI a1.1 bc b6) (b1 a1.1 λ_ _ _ _ _ _ _=>rfl) a1.1.kp a1.2
 have bs:a6 l.prog w K mg base _ "_law_at" _ _:=.of (GB a2.1 B) (b2 a2.1 λ_ _ _ _ _ _ _ _=>rfl) a2.1.kp a2.2
 have bl:a6 l.prog w K mg base _ "_law_whole" _ _:=.of (Ep G.1 B) (b1 G.1 λ_ _ _ _ _ _ _=>rfl) G.1.kp G.2
 have di:a6 l.prog w K mg base _ "_law_mixed" _ _:=.of (Db H.1 B) (b1 H.1 λ_ _ _ _ _ _ _=>rfl) H.1.kp H.2
 have cd:a6 l.prog w K mg base _ "_law_is_fact" _ _:=.of (EN k.1 B bl) (b1 k.1 λ_ _ _ _ _ _ _=>rfl) k.1.kp k.2
 have bt:a6 l.prog w K mg base _ "_law_blanks_in" _ _:=.of (Gd d.1 B) (b1 d.1 λ_ _ _ _ _ _ _=>rfl) d.1.kp d.2
 have as:a6 l.prog w K mg base _ "_law_pool_by" _ _:=.of (Ke m.1 B bs) (b1 m.1 λ_ _ _ _ _ _ _=>rfl) m.1.kp m.2
 have ch:a6 l.prog w K mg base _ "_law_fill_in" _ _:=.of (Fu n.1 B) (b2 n.1 λ_ _ _ _ _ _ _ _=>rfl) n.1.kp n.2
 have d2:a6 l.prog w K mg base _ "_law_true" _ _:=.of (KJ U.1 B bl) (b2 U.1 λ_ _ _ _ _ _ _ _=>rfl) U.1.kp U.2
 have cl:a6 l.prog w K mg base _ "_law_menu_by" _ _:=.of (JS o.1 B) (b5 o.1 λ_ _ _ _ _ _ _ _ _ _ _=>rfl) o.1.kp o.2
 have b7:a6 l.prog w K mg base _ "_law_rules_by" _ _:=.of (KP g.1 B bs as cl) (b1 g.1 λ_ _ _ _ _ _ _=>rfl) g.1.kp g.2
 have co:a6 l.prog w K mg base _ "_law_choices" _ _:=.of (Gx p.1 B) (b2 p.1 λ_ _ _ _ _ _ _ _=>rfl) p.1.kp p.2
 have bd:a6 l.prog w K mg base _ "_law_rounds_hold" _ _:=.of (CN b.1 B cd) (b1 b.1 λ_ _ _ _ _ _ _=>rfl) b.1.kp b.2
 have dp:a6 l.prog w K mg base _ "_law_least" _ _:=.of (De I.1 B co bt d2 ch) (b2 I.1 λ_ _ _ _ _ _ _ _=>rfl) I.1.kp I.2
 exact Fn ex B di as b7 bs eq bd dp
end
def mx{K:W.Frag}(X:K.In h)(G:h.Ns mainGlobals mg)
 (n:W.nsIn K mainGlobals "Step"=some (some (.ref C))) (pg:W.plainGet K C Str.empty=true) (hd:W.hasDictIn K C=true) (po:W.plainOver K C=true) (sa:W.findIn K (.ref C) "__setattr__"=some (some (.builtin "object.__setattr__"))) (mk:W.makesIn K C=true) (kc:W.keepIn K (.ref C)=true)
 (g:W.findIn K (.ref C) "asker"=some none)
 (a:W.findIn K (.ref C) "shared"=some none)
 (b:W.findIn K (.ref C) "guards"=some none)
 (c:W.findIn K (.ref C) "offers"=some none)
 (e:W.findIn K (.ref C) "newest"=some none)
 (a0:W.findIn K (.ref C) "__init__"=some (some (.ref m))) (i0:W.isFn K (.ref m)=true) (l0:K.lookup m=some ⟨r,w,.func (W.fnOf "__init__" "Step.__init__" (dE mI) (du mI) (be mI) .none s t u x i v),y⟩) (c0:W.codeIn K i "Step.__init__"=true) (k0:W.keepIn K (.ref m)=true)
 (a1:W.findIn K (.ref C) "offer"=some (some (.ref o))) (i1:W.isFn K (.ref o)=true) (l1:K.lookup o=some ⟨z,I,.func (W.fnOf "offer" "Step.offer" (dE lW) (du lW) (be lW) .none A B E J j H),L⟩) (c1:W.codeIn K j "Step.offer"=true) (k1:W.keepIn K (.ref o)=true)
 (a2:W.findIn K (.ref C) "allows"=some (some (.ref p))) (i2:W.isFn K (.ref p)=true) (l2:K.lookup p=some ⟨M,U,.func (W.fnOf "allows" "Step.allows" (dE lp) (du lp) (be lp) .none N O Q Y k T),ac⟩) (c2:W.codeIn K k "Step.allows"=true) (k2:W.keepIn K (.ref p)=true)
 (a3:W.findIn K (.ref C) "carry_on"=some (some (.ref q))) (i3:W.isFn K (.ref q)=true) (l3:K.lookup q=some ⟨af,as,.func (W.fnOf "carry_on" "Step.carry_on" (dE mn) (du mn) (be mn) .none aj am an a4 l ao),bc⟩) (c3:W.codeIn K l "Step.carry_on"=true) (k3:W.keepIn K (.ref q)=true)
 :∃C,(mg "Step"=some (.ref C)/\dk K C/\W.makesIn K C=true/\W.keepIn K (.ref C)=true)/\bO K C "asker"/\bO K C "shared"/\bO K C "guards"/\bO K C "offers"/\bO K C "newest"/\(∃f d,aI K "__init__" "Step.__init__" mI f d/\cZ K C "__init__" f)/\(∃f d,aI K "offer" "Step.offer" lW f d/\cZ K C "offer" f)/\(∃f d,aI K "allows" "Step.allows" lp f d/\cZ K C "allows" f)/\(∃f d,aI K "carry_on" "Step.carry_on" mn f d/\cZ K C "carry_on" f):=
 ⟨C,wy X G n pg hd po sa mk kc,g,a,b,c,e,ig a0 i0 l0 c0 k0,ig a1 i1 l1 c1 k1,ig a2 i2 l2 c2 k2,ig a3 i3 l3 c3 k3⟩
def lJ{K:W.Frag}(X:K.In h)(G:h.Ns mainGlobals mg)
 (n:W.nsIn K mainGlobals "Loom"=some (some (.ref C))) (pg:W.plainGet K C Str.empty=true) (hd:W.hasDictIn K C=true) (po:W.plainOver K C=true) (sa:W.findIn K (.ref C) "__setattr__"=some (some (.builtin "object.__setattr__"))) (mk:W.makesIn K C=true) (kc:W.keepIn K (.ref C)=true)
 (e:W.findIn K (.ref C) "steps"=some none)
 (b:W.findIn K (.ref C) "is_barred"=some none)
 (c:W.findIn K (.ref C) "taken_in"=some none)
 (g:W.findIn K (.ref C) "fresh"=some none)
 (a:W.findIn K (.ref C) "last_fresh_step"=some none)
 (a0:W.findIn K (.ref C) "__init__"=some (some (.ref o))) (i0:W.isFn K (.ref o)=true) (l0:K.lookup o=some ⟨t,y,.func (W.fnOf "__init__" "Loom.__init__" (dE lC) (du lC) (be lC) .none u v w z i x),A⟩) (c0:W.codeIn K i "Loom.__init__"=true) (k0:W.keepIn K (.ref o)=true)
 (a1:W.findIn K (.ref C) "take_in"=some (some (.ref p))) (i1:W.isFn K (.ref p)=true) (l1:K.lookup p=some ⟨B,L,.func (W.fnOf "take_in" "Loom.take_in" (dE lL) (du lL) (be lL) .none E H I M j J),N⟩) (c1:W.codeIn K j "Loom.take_in"=true) (k1:W.keepIn K (.ref p)=true)
 (a2:W.findIn K (.ref C) "beginnings"=some (some (.ref q))) (i2:W.isFn K (.ref q)=true) (l2:K.lookup q=some ⟨O,ac,.func (W.fnOf "beginnings" "Loom.beginnings" (dE mM) (du mM) (be mM) .none Q T U af k Y),aj⟩) (c2:W.codeIn K k "Loom.beginnings"=true) (k2:W.keepIn K (.ref q)=true)
 (a3:W.findIn K (.ref C) "is_whole"=some (some (.ref r))) (i3:W.isFn K (.ref r)=true) (l3:K.lookup r=some ⟨am,bd,.func (W.fnOf "is_whole" "Loom.is_whole" (dE mw) (du mw) (be mw) .none an ao as bi l bc),bk⟩) (c3:W.codeIn K l "Loom.is_whole"=true) (k3:W.keepIn K (.ref r)=true)
 (a4:W.findIn K (.ref C) "carried_on"=some (some (.ref s))) (i4:W.isFn K (.ref s)=true) (l4:K.lookup s=some ⟨bl,b6,.func (W.fnOf "carried_on" "Loom.carried_on" (dE mG) (du mG) (be mG) .none bs bt bx b7 m b0),b8⟩) (c4:W.codeIn K m "Loom.carried_on"=true) (k4:W.keepIn K (.ref s)=true)
 :∃C,(mg "Loom"=some (.ref C)/\dk K C/\W.makesIn K C=true/\W.keepIn K (.ref C)=true)/\bO K C "steps"/\bO K C "is_barred"/\bO K C "taken_in"/\bO K C "fresh"/\bO K C "last_fresh_step"/\(∃f d,aI K "__init__" "Loom.__init__" lC f d/\cZ K C "__init__" f)/\(∃f d,aI K "take_in" "Loom.take_in" lL f d/\cZ K C "take_in" f)/\(∃f d,aI K "beginnings" "Loom.beginnings" mM f d/\cZ K C "beginnings" f)/\(∃f d,aI K "is_whole" "Loom.is_whole" mw f d/\cZ K C "is_whole" f)/\(∃f d,aI K "carried_on" "Loom.carried_on" mG f d/\cZ K C "carried_on" f):=
 ⟨C,wy X G n pg hd po sa mk kc,e,b,c,g,a,ig a0 i0 l0 c0 k0,ig a1 i1 l1 c1 k1,ig a2 i2 l2 c2 k2,ig a3 i3 l3 c3 k3,ig a4 i4 l4 c4 k4⟩
def nP{K:W.Frag}(X:K.In h)(G:h.Ns mainGlobals T)
 (n:W.nsIn K mainGlobals "Weaving"=some (some (.ref C))) (U:W.plainGet K C Str.empty=true) (Y:W.hasDictIn K C=true) (po:W.plainOver K C=true) (sa:W.findIn K (.ref C) "__setattr__"=some (some (.builtin "object.__setattr__"))) (mk:W.makesIn K C=true) (kc:W.keepIn K (.ref C)=true)
 (a:W.findIn K (.ref C) "rules"=some none)
 (b:W.findIn K (.ref C) "looms"=some none)
 (c:W.findIn K (.ref C) "told"=some none)
 (a0:W.findIn K (.ref C) "given_by"=some (some (.ref j))) (i0:W.isFn K (.ref j)=true) (l0:K.lookup j=some ⟨m,s,.func (W.fnOf "given_by" "Weaving.given_by" (dE lU) (du lU) (be lU) .none o p q t e r),u⟩) (c0:W.codeIn K e "Weaving.given_by"=true) (k0:W.keepIn K (.ref j)=true)
 (a1:W.findIn K (.ref C) "one_round"=some (some (.ref k))) (i1:W.isFn K (.ref k)=true) (l1:K.lookup k=some ⟨v,A,.func (W.fnOf "one_round" "Weaving.one_round" (dE mL) (du mL) (be mL) .none w x y B g z),E⟩) (c1:W.codeIn K g "Weaving.one_round"=true) (k1:W.keepIn K (.ref k)=true)
 (a2:W.findIn K (.ref C) "__init__"=some (some (.ref l))) (i2:W.isFn K (.ref l)=true) (l2:K.lookup l=some ⟨H,N,.func (W.fnOf "__init__" "Weaving.__init__" (dE lO) (du lO) (be lO) .none I J L O i M),Q⟩) (c2:W.codeIn K i "Weaving.__init__"=true) (k2:W.keepIn K (.ref l)=true)
 :∃C,(T "Weaving"=some (.ref C)/\dk K C/\W.makesIn K C=true/\W.keepIn K (.ref C)=true)/\bO K C "rules"/\bO K C "looms"/\bO K C "told"/\(∃f d,aI K "given_by" "Weaving.given_by" lU f d/\cZ K C "given_by" f)/\(∃f d,aI K "one_round" "Weaving.one_round" mL f d/\cZ K C "one_round" f)/\(∃f d,aI K "__init__" "Weaving.__init__" lO f d/\cZ K C "__init__" f):=
 ⟨C,wy X G n U Y po sa mk kc,a,b,c,ig a0 i0 l0 c0 k0,ig a1 i1 l1 c1 k1,ig a2 i2 l2 c2 k2⟩
def GS{K:W.Frag}{kV:Value}(X:K.In h)(G:h.Ns mainGlobals d)(b:d "law"=some (.ref g))(a:W.nsIn K mainGlobals "law"=some (some (.ref f)))(l:K.lookup f=some ⟨m,q,.func (W.fnOf "law" "law" (dE lA) (du lA) (be lA) .none kV n o r i p),t⟩)(c:W.codeIn K i "law"=true)(k:W.keepIn K (.ref f)=true):∃j:FuncData,(∀(s:Shared) (v:Value),BindsTo s j ⟨[v],[]⟩ [("_law_script",v)])/\aI K "law" "law" lA g j:=by
 have e:=b.symm.trans<|OM X G a
 cases e
 exact ⟨_,λs v=>.of_eq rfl,wS l c k⟩
def KY{K:W.Frag}(X:K.In h)(G:h.Ns mainGlobals o)(j:W.nsIn K mainGlobals "len"=some none)(a:W.nsIn K mainGlobals "isinstance"=some none)(d:W.nsIn K mainGlobals "range"=some none)(k:W.nsIn K mainGlobals "int"=some none)(l:W.nsIn K mainGlobals "str"=some none)(f:W.nsIn K mainGlobals "bool"=some none)(g:W.nsIn K mainGlobals "list"=some none)(e:W.nsIn K mainGlobals "tuple"=some none)(i:W.nsIn K mainGlobals "dict"=some none)(m:W.nsIn K mainGlobals "zip"=some none)(b:W.nsIn K mainGlobals "enumerate"=some none)(n:W.nsIn K mainGlobals "all"=some none)(c:W.nsIn K mainGlobals "reversed"=some none):Bl o:=⟨Mi X G j,Mi X G a,Mi X G d,Mi X G k,Mi X G l,Mi X G f,Mi X G g,Mi X G e,Mi X G i,Mi X G m,Mi X G b,Mi X G n,Mi X G c⟩
def walk {l:W.OpenLaw}{q:Program}{loose:ZY}{XP:(ZU)->Heap->Prop}{YP:World->Heap->Prop}{d:DefRec}{K:Params->W.Frag}(hn:l.most=some 63)(hdf:d.params.defaults=[])
  (hY:∀(w:World) (h:Heap),YP w h->(K w.params).In h)
  (F:∀(w:World) (mg:ZU) (fa:Addr) (h:Heap),(K w.params).In h->h.Ns mainGlobals mg->mg d.name=some (.ref fa)->
   ∃fd:FuncData,(∀(s:Shared) (u:Value),BindsTo s fd ⟨[u],[]⟩ [("_law_script",u)])/\∀base:Heap,(K w.params).In base->base.Ns mainGlobals mg->bp l.prog w (K w.params) mg base bD 13 fa fd ["_law_script"] (sP (K w.params))):
  W.WalkO q loose XP YP l.row.toRowW d [] (λf vs=>PySem.call f vs):=
 L2.Fi (n:=63) (k:=13) (x:="_law_script") (CX:=λ_=>bD) (sp:=λw=>sP (K w.params)) hn Z1 hdf ⟨rfl,by decide,by decide⟩ hY F (λ_ _ a ns hl _ hS=>⟨a,ns,rfl,hS,hl,λ_=>rfl⟩) λ_ _ _ _ _ z=>z
end a7
/-! no twins of the heaps: these names are taken, so the library goes on with the plain heaps (and the file stays small) -/
def PySem.W.Fast.tw18320907767352764752 : Unit := ()
def PySem.W.Fast.tw13781164137122410598 : Unit := ()
def PySem.W.Fast.tw284980042848850005 : Unit := ()
def PySem.W.Fast.tw8438590509125341362 : Unit := ()
def PySem.W.Fast.tw17947064262053396470 : Unit := ()
def PySem.W.Fast.tw10922195290922974481 : Unit := ()
def PySem.W.Fast.tw4335529714369330294 : Unit := ()
def PySem.W.Fast.tw16891640311777053879 : Unit := ()
def PySem.W.Fast.tw8397321304008515610 : Unit := ()
def PySem.W.Fast.tw4466959242661630631 : Unit := ()
def PySem.W.Fast.tw14586280690637659528 : Unit := ()
def PySem.W.Fast.tw17351569146354251574 : Unit := ()
def PySem.W.Fast.tw1895145163867041515 : Unit := ()
def PySem.W.Fast.tw3946273903308395110 : Unit := ()
def PySem.W.Fast.tw6644148922442750229 : Unit := ()
def PySem.W.Fast.tw2234751390581084215 : Unit := ()
def PySem.W.Fast.tw17267697148917792829 : Unit := ()
def PySem.W.Fast.tw200124005573410388 : Unit := ()
def PySem.W.Fast.tw13153498790405534012 : Unit := ()
def PySem.W.Fast.tw2569334295509190658 : Unit := ()
def PySem.W.Fast.tw1304913830427823430 : Unit := ()
def PySem.W.Fast.tw3757040432194010462 : Unit := ()
def PySem.W.Fast.tw9428291487337605336 : Unit := ()
def PySem.W.Fast.tw8188317960185574381 : Unit := ()
def PySem.W.Fast.tw10953065293530431682 : Unit := ()
def PySem.W.Fast.tw1371997985383094044 : Unit := ()
def PySem.W.Fast.tw967764080817427085 : Unit := ()
def PySem.W.Fast.tw11409817312369444337 : Unit := ()
def PySem.W.Fast.tw15820212420470278174 : Unit := ()
def PySem.W.Fast.tw286226357287075783 : Unit := ()
def PySem.W.Fast.tw16141408399937337800 : Unit := ()
def PySem.W.Fast.tw18285746527001616973 : Unit := ()
def PySem.W.Fast.tw16067276260367092871 : Unit := ()
def PySem.W.Fast.tw14303389174781794728 : Unit := ()
def PySem.W.Fast.tw8964460689863960931 : Unit := ()
def PySem.W.Fast.tw10750696421915097203 : Unit := ()
def PySem.W.Fast.tw17225508662044861299 : Unit := ()
def PySem.W.Fast.tw5569182982827755381 : Unit := ()
def PySem.W.Fast.tw11052204243112244389 : Unit := ()
def PySem.W.Fast.tw13656371007727172053 : Unit := ()
def PySem.W.Fast.tw1507077697507371453 : Unit := ()
def PySem.W.Fast.tw14859126845340682213 : Unit := ()
def PySem.W.Fast.tw798934700714983114 : Unit := ()
def PySem.W.Fast.tw1262176337690158434 : Unit := ()
def PySem.W.Fast.tw12116426643227482053 : Unit := ()
def PySem.W.Fast.tw16484436246585147497 : Unit := ()
def PySem.W.Fast.tw16939631621350910335 : Unit := ()
def PySem.W.Fast.tw17033715441179156376 : Unit := ()
def PySem.W.Fast.tw7966611001781990746 : Unit := ()
def PySem.W.Fast.tw2912042953644312512 : Unit := ()
def PySem.W.Fast.tw11944411293264711371 : Unit := ()
def PySem.W.Fast.tw10581161813410070623 : Unit := ()
def PySem.W.Fast.tw16037107839855308575 : Unit := ()
def PySem.W.Fast.tw5731215222996996978 : Unit := ()
def PySem.W.Fast.tw16718611258280946112 : Unit := ()
def PySem.W.Fast.tw12780406973948959967 : Unit := ()
def PySem.W.Fast.tw11872194005517237652 : Unit := ()
def PySem.W.Fast.tw7513849574440544098 : Unit := ()
def PySem.W.Fast.tw17873345725535965712 : Unit := ()
def PySem.W.Fast.tw4896140890411313752 : Unit := ()
def PySem.W.Fast.tw1438393827850239271 : Unit := ()
def PySem.W.Fast.tw7567483978923960588 : Unit := ()
def PySem.W.Fast.tw15496022287308587418 : Unit := ()
def PySem.W.Fast.tw6680747564466514900 : Unit := ()
def PySem.W.Fast.tw11394357572382118994 : Unit := ()
def PySem.W.Fast.tw16307439701240154294 : Unit := ()
def PySem.W.Fast.tw4152167724942375092 : Unit := ()
def PySem.W.Fast.tw6199448465950049897 : Unit := ()
def PySem.W.Fast.tw9325127790642059320 : Unit := ()
def PySem.W.Fast.tw10555124870130898727 : Unit := ()
def PySem.W.Fast.tw14876000959940671491 : Unit := ()
def PySem.W.Fast.tw1307719540779919471 : Unit := ()
def PySem.W.Fast.tw6323526744330493316 : Unit := ()
def PySem.W.Fast.tw9030640771257573167 : Unit := ()
def PySem.W.Fast.tw7497914712614098195 : Unit := ()
def PySem.W.Fast.tw6257476909167360790 : Unit := ()
def PySem.W.Fast.tw14082207203464684450 : Unit := ()
open PySem PySem.W PyProof.Rows
set_option maxRecDepth 100000 in
set_option maxHeartbeats 0 in
theorem PySem.Challenge.cw_factloom_k13_whole_any_order_holds : PySem.Challenge.rw_factloom_k13_whole_any_order.Holds := by
  w_on; o_law; k_head; (case hw => w_witness2)
  k_fill
  refine a7.walk (l := PySem.Challenge.rw_factloom_k13_whole_any_order) rfl rfl (fun w h Y => PySem.W.kIn_of Y) ?F
  case F =>
    intro w mg fa h KX G hmg
    have F_is_blank := FL.c9 (x := "is_blank") (st := a7.qA) KX G (by k_is) (by k_is) (by k_is) (by k_is)
    have F_filled := FL.c9 (x := "filled") (st := a7.qZ) KX G (by k_is) (by k_is) (by k_is) (by k_is)
    have F_matched := FL.c9 (x := "matched") (st := a7.qK) KX G (by k_is) (by k_is) (by k_is) (by k_is)
    have F_is_guard := FL.c9 (x := "is_guard") (st := a7.qE) KX G (by k_is) (by k_is) (by k_is) (by k_is)
    have F_blanks_in := FL.c9 (x := "blanks_in") (st := a7.sW) KX G (by k_is) (by k_is) (by k_is) (by k_is)
    have F_holds := FL.c9 (x := "holds") (st := a7.s_holds) KX G (by k_is) (by k_is) (by k_is) (by k_is)
    have F_askers_in := FL.c9 (x := "askers_in") (st := a7.qQ) KX G (by k_is) (by k_is) (by k_is) (by k_is)
    have F_guards_in := FL.c9 (x := "guards_in") (st := a7.qy) KX G (by k_is) (by k_is) (by k_is) (by k_is)
    have F_slots_of := FL.c9 (x := "slots_of") (st := a7.sU) KX G (by k_is) (by k_is) (by k_is) (by k_is)
    have F_is_ready := FL.c9 (x := "is_ready") (st := a7.tR) KX G (by k_is) (by k_is) (by k_is) (by k_is)
    have F_steps_for := FL.c9 (x := "steps_for") (st := a7.qG) KX G (by k_is) (by k_is) (by k_is) (by k_is)
    have F_refuse_loose := FL.c9 (x := "refuse_loose") (st := a7.sL) KX G (by k_is) (by k_is) (by k_is) (by k_is)
    have F_check_body := FL.c9 (x := "check_body") (st := a7.sO) KX G (by k_is) (by k_is) (by k_is) (by k_is)
    have F_check_rule := FL.c9 (x := "check_rule") (st := a7.qv) KX G (by k_is) (by k_is) (by k_is) (by k_is)
    have F_facts_of := FL.c9 (x := "facts_of") (st := a7.qY) KX G (by k_is) (by k_is) (by k_is) (by k_is)
    have F_reasons_by_round := FL.c9 (x := "reasons_by_round") (st := a7.sC) KX G (by k_is) (by k_is) (by k_is) (by k_is)
    have F_rounds := FL.c9 (x := "rounds") (st := a7.tL) KX G (by k_is) (by k_is) (by k_is) (by k_is)
    have F_law_at := FL.c9 (x := "_law_at") (st := a7.sv) KX G (by k_is) (by k_is) (by k_is) (by k_is)
    have F_law_whole := FL.c9 (x := "_law_whole") (st := a7.t8) KX G (by k_is) (by k_is) (by k_is) (by k_is)
    have F_law_mixed := FL.c9 (x := "_law_mixed") (st := a7.sD) KX G (by k_is) (by k_is) (by k_is) (by k_is)
    have F_law_is_fact := FL.c9 (x := "_law_is_fact") (st := a7.tU) KX G (by k_is) (by k_is) (by k_is) (by k_is)
    have F_law_blanks_in := FL.c9 (x := "_law_blanks_in") (st := a7.qt) KX G (by k_is) (by k_is) (by k_is) (by k_is)
    have F_law_pool_by := FL.c9 (x := "_law_pool_by") (st := a7.qP) KX G (by k_is) (by k_is) (by k_is) (by k_is)
    have F_law_fill_in := FL.c9 (x := "_law_fill_in") (st := a7.tm) KX G (by k_is) (by k_is) (by k_is) (by k_is)
    have F_law_true := FL.c9 (x := "_law_true") (st := a7.tI) KX G (by k_is) (by k_is) (by k_is) (by k_is)
    have F_law_menu_by := FL.c9 (x := "_law_menu_by") (st := a7.rB) KX G (by k_is) (by k_is) (by k_is) (by k_is)
    have F_law_rules_by := FL.c9 (x := "_law_rules_by") (st := a7.sq) KX G (by k_is) (by k_is) (by k_is) (by k_is)
    have F_law_choices := FL.c9 (x := "_law_choices") (st := a7.r9) KX G (by k_is) (by k_is) (by k_is) (by k_is)
    have F_law_rounds_hold := FL.c9 (x := "_law_rounds_hold") (st := a7.tZ) KX G (by k_is) (by k_is) (by k_is) (by k_is)
    have F_law_least := FL.c9 (x := "_law_least") (st := a7.qM) KX G (by k_is) (by k_is) (by k_is) (by k_is)
    have c_Step := a7.mx KX G (by k_is) (by k_is) (by k_is) (by k_is) (by k_is) (by k_is) (by k_is) (by k_is) (by k_is) (by k_is) (by k_is) (by k_is) (by k_is) (by k_is) (by k_is) (by k_is) (by k_is) (by k_is) (by k_is) (by k_is) (by k_is) (by k_is) (by k_is) (by k_is) (by k_is) (by k_is) (by k_is) (by k_is) (by k_is) (by k_is) (by k_is) (by k_is)
    have c_Loom := a7.lJ KX G (by k_is) (by k_is) (by k_is) (by k_is) (by k_is) (by k_is) (by k_is) (by k_is) (by k_is) (by k_is) (by k_is) (by k_is) (by k_is) (by k_is) (by k_is) (by k_is) (by k_is) (by k_is) (by k_is) (by k_is) (by k_is) (by k_is) (by k_is) (by k_is) (by k_is) (by k_is) (by k_is) (by k_is) (by k_is) (by k_is) (by k_is) (by k_is) (by k_is) (by k_is) (by k_is) (by k_is) (by k_is)
    have c_Weaving := a7.nP KX G (by k_is) (by k_is) (by k_is) (by k_is) (by k_is) (by k_is) (by k_is) (by k_is) (by k_is) (by k_is) (by k_is) (by k_is) (by k_is) (by k_is) (by k_is) (by k_is) (by k_is) (by k_is) (by k_is) (by k_is) (by k_is) (by k_is) (by k_is) (by k_is) (by k_is)
    have B := a7.KY KX G (by k_is) (by k_is) (by k_is) (by k_is) (by k_is) (by k_is) (by k_is) (by k_is) (by k_is) (by k_is) (by k_is) (by k_is) (by k_is)
    have W := a7.GS KX G hmg (by k_is) (by k_is) (by k_is) (by k_is)
    have u_LESS := a7.FM KX G (by k_is)
    have u_UNLIKE := a7.F0 KX G (by k_is)
    have B_max := a7.Fx KX G (by k_is)
    obtain ⟨f_is_blank, d_is_blank, F_is_blank⟩ := F_is_blank
    obtain ⟨f_filled, d_filled, F_filled⟩ := F_filled
    obtain ⟨f_matched, d_matched, F_matched⟩ := F_matched
    obtain ⟨f_is_guard, d_is_guard, F_is_guard⟩ := F_is_guard
    obtain ⟨f_blanks_in, d_blanks_in, F_blanks_in⟩ := F_blanks_in
    obtain ⟨f_holds, d_holds, F_holds⟩ := F_holds
    obtain ⟨f_askers_in, d_askers_in, F_askers_in⟩ := F_askers_in
    obtain ⟨f_guards_in, d_guards_in, F_guards_in⟩ := F_guards_in
    obtain ⟨f_slots_of, d_slots_of, F_slots_of⟩ := F_slots_of
    obtain ⟨f_is_ready, d_is_ready, F_is_ready⟩ := F_is_ready
    obtain ⟨f_steps_for, d_steps_for, F_steps_for⟩ := F_steps_for
    obtain ⟨f_refuse_loose, d_refuse_loose, F_refuse_loose⟩ := F_refuse_loose
    obtain ⟨f_check_body, d_check_body, F_check_body⟩ := F_check_body
    obtain ⟨f_check_rule, d_check_rule, F_check_rule⟩ := F_check_rule
    obtain ⟨f_facts_of, d_facts_of, F_facts_of⟩ := F_facts_of
    obtain ⟨f_reasons_by_round, d_reasons_by_round, F_reasons_by_round⟩ := F_reasons_by_round
    obtain ⟨f_rounds, d_rounds, F_rounds⟩ := F_rounds
    obtain ⟨f_law_at, d_law_at, F_law_at⟩ := F_law_at
    obtain ⟨f_law_whole, d_law_whole, F_law_whole⟩ := F_law_whole
    obtain ⟨f_law_mixed, d_law_mixed, F_law_mixed⟩ := F_law_mixed
    obtain ⟨f_law_is_fact, d_law_is_fact, F_law_is_fact⟩ := F_law_is_fact
    obtain ⟨f_law_blanks_in, d_law_blanks_in, F_law_blanks_in⟩ := F_law_blanks_in
    obtain ⟨f_law_pool_by, d_law_pool_by, F_law_pool_by⟩ := F_law_pool_by
    obtain ⟨f_law_fill_in, d_law_fill_in, F_law_fill_in⟩ := F_law_fill_in
    obtain ⟨f_law_true, d_law_true, F_law_true⟩ := F_law_true
    obtain ⟨f_law_menu_by, d_law_menu_by, F_law_menu_by⟩ := F_law_menu_by
    obtain ⟨f_law_rules_by, d_law_rules_by, F_law_rules_by⟩ := F_law_rules_by
    obtain ⟨f_law_choices, d_law_choices, F_law_choices⟩ := F_law_choices
    obtain ⟨f_law_rounds_hold, d_law_rounds_hold, F_law_rounds_hold⟩ := F_law_rounds_hold
    obtain ⟨f_law_least, d_law_least, F_law_least⟩ := F_law_least
    obtain ⟨A_Step, c_Step, T_asker, T_shared, T_guards, T_offers, T_newest, ⟨f_Step_init, d_Step_init, F_Step_init⟩, ⟨f_Step_offer, d_Step_offer, F_Step_offer⟩, ⟨f_Step_allows, d_Step_allows, F_Step_allows⟩, ⟨f_Step_carry_on, d_Step_carry_on, F_Step_carry_on⟩⟩ := c_Step
    obtain ⟨A_Loom, c_Loom, TL_steps, TL_is_barred, TL_taken_in, TL_fresh, TL_last_fresh_step, ⟨f_Loom_init, d_Loom_init, F_Loom_init⟩, ⟨f_Loom_take_in, d_Loom_take_in, F_Loom_take_in⟩, ⟨f_Loom_beginnings, d_Loom_beginnings, F_Loom_beginnings⟩, ⟨f_Loom_is_whole, d_Loom_is_whole, F_Loom_is_whole⟩, ⟨f_Loom_carried_on, d_Loom_carried_on, F_Loom_carried_on⟩⟩ := c_Loom
    obtain ⟨A_Weaving, c_Weaving, TW_rules, TW_looms, TW_told, ⟨f_Weaving_given_by, d_Weaving_given_by, F_Weaving_given_by⟩, ⟨f_Weaving_one_round, d_Weaving_one_round, F_Weaving_one_round⟩, ⟨f_Weaving_init, d_Weaving_init, F_Weaving_init⟩⟩ := c_Weaving
    obtain ⟨t_LESS, c_LESS⟩ := u_LESS
    obtain ⟨t_UNLIKE, c_UNLIKE⟩ := u_UNLIKE
    obtain ⟨fd, hb, F_law⟩ := W
    exact ⟨fd, hb, fun base _ _ => a7.all_mk B F_law F_is_blank F_filled F_matched F_is_guard F_blanks_in F_holds F_askers_in F_guards_in F_slots_of F_is_ready F_steps_for F_refuse_loose F_check_body F_check_rule F_facts_of F_reasons_by_round F_rounds F_law_at F_law_whole F_law_mixed F_law_is_fact F_law_blanks_in F_law_pool_by F_law_fill_in F_law_true F_law_menu_by F_law_rules_by F_law_choices F_law_rounds_hold F_law_least F_Step_init F_Step_offer F_Step_allows F_Step_carry_on F_Loom_init F_Loom_take_in F_Loom_beginnings F_Loom_is_whole F_Loom_carried_on F_Weaving_given_by F_Weaving_one_round F_Weaving_init c_Step T_asker T_shared T_guards T_offers T_newest c_Loom TL_steps TL_is_barred TL_taken_in TL_fresh TL_last_fresh_step c_Weaving TW_rules TW_looms TW_told c_LESS c_UNLIKE B_max⟩
