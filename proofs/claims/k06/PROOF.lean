import PyProof.Rows.All
import Wide.All
import OpenK.AllK
import Wide.FinOn
import Lean
import PyProof.EqAt
import PyProof.EqKinds
import PyProof.TupleCall
import PyProof.CompFree
import PyProof.AttrMissHeap
import PyProof.ListNew
import PyProof.DictUpdate
import PyProof.DictList
import PyProof.FactsAll.dict_1
import PyProof.Rows.DictSet
import PyProof.Seq
import PyProof.TupleIter
import KE.KDictOf
import PyProof.NeKinds
import PyProof.ZipIter
import PyProof.EnumIter
import PyProof.EnumFor
import PyProof.EnumMake
import KE.KRevIter
import KE.KDictLaws
import PyProof.DictRoadsH
import KE.KDictList
import PyProof.ConsumeWalk
import PyProof.DictTruth
import PyProof.MinMaxWalk
import PyProof.WalkInts
import PyProof.WalksMore
import KE.KMinKey
import PyProof.Rows.CallKwBuiltin
import PyProof.Draws
import OpenK.KRaise
import OpenK.KOwn
import KE.KTryMore
import PyProof.StationsW
import PyProof.DictValues
import PyProof.FactsAll.dict_4
import PyProof.DictWalks
import PyProof.Rows.Range3
import KE.KIsAll
import PySem.Challenge.RW_factloom_k06_one_round
set_option Elab.async false
set_option linter.all false
set_option maxRecDepth 100000
open List (mem_cons_of_mem mem_cons_self length_map getElem?_eq_getElem getElem?_set_ne mem_filter mem_map mem_cons getElem?_map mem_of_getElem? mem_append getElem?_set_self mem_append_right mem_append_left map_append map_map length_append length_cons length_take not_mem_nil take_of_length_le mem_singleton append_nil append_assoc map_cons filter_cons getElem?_append_left getElem?_append_right mem_flatten mem_reverse mem_flatMap length_set length_nil length_singleton filter_append getElem?_eq_none take_add_one map_congr_left filter_eq_self length_filter_le nodup_cons flatMap_cons cons_append getElem_mem filter_congr nodup_nil nodup_append all_eq_true any_eq_true mem_iff_getElem? take_length nil_append mem_of_mem_take length_range all_cons zipIdx_cons set_set foldl_append flatMap_append)
set_option maxHeartbeats 4000000
def Z5{p:Prop}(h:p:=by decide):p:=h
def Z6{p:Prop}(h:p:=by omega):p:=h
def Z7{p:Prop}(h:p:=by k_is):p:=h
def Z8{p:Prop}(h:p:=by simp):p:=h
def Z9{p:Prop}(h:p:=by decide+kernel):p:=h
def KG:=@List.mem_cons_of_mem
def KI:=@PySem.wpAny_bind
def KJ:=@List.getElem?_eq_some_iff
def KL:=@List.getElem?_eq_getElem
def KN:=@List.mem_cons_self
def KO:=@PySem.Heap.get?_push_of_some
def KP:=@List.length_map
def KQ:=@List.getElem?_set_ne
def KR:=@Nat.le_refl
def KS:=@if_neg
def KU:=@List.mem_of_getElem?
def KW:=@List.mem_append_right
def KY:=@List.mem_cons
def KZ:=@List.getElem?_map
def K0:=@Bool.false_ne_true
def K4:=@if_pos
def K5:=@PySem.wpAny_pure
def K6:=@List.getElem?_set_self
def K8:=@Option.some.inj
def K9:=@List.mem_append_left
def La:=@List.mem_filter
def Lb:=@List.size_toArray
def Lc:=@PySem.Heap.get?_push_size
def Ld:=@List.mem_append
def Le:=@of_decide_eq_true
def Lf:=@PySem.Heap.lt_size
def Lg:=@List.mem_map
def Lh:=@List.length_append
def Li:=@List.mem_singleton
def Lj:=@PySem.PassesOwn.never
def Lk:=@Nat.le_trans
def Ll:=@Nat.zero_le
def Lm:=@List.getElem?_append_left
def Ln:=@decide_eq_true
def Lo:=@List.getElem?_append_right
def Lp:=@decide_eq_false
def Lq:=@List.map_append
def Lr:=@List.length_cons
def Ls:=@Nat.ne_of_lt
def Lu:=@List.not_mem_nil
def Lv:=@List.length_filter_le
def Lw:=@Nat.lt_of_lt_of_le
def Lx:=@List.length_take
def Ly:=@List.map_congr_left
def Lz:=@List.take_of_length_le
def LA:=@List.append_nil
def LB:=@List.map_cons
def LC:=@Nat.le_of_not_lt
def LD:=@Bool.eq_iff_iff
def LF:=@List.mem_flatten
def LG:=@List.take_add_one
def LH:=@List.map_map
def LI:=@List.getElem?_eq_none
def LJ:=@PySem.W.mg_none_of
def LK:=@List.append_assoc
def LL:=@congrArg
def LM:=@List.mem_iff_getElem?
def LN:=@Ne.symm
def LO:=@or_false
def LP:=@Bool.and_eq_true
def LQ:=@of_decide_eq_false
def LR:=@PyProof.Rows.callWith_type1
def LS:=@Nat.le_add_right
def LU:=@PySem.F.plainAttrs_list
def LV:=@PySem.wpAny_field
def LW:=@Option.map_eq_some_iff
def LX:=@PySem.wpAny_seqItems
def LY:=@List.find?_cons
def LZ:=@List.filter_eq_self
def L0:=@beq_eq_false_iff_ne
def L1:=@PySem.wpAny_callSpecial?_slot
def L4:=@PyProof.Rows.boot_tuple
def L5:=@PySem.W.kia_one
def L8:=@List.lookup_cons
def L9:=@PyProof.Rows.boot_list
def Ma:=@PySem.wpAny_truthy_bool
def Mb:=@List.mem_flatMap
def Mc:=@Nat.lt_irrefl
def Md:=@PySem.Heap.size_push
def Me:=@List.filter_append
def Mf:=@PySem.F.slot_dict_setdefault
def Mh:=@PySem.wpAny_mono
def Mi:=@List.length_singleton
def Mj:=@PySem.wpAny_newObj_type
def Ml:=@PySem.Heap.get?_update_other
def Mm:=@List.getElem_mem
def Mn:=@PySem.tupleKind_room_in1
def Mo:=@PySem.F.args_dict_setdefault_3
def Mp:=@PySem.wpAny_holding
def Mq:=@List.foldl_append
def Mr:=@PySem.F.entry_dict_setdefault
def Ms:=@PySem.W.set_slot
def Mt:=@PySem.wpAny_pyIter_list
def Mu:=@PySem.F.slot_list_extend
def Mv:=@List.filter_map
def Mw:=@List.length_set
def Mx:=@List.filterMap_cons
def My:=@Nat.le_of_lt
def Mz:=@PySem.Calls.callWith_builtin
def MA:=@List.flatMap_cons
def MB:=@List.length_range
def MC:=@PySem.Paired.length
def MD:=@List.take_length
def ME:=@PySem.wpAny_Call_Name_kw
def MF:=@PySem.F.slot_tuple_iterator_next
def MG:=@Nat.add_sub_cancel
def MH:=@PyProof.Rows.boot_str
def MI:=@List.drop_eq_getElem_cons
def MJ:=@List.mem_or_eq_of_mem_set
def MK:=@List.getElem?_eq_none_iff
def ML:=@PySem.wpAny_passesOwn
def MM:=@Int.toNat_natCast
def MN:=@List.ext_getElem?
def MO:=@List.filter_congr
def MP:=@List.nodup_cons
def MQ:=@List.getElem?_take_of_lt
def MR:=@List.length_nil
def MS:=@PySem.F.type_list_extend
def MT:=@PyProof.Rows.slot_tuple_getitem
def MU:=@PySem.mem_of_lookup
def MV:=@PySem.Heap.SameBut.update
def MW:=@Nat.lt_succ_self
def MX:=@PySem.wpAny_call_entry
def MY:=@PySem.F.plain_max_loop
def MZ:=@Nat.add_sub_cancel_left
def M1:=@List.eq_nil_of_length_eq_zero
def M3:=@Nat.ne_of_gt
def M4:=@PySem.Calls.spliced_cons
def M5:=@PySem.call_meetsIn
def M6:=@Nat.lt_of_le_of_lt
def M7:=@List.drop_of_length_le
def M8:=@Nat.zero_add
def M9:=@PySem.wpAny_setField_rec
def Na:=@List.nil_append
def Nb:=@PyProof.Rows.boot_bool
def Nc:=@List.mem_zipIdx_iff_getElem?
def Nd:=@PySem.W.kia_tup
def Nf:=@PySem.Heap.get?_update_self
def Ng:=@PyProof.Rows.boot_int
def Nh:=@PySem.wpAny_letGo
def Ni:=@PySem.Around.under_plainId
def Nj:=@PySem.wpAny_tryCatch
def Nk:=@List.all_eq_true
def Nl:=@Bool.or_eq_false_iff
def Nm:=@List.all_cons
def Nn:=@List.exists_cons_of_ne_nil
def No:=@List.length_drop
def Np:=@PySem.F.slot_list_pop
def Nq:=@List.map_nil
def Nr:=@List.nodup_append
def Nt:=@Array.length_toList
def Nu:=@List.take_succ_cons
def Nv:=@PySem.F.args_tuple_add_2
def Nw:=@PySem.F.slot_list_getattribute
def Nx:=@PySem.plainId_quiet
def Ny:=@List.filterMap_cons_none
def Nz:=@if_true
def NA:=@Option.map_some
def NB:=@PySem.codeAny_builtin
def NC:=@PySem.wpAny_pyIter_tuple
def ND:=@List.mem_filterMap
def NE:=@beq_iff_eq
def NF:=@PySem.wpAny_rule
def NG:=@decide_eq_true_iff
def NH:=@PySem.F.entry_tuple_add
def NI:=@List.nodup_nil
def NJ:=@PySem.F.plainAttrs_dict
def NK:=@List.mem_reverse
def NL:=@PySem.codeAny_mono
def NM:=@PySem.F.slot_tuple_add
def NN:=@Nat.lt_succ_of_lt
def NO:=@PySem.wpAny_pyIter_enum
def NP:=@List.all_map
def NQ:=@List.flatMap_append
def NR:=@List.drop_eq_nil_of_le
def NS:=@List.map_id'
def NT:=@List.takeWhile_sublist
def NU:=@List.flatMap_singleton
def NV:=@PySem.F.slot_dict_get
def NW:=@List.getElem?_zipWith
def NX:=@PySem.F.type_list_pop
def NY:=@beq_self_eq_true
def NZ:=@Nat.min_eq_right
def N0:=@decide_eq_decide
def N3:=@List.cons.inj
def N4:=@Bool.true_and
def N5:=@PySem.W.mg_of
def N6:=@PySem.Calls.evalArgs_plain
def N7:=@List.cons_append
def N8:=@List.take_append_of_le_length
def N9:=@PySem.wpAny_execs_nil
def Oa:=@List.of_mem_zip
def Ob:=@PySem.wpAny_updateSeq
def Oc:=@List.forIn_cons
def Od:=@Nat.min_eq_left
def Oe:=@PyProof.Rows.boot_isinstance
def Of:=@PySem.F.args_tuple_iterator_next_1
def Og:=@PySem.F.slot_zip_next
def Oh:=@List.mem_of_mem_take
def Oi:=@PySem.W.plainGet_of
def Oj:=@List.length_reverse
def Ol:=@List.takeWhile_cons
def Om:=@PySem.wpAny_typeOf
def Oo:=@PySem.F.entry_tuple_iterator_next
def Op:=@PyProof.Rows.boot_enumerate
def Oq:=@List.idxOf_lt_length_of_mem
def Ot:=@PySem.Calls.Name_function_global
def Ou:=@PySem.W.callWith_K
def Ov:=@Bool.and_false
def Ow:=@PySem.W.KFB.if_not
def Ox:=@Bool.false_eq_true
def Oy:=@PySem.wpAny_letOwnedTupleGo_enum
def Oz:=@PySem.F.called_enumerate
def OA:=@List.zipIdx_append
def OB:=@List.length_zipIdx
def OC:=@List.pairwise_cons
def OD:=@List.mem_take_iff_getElem
def OE:=@List.getElem?_zip_eq_some
def OF:=@PySem.sizeLine_eq
def OG:=@PySem.W.kitx_list
def OH:=@PySem.Calls.spliced_nil
def OI:=@Option.isSome_map
def OJ:=@decide_eq_true_eq
def OK:=@List.zipIdx_cons
def OL:=@List.pairwise_map
def OM:=@PySem.wpAny_standAt
def ON:=@Option.isSome_iff_exists
def OO:=@List.any_cons
def OP:=@Bool.and_true
def OQ:=@List.filterMap_cons_some
def OR:=@PySem.F.slot_dict_values
def OS:=@List.sum_cons
def OT:=@List.map_take
def OU:=@PyProof.Rows.vals1
def OV:=@PySem.noFill_tuple_add
def OW:=@if_false
def OX:=@Option.getD_none
def OY:=@PySem.F.args_dict_get_3
def OZ:=@decide_eq_false_iff_not
def O0:=@List.map_reverse
def O2:=@Nat.lt_add_of_pos_right
def O3:=@PySem.W.cellsFrom_some
def O4:=@PySem.F.entry_dict_get
def O6:=@PyProof.Rows.boot_dict
def O7:=@List.filter_eq_nil_iff
def Pa:=@Nat.succ_mul
def Pb:=@Nat.add_comm
def Pc:=@Int.zero_add
def Pd:=@Int.emod_nonneg
def Pe:=@List.filter_nil
def Pf:=@List.sum_append
def Pg:=@PySem.W.methodCall_KW
def Ph:=@Array.getElem?_toList
def Pj:=@List.dropLast_eq_take
def Pk:=@List.take_append_drop
def Pl:=@Sum.inr.inj
def Pm:=@List.mem_range
def Pn:=@PySem.wpAny_listPart
def Po:=@PySem.wpAny_of_eq
def Pp:=@List.any_eq_true
def Pq:=@List.filter_cons
def Pr:=@List.getElem?_zipIdx
def Ps:=@List.mem_of_mem_tail
def Pt:=@List.Pairwise.filter
def Pu:=@List.take_zero
def Pw:=@Bool.and_eq_true_iff
def Px:=@List.take_nil
def Py:=@PySem.call_meets
def Pz:=@Nat.le_of_eq
def PB:=@List.set_set
def PD:=@Nat.sub_zero
def PF:=@Nat.sub_self
def PH:=@not_or
def PJ:=@Prod.mk.inj
namespace L2
open PySem PySem.Spec PyProof.Rows
abbrev aG:=Sum Int Str
def mi:aG->Value->Bool
 |.inl k,v=>Value.isInt k v
 |.inr x,v=>Value.isStrOf x v
def G5 (w:World):aG->Int
 |.inl k=>hashInt k
 |.inr x=>hashStr w x
def je:∀{k:aG} {v:Value},mi k v=true->(∃i t,k=Sum.inl i/\v=Value.int i t)\/(∃x t,k=Sum.inr x/\v=Value.str x t)
 |.inl i,v,h=>by
  obtain ⟨t,e⟩:=Value.isInt_shape (k:=i) (v:=v) h
  exact .inl ⟨i,t,rfl,e⟩
 |.inr x,v,h=>by
  obtain ⟨t,e⟩:=Value.isStrOf_shape (x:=x) (v:=v) h
  exact .inr ⟨x,t,rfl,e⟩
def C3 (i:Int)(t:Tok):mi (.inl i) (.int i t)=true:=by simp [mi,Value.isInt]
def FT (x:Str)(t:Tok):mi (.inr x) (.str x t)=true:=by simp [mi,Value.isStrOf]
def Kt (a b:Int):decide ((Sum.inl a:aG)=Sum.inl b)=(a==b):=by
 by_cases e:a=b
 .subst e;simp
 .have h:¬(Sum.inl a:aG)=Sum.inl b:=λq=>e (Sum.inl.inj q)
  rw [Lp h]
  exact (L0.mpr e).symm
def Ek (a b:Str):decide ((Sum.inr a:aG)=Sum.inr b)=decide (a=b):=by
 by_cases e:a=b
 .subst e;simp
 .have h:¬(Sum.inr a:aG)=Sum.inr b:=λq=>e (Pl q)
  rw [Lp h,Lp e]
def GO (a:Int)(b:Str):decide ((Sum.inl a:aG)=Sum.inr b)=false:=Lp (λq=>nomatch q)
def JL (a:Str)(b:Int):decide ((Sum.inr a:aG)=Sum.inl b)=false:=Lp (λq=>nomatch q)
def dq (prog:Program)(w:World):PySem.KeyKind prog w aG where
 is:=mi
 hash:=G5 w
 inj:=λv a b ha hb=>by
  rcases je ha with ⟨i,t,rfl,rfl⟩|⟨x,t,rfl,rfl⟩
  .rcases je hb with ⟨j,u,rfl,e⟩|⟨y,u,rfl,e⟩
   .injection e with e1 _;rw [e1]
   .exact nomatch e
  .rcases je hb with ⟨j,u,rfl,e⟩|⟨y,u,rfl,e⟩
   .exact nomatch e
   .injection e with e1 _;rw [e1]
 byValue:=λk v h=>by
  rcases je h with ⟨i,t,rfl,rfl⟩|⟨x,t,rfl,rfl⟩<;>rfl
 pyHash:=λhv h=>by
  rcases je hv with ⟨i,t,rfl,rfl⟩|⟨x,t,rfl,rfl⟩
  .exact wpAny_pyHash_int h
  .exact wpAny_pyHash_str h
 eqBool:=λhu hv h=>by
  rcases je hu with ⟨i,t,rfl,rfl⟩|⟨x,t,rfl,rfl⟩
  .rcases je hv with ⟨j,u,rfl,rfl⟩|⟨y,u,rfl,rfl⟩
   .rw [Kt] at h;exact wpAny_eqBool_int h
   .rw [GO] at h;exact SeqAt.EqAt.int_str i t y u _ _ _ _ h
  .rcases je hv with ⟨j,u,rfl,rfl⟩|⟨y,u,rfl,rfl⟩
   .rw [JL] at h;exact SeqAt.EqAt.str_int x t j u _ _ _ _ h
   .rw [Ek] at h;exact wpAny_eqBool_str h
 «strs»:=λk x t v h=>by
  rcases je h with ⟨i,u,rfl,e⟩|⟨y,u,rfl,e⟩
  .exact nomatch e
  .injection e with e1 _
   subst e1
   cases v<;>rfl
def Hx (a:Program)(w:World)(k:aG)(v:Value):(dq a w).is k v=mi k v:=rfl
def Hq (a:Program)(w:World)(i:Int)(t:Tok):(dq a w).is (.inl i) (.int i t)=true:=C3 i t
def HG (a:Program)(w:World)(x:Str)(t:Tok):(dq a w).is (.inr x) (.str x t)=true:=FT x t
end L2
namespace L2
open PySem PySem.Spec PyProof.Rows
inductive V where
 |av|bl (b:Bool)|int (i:Int)|str (x:Str)|gk (b:Array UInt8)|mD (b:UInt64)|ref (a:Addr)|ty (n:String)
 deriving DecidableEq
def RelV:V->Value->Prop
 |.av,u=>u=Value.none
 |.bl b,u=>u=Value.bool b
 |.int i,u=>∃t,u=Value.int i t
 |.str x,u=>∃t,u=Value.str x t
 |.gk b,u=>∃t,u=Value.bytes b t
 |.mD b,u=>∃t,u=Value.float b t
 |.ref a,u=>u=Value.ref a
 |.ty n,u=>u=Value.type n
abbrev a9:List V->List Value->Prop:=Paired RelV
def a9.length(r:a9 a b):a.length=b.length:=MC r
def a9.get:∀{a:List V} {b:List Value} {i:Nat} {x:V},a9 a b->a[i]?=some x->∃u,b[i]?=some u/\RelV x u
 |_,_,_,_,.nil,e=>by simp at e
 |_,_,0,_,.cons r _,e=>by simp at e;subst e;exact ⟨_,rfl,r⟩
 |_,_,i+1,x,.cons _ t,e=>by
  obtain ⟨u,c,d⟩:=a9.get (i:=i) (x:=x) t (by simpa using e)
  exact ⟨u,by simpa using c,d⟩
def a9.append:∀{a b:List V} {c d:List Value},a9 a c->a9 b d->a9 (a++b) (c++d)
 |_,_,_,_,.nil,s=>s
 |_,_,_,_,.cons r t,s=>.cons r (a9.append t s)
def a9.take:∀{a:List V} {b:List Value} (n:Nat),a9 a b->a9 (a.take n) (b.take n)
 |_,_,0,_=>.nil
 |_,_,_+1,.nil=>.nil
 |_,_,n+1,.cons r t=>.cons r (a9.take n t)
def a9.drop:∀{a:List V} {b:List Value} (n:Nat),a9 a b->a9 (a.drop n) (b.drop n)
 |_,_,0,r=>r
 |_,_,_+1,.nil=>.nil
 |_,_,n+1,.cons _ t=>a9.drop n t
def eE:Option V->Option Value->Prop
 |some v,some u=>RelV v u
 |none,none=>True
 |_,_=>False
def KV {κ:Type}:List (κ×V)->List (κ×Value)->Prop:=Paired λ(p:κ×V) (q:κ×Value)=>p.1=q.1/\RelV p.2 q.2
def kV:aG->V
 |.inl i=>.int i
 |.inr x=>.str x
inductive HO where
 |lst (xs:List V)
 |tup (xs:List V)
 |dK (kvs:List (aG×V))|dT (kvs:List (List aG×V))
 |set (S:Int->Bool) (n:Nat)
 |ins (C dx:Addr) (fs:List (Str×V))
 |own (x:Addr)
 |xd (fs:List (Str×V))
 |met (f x:Addr)
 |vZ (lo hi:Int)
 |cK (o:Obj) (u:HO)
 |jM (ps:Array Value)
 |ext (φ:Heap->Prop)
abbrev Hp:=Addr->Option HO
def upd (H:Hp)(a:Addr)(o:HO):Hp:=λb=>if b=a then some o else H b
def aK:upd H a o a=some o:=by unfold upd;rw [K4 rfl]
def aC(h:b≠a):upd H a o b=H b:=by unfold upd;rw [KS h]
def xv{H:Hp}(h:H a=some o)(c:H b=some u)(d:o≠u):a≠b:=by
 intro e;subst e;rw [h] at c;exact d (K8 c)
def de{H:Hp}(h:H a=some o)(c:H b=none):a≠b:=by
 intro e;subst e;rw [h] at c;cases c
section
variable (P:Program)(w:World)
def bP (H:Hp)(h:Heap)(a:Addr):HO->Prop
 |.lst xs=>xs.length<=sizeLine/\∃(its:List Value) (n:Nat),a9 xs its/\h.get? a=some {cls:=.type "list",data:=.seq its.toArray n}
 |.tup xs=>xs.length<=sizeLine/\∃its:List Value,a9 xs its/\IsTup h a its.toArray
 |.dK kvs=>kvs.length<=sizeLine/\(a==sysModules)=false/\∃vs,KV kvs vs/\h.DictOf (dq P w) a vs
 |.dT kvs=>kvs.length<=sizeLine/\(a==sysModules)=false/\∃xs:List (List aG×Addr×Value),
   Paired (λ(p:List aG×V) (q:List aG×Addr×Value)=>p.1=q.1/\H q.2.1=some (.tup (p.1.map kV))/\RelV p.2 q.2.2) kvs xs/\
   ∃o es ep,h.get? a=some o/\o.ExactDict/\o.data=.dict es ep/\es.toList=xs.map (entryOfKey (tupleKind (dq P w)))/\(xs.map (·.1)).Nodup
 |.set S n=>h.SetOf (intKind P w) a S n
 |.ins C dx fs=>H dx=some (.own a)/\fs.length<=1000/\dx≠a/\h.get? a=some (PySem.W.instObj C dx)/\
   ∃mA,h.Ns1 dx mA/\(∀f,eE (fs.lookup f) (mA f))/\PySem.Within mA (fs.map (·.1))
 |.own _=>∃o,h.get? a=some o
 |.xd fs=>∃mA,h.Ns1 a mA/\∀f,eE (fs.lookup f) (mA f)
 |.vZ lo hi=>∃t u v,h.get? a=some {cls:=.type "range",data:=.fields #[.int lo t,.int hi u,.int 1 v]}
 |.cK o u=>h.get? a=some o/\bP H h a u
 |.jM ps=>h.get? a=some {cls:=.none,data:=.fields ps}
 |.met f x=>h.get? a=some (PySem.W.methodObj (.ref f) (.ref x))
 |.ext φ=>φ h/\(∃o,h.get? a=some o)/\∀h1 h2:Heap,φ h1->(∀o,h1.get? a=some o->h2.get? a=some o)->φ h2
def cT (H:Hp)(h:Heap):Prop:=∀a o,H a=some o->bP P w H h a o
end
section
variable {P:Program}{w:World}{H H':Hp}{h h':Heap}{a:Addr}{o:HO}
def bP.lt (x:bP P w H h a o):a<h.objs.size:=by
 cases o with
 |lst c=>obtain ⟨_,_,_,_,e⟩:=x;exact Lf e
 |tup c=>obtain ⟨_,_,_,p⟩:=x;exact p.lt
 |dK b=>obtain ⟨_,_,_,_,o,_,_,e,_⟩:=x;exact Lf e
 |dT b=>obtain ⟨_,_,_,_,o,_,_,e,_⟩:=x;exact Lf e
 |set S n=>obtain ⟨o,_,_,_,e,_⟩:=x;exact Lf e
 |ins C g d=>obtain ⟨_,_,_,e,_⟩:=x;exact Lf e
 |own y=>obtain ⟨_,e⟩:=x;exact Lf e
 |xd d=>obtain ⟨_,⟨_,_,_,e,_⟩,_⟩:=x;exact Lf e
 |vZ lo i=>obtain ⟨_,_,_,e⟩:=x;exact Lf e
 |cK j u=>obtain ⟨e,_⟩:=x;exact Lf e
 |jM k=>exact Lf (show h.get? a=some _ from x)
 |met f y=>exact Lf (show h.get? a=some _ from x)
 |ext l=>obtain ⟨_,⟨_,e⟩,_⟩:=x;exact Lf e
def Paired.vi{G:e->g->Prop}:∀{c:List e} {d:List g},Paired F c d->(∀a b,F a b->G a b)->Paired G c d
 |_,_,.nil,_=>.nil
 |_,_,.cons r t,f=>.cons (f _ _ r) (Paired.vi t f)
def bP.jO (x:bP P w H h a o)(k:∀b u,(b=a\/H b=some (.own a))->h.get? b=some u->h'.get? b=some u)
  (G:∀b,H b=some (.own a)->H' b=some (.own a)) (I:∀b m,H b=some (.tup m)->H' b=some (.tup m)):bP P w H' h' a o:=by
 induction o with
 |lst m=>obtain ⟨z,l,n,r,e⟩:=x;exact ⟨z,l,n,r,k _ _ (.inl rfl) e⟩
 |tup m=>obtain ⟨z,l,r,g,e,c⟩:=x;exact ⟨z,l,r,g,k _ _ (.inl rfl) e,c⟩
 |dK s=>obtain ⟨z,y,J,r,g,i,j,e,c⟩:=x;exact ⟨z,y,J,r,g,i,j,k _ _ (.inl rfl) e,c⟩
 |dT s=>
  obtain ⟨z,y,m,r,g,i,j,e,c⟩:=x
  exact ⟨z,y,m,Paired.vi r λp q z=>⟨z.1,I _ _ z.2.1,z.2.2⟩,g,i,j,k _ _ (.inl rfl) e,c⟩
 |set S n=>obtain ⟨g,i,j,t,e,c⟩:=x;exact ⟨g,i,j,t,k _ _ (.inl rfl) e,c⟩
 |ins C Q L=>
  obtain ⟨d,z,M,e,A,⟨B,i,j,N,c⟩,r⟩:=x
  exact ⟨G _ d,z,M,k _ _ (.inl rfl) e,A,⟨B,i,j,k _ _ (.inr d) N,c⟩,r⟩
 |own y=>obtain ⟨g,e⟩:=x;exact ⟨g,k _ _ (.inl rfl) e⟩
 |xd L=>obtain ⟨A,⟨B,i,j,e,c⟩,r⟩:=x;exact ⟨A,⟨B,i,j,k _ _ (.inl rfl) e,c⟩,r⟩
 |vZ lo T=>obtain ⟨t,u,v,e⟩:=x;exact ⟨t,u,v,k _ _ (.inl rfl) e⟩
 |cK g u O=>obtain ⟨e,q⟩:=x;exact ⟨k _ _ (.inl rfl) e,O q⟩
 |jM E=>
  have e:h.get? a=some {cls:=.none,data:=.fields E}:=x
  show h'.get? a=some {cls:=.none,data:=.fields E}
  exact k a _ (.inl rfl) e
 |met f y=>
  have e:h.get? a=some (PySem.W.methodObj (.ref f) (.ref y)):=x
  show h'.get? a=some (PySem.W.methodObj (.ref f) (.ref y))
  exact k a _ (.inl rfl) e
 |ext U=>obtain ⟨p,⟨o,e⟩,st⟩:=x;exact ⟨st _ _ p λo q=>k _ _ (.inl rfl) q,⟨o,k _ _ (.inl rfl) e⟩,st⟩
def cT.lt (x:cT P w H h)(e:H a=some o):a<h.objs.size:=(x a o e).lt
def cT.fresh (x:cT P w H h)(e:h.objs.size<=a):H a=none:=by
 cases q:H a with
 |none=>rfl
 |some u=>exact absurd (Lw (x.lt q) e) (Mc _)
def cT.kept (x:cT P w H h)(k:∀b u,h.get? b=some u->h'.get? b=some u):cT P w H h':=λa o e=>
 (x a o e).jO (λb u _ q=>k b u q) (λ_ q=>q) λ_ _ q=>q
def cT.laid (x:cT P w H h)(k:∀b u,h.get? b=some u->h'.get? b=some u)(i:h.objs.size<=a)(d:bP P w (upd H a o) h' a o):cT P w (upd H a o) h':=λb u e=>by
 have f:=x.fresh i
 by_cases g:b=a
 .subst g;rw [aK] at e;cases e;exact d
 .rw [aC g] at e
  exact (x b u e).jO (λc v _ q=>k c v q) (λc q=>by rw [aC (de q f)];exact q) λc j q=>by rw [aC (de q f)];exact q
end
def Rd (H:Hp)(a:Addr)(u:HO):Prop:=H a=some u\/∃o,H a=some (.cK o u)
def Rd.ok(r:Rd H a u)(x:cT P w H h):bP P w H h a u:=by
 rcases r with r|⟨o,r⟩
 .exact x a u r
 .obtain ⟨_,q⟩:=x a _ r
  exact q
def pL:Option HO->Prop
 |some (.lst _)=>True
 |some (.dK _)=>True
 |some (.dT _)=>True
 |some (.set _ _)=>True
 |some (.ins _ _ _)=>True
 |some (.ext _)=>True
 |_=>False
section
variable {P:Program}{w:World}{H:Hp}{h h':Heap}{x e:Addr}{o':HO}
def cT.write (s:cT P w H h)(g:pL (H x))(o:e=x\/H e=some (.own x))(k:∀b u,b≠e->h.get? b=some u->h'.get? b=some u)(m:∃u,h'.get? e=some u)
  (n:bP P w (upd H x o') h' x o'):cT P w (upd H x o') h':=λb u q=>by
 have d:∀c y,H c=some (.own y)->c≠x:=λc y r z=>by subst z;rw [r] at g;exact g
 have f:∀c i,H c=some (.tup i)->c≠x:=λc i r z=>by subst z;rw [r] at g;exact g
 by_cases j:b=x
 .subst j;rw [aK] at q;cases q;exact n
 .rw [aC j] at q
  by_cases a:b=e
  .have p:H b=some (.own x):=by
    rcases o with z|z
    .exact absurd (a.trans z) j
    .rw [a];exact z
   rw [q] at p;cases p
   obtain ⟨v,t⟩:=m
   exact ⟨v,by rw [a];exact t⟩
  .refine (s b u q).jO (λc v l r=>k c v ?_ r) (λc r=>by rw [aC (d c b r)];exact r) λc i r=>by rw [aC (f c i r)];exact r
   rcases l with rfl|l
   .exact a
   .rintro rfl
    rcases o with z|z
    .exact d c b l z
    .rw [l] at z;cases z;exact j rfl
end
structure Un (fs ex:List Addr)(H H':Hp)(h h':Heap):Prop where
 keep:∀b o,h.get? b=some o->H b=none->b∉fs->b∉ex->h'.get? b=some o
 slot:∀b o,h.get? b=some o->H b=none->b∈fs->b∉ex->∃sl,h'.get? b=some {o with slots:=sl}
 free:∀b o,h.get? b=some o->H b=none->b∉ex->H' b=none
 there:∀b o,h.get? b=some o->b∉ex->∃o',h'.get? b=some o'
 iD:∀b xs,H b=some (.tup xs)->H' b=some (.tup xs)
 hZ:∀b o u,H b=some (.cK o u)->H' b=some (.cK o u)
 ir:∀b ps,H b=some (.jM ps)->∃more,H' b=some (.jM (ps++more))
section
variable {fs fs' ex ex':List Addr}{H H1 H2:Hp}{h h1 h2 h':Heap}{a x e:Addr}{o:HO}
def Un.any(u:Un fs ex H H1 h h1)(q:h.get? b=some c)(n:H b=none)(d:b∉ex):∃g,h1.get? b=some {c with slots:=g}:=by
 by_cases f:b∈fs
 .exact u.slot b c q n f d
 .exact ⟨c.slots,u.keep b c q n f d⟩
def Un.kept (k:∀b u,h.get? b=some u->h'.get? b=some u):Un fs ex H H h h':=
 ⟨λb c q _ _ _=>k b c q,λb c q _ _ _=>⟨c.slots,k b c q⟩,λ_ _ _ n _=>n,λb c q _=>⟨c,k b c q⟩,λ_ _ q=>q,λ_ _ _ q=>q,λ_ d q=>⟨#[],by rw [q];simp⟩⟩
def Un.refl:Un fs ex H H h h:=Un.kept λ_ _ q=>q
def Un.laid (k:∀b u,h.get? b=some u->h'.get? b=some u)(hp:h.objs.size<=a)(hn:H a=none):Un fs ex H (upd H a o) h h' where
 keep:=λb u q _ _ _=>k b u q
 slot:=λb u q _ _ _=>⟨u.slots,k b u q⟩
 free:=λb u q n _=>by rw [aC (Ls (Lw (Lf q) hp))];exact n
 there:=λb u q _=>⟨u,k b u q⟩
 iD:=λb xs q=>by rw [aC (de q hn)];exact q
 hZ:=λb u xs q=>by rw [aC (de q hn)];exact q
 ir:=λb ps q=>⟨#[],by rw [aC (de q hn),q];simp⟩
def Un.write (d:pL (H x))(l:e=x\/H e=some (.own x))(k:∀b u,b≠e->h.get? b=some u->h'.get? b=some u)(f:∃u,h'.get? e=some u):Un fs ex H (upd H x o) h h':=by
 have i:∀b,H b=none->b≠x:=λb n z=>by subst z;rw [n] at d;exact d
 have j:∀b,H b=none->b≠e:=λb n z=>by
  subst z
  rcases l with r|r
  .exact i b n r
  .rw [n] at r;cases r
 have g:∀b u,H b=some u->¬pL (some u)->b≠x:=λb u q m z=>by subst z;rw [q] at d;exact m d
 refine ⟨λb u q n _ _=>k b u (j b n) q,λb u q n _ _=>⟨u.slots,k b u (j b n) q⟩,λb u q n _=>by rw [aC (i b n)];exact n,λb u q _=>?_,
  λb p q=>by rw [aC (g b _ q λz=>z)];exact q,λb u p q=>by rw [aC (g b _ q λz=>z)];exact q,λb s q=>⟨#[],by rw [aC (g b _ q λz=>z),q];simp⟩⟩
 by_cases c:b=e
 .subst c;exact f
 .exact ⟨u,k b u c q⟩
end
def rG (h:Heap)(H:Hp):List Addr:=(List.range h.objs.size).filter λa=>(H a).isSome
def j6 (h:Heap)(H:Hp):Heap:=PySem.W.hideAll h (rG h H)
def J3 (h:Heap)(H:Hp):(j6 h H).objs.size=h.objs.size:=PySem.W.hideAll_size _ _
def CB{h:Heap}{H:Hp}(e:h.get? b=some o)(n:H b=none):(j6 h H).get? b=some o:=
 PySem.W.hideAll_get _ e λa=>by
  have q:(H b).isSome=true:=(La.mp a).2
  rw [n] at q;simp at q
def GD(e:(j6 h H).get? b=some o):h.get? b=some o/\H b=none:=by
 have a:h.get? b=some o:=PySem.W.of_hideAll (rG h H) e
 refine ⟨a,?_⟩
 cases q:H b with
 |none=>rfl
 |some x=>
  have c:b∈rG h H:=La.mpr ⟨Pm.mpr (Lf a),by simp [q]⟩
  have z:(j6 h H).get? b=none:=PySem.W.hideAll_none (rG h H) c
  rw [z] at e;cases e
end L2
namespace L2
open PySem PySem.Spec PyProof.Rows
structure Mod (K:PySem.W.Frag)(mg:Str->Option Value)(base:Heap):Prop where
 pd:K.In base
 glob:base.Ns mainGlobals mg
 blt:∃mb,base.Ns builtinsNs mb/\∀x:Str,x≠"__name__"->mb x=bootBuiltins x
 nolimit:base.NoLimit
structure Cx where
 prog:Program
 w:World
 K:PySem.W.Frag
 mg:Str->Option Value
 base:Heap
 A:Around
 N:List Str
 s₀:Shared
 H₀:Hp
 env:Env
 outer:List Env
 stack:List Env
 ex:List Addr
 fn:Str->Bool
 calm:Bool
 pn:List (Addr×Obj)
 xe:Value->Shared->Prop
def gW (l:List Env):List Addr:=l.filterMap (·.frame)
abbrev Cx.fs (X:Cx):List Addr:=gW X.outer
def oB (sc:Scope)(x:Str):Prop:=sc.names.lookup x=some .local\/sc.names.lookup x=some .cell\/sc.names.lookup x=some .free
def Loc (sc:Scope)(x:Str):Prop:=sc.names.lookup x=some .local\/sc.names.lookup x=some .cell
def Look (env:Env)(h:Heap)(m:Str->Option Value)(x:Str)(u:Value):Prop:=
 (env.kindOf x=some .local/\m x=some u)\/((env.kindOf x=some .cell\/env.kindOf x=some .free)/\∃c,env.cells.lookup x=some c/\h.IsCell c (some u))
structure Cx.Ok (X:Cx):Prop where
 mod:Mod X.K X.mg X.base
 kind:X.env.scope.kind=.function
 glob:X.env.globals=mainGlobals
 blt:X.env.builtins=builtinsNs
 above:X.s₀.heap.objs.size<=X.env.locals
 inj:∀x y c,X.env.cells.lookup x=some c->X.env.cells.lookup y=some c->x=y
 has:∀x,(X.env.kindOf x=some .cell\/X.env.kindOf x=some .free)->∃c,X.env.cells.lookup x=some c
 ox:∀x c,X.fn x=true->X.env.cells.lookup x=some c->X.s₀.heap.objs.size<=c
 hd:X.calm=true->X.A.handled=none
 frames:X.A.frames=some X.stack
 oI:X.stack=X.outer\/(X.stack=X.env::X.outer/\X.env.frame=some X.env.locals)
 vT:∀b∈X.ex,b≠X.env.locals/\∀x c,X.env.cells.lookup x=some c->c≠b
 bs:∀b o,X.base.get? b=some o->X.s₀.heap.get? b=some o/\X.H₀ b=none
 jT:X.base.objs.size<=X.s₀.heap.objs.size
 nP:∀b o,X.base.get? b=some o->b∉X.ex
 pf:∀b∈X.ex,b∉X.fs
 gM:X.s₀.heap.FunFrames X.base X.outer
 kT:∀b∈X.fs,X.H₀ b=none
structure Inv (X:Cx)(pins:List (Addr×Obj))(σ:List (Option V))(H:Hp)(s:Shared):Prop where
 ok:X.Ok
 os:s.os=X.s₀.os
 bare:AllBare s.gens
 base:Un X.fs X.ex X.H₀ H X.s₀.heap s.heap
 loc:∃m,s.heap.Ns X.env.locals m/\∀(i:Nat) (x:Str) (v:V),X.N[i]?=some x->σ[i]?=some (some v)->oB X.env.scope x->∃u,RelV v u/\Look X.env s.heap m x u
 cell:∀x c,X.env.cells.lookup x=some c->∃v,s.heap.IsCell c v
 free:H X.env.locals=none
 gH:∀x c,X.env.cells.lookup x=some c->H c=none
 pin:∀p∈X.pn++pins,s.heap.get? p.1=some p.2/\H p.1=none/\p.1≠X.env.locals/\p.1∉X.fs/\∀v,p.2.data≠.cell v
 aw:cT X.prog X.w H s.heap
 len:σ.length=X.N.length
section
variable {X:Cx}{pins:List (Addr×Obj)}{σ:List (Option V)}{H H':Hp}{s:Shared}{h':Heap}
def Cx.Ok.DM(a:X.Ok)(e:X.base.get? b=some o):b∉X.fs:=λc=>by
 have:=(a.gM.mem c).1
 rw [e] at this;cases this
def Inv.bs (I:Inv X pins σ H s):∀b o,X.base.get? b=some o->s.heap.get? b=some o/\H b=none:=λb o e=>
 ⟨I.base.keep b o (I.ok.bs b o e).1 (I.ok.bs b o e).2 (I.ok.DM e) (I.ok.nP b o e),I.base.free b o (I.ok.bs b o e).1 (I.ok.bs b o e).2 (I.ok.nP b o e)⟩
def Inv.bk (I:Inv X pins σ H s):∀b o,X.base.get? b=some o->s.heap.get? b=some o:=λb o e=>(I.bs b o e).1
def Inv.mod (I:Inv X pins σ H s):Mod X.K X.mg X.base:=I.ok.mod
def Inv.cZ (I:Inv X pins σ H s):X.K.In s.heap:=I.ok.mod.pd.keeps I.bk
def Inv.lt (I:Inv X pins σ H s):X.env.locals<s.heap.objs.size:=let ⟨_,a,_⟩:=I.loc;a.lt
def Inv.sz (I:Inv X pins σ H s):X.s₀.heap.objs.size<=s.heap.objs.size:=Lk I.ok.above (My I.lt)
def Inv.Dy(I:Inv X pins σ H s)(h:s.heap.objs.size<=a):a∉X.fs:=λb=>by
 obtain ⟨_,o,c,_⟩:=I.ok.gM.mem b
 exact absurd (Lw (Lf c) (Lk I.sz h)) (Mc _)
def Inv.jz (I:Inv X pins σ H s):∀x c,X.env.cells.lookup x=some c->c≠X.env.locals:=λx c e z=>by
 obtain ⟨v,o,d,f⟩:=I.cell x c e
 obtain ⟨m,⟨g,h,i,a,b,_⟩,_⟩:=I.loc
 rw [z,a] at d;cases d;rw [b] at f;cases f
def Inv.gM (I:Inv X pins σ H s):s.heap.FunFrames X.base X.outer:=by
 have all:∀(l:List Env),(∀b∈gW l,b∈X.fs)->X.s₀.heap.FunFrames X.base l->s.heap.FunFrames X.base l:=by
  intro l
  induction l with
  |nil=>intro _ _;trivial
  |cons g r h=>
   intro f i
   obtain ⟨j,⟨L,o,a,k,m,n⟩,p⟩:=i
   have c:L∈X.fs:=f L (by unfold gW;rw [Mx,a];exact KN)
   obtain ⟨q,e⟩:=I.base.slot L o m (I.ok.kT L c) c λz=>I.ok.pf L z c
   exact ⟨j,⟨L,_,a,k,e,n⟩,h (λb d=>f b (by unfold gW;rw [Mx,a];exact KG _ d)) p⟩
 exact all X.outer (λ_ d=>d) I.ok.gM
def Inv.stack (I:Inv X pins σ H s):s.heap.FunFrames X.base X.stack:=by
 rcases I.ok.oI with e|⟨e,a⟩
 .rw [e];exact I.gM
 .rw [e]
  obtain ⟨m,b,_⟩:=I.loc
  refine .cons (by rw [I.ok.kind];decide) a b ?_ I.gM
  exact Heap.get?_none_of_le (Lk I.ok.jT I.ok.above)
def Inv.vK (I:Inv X pins σ H s):∀b∈gW X.stack,b∈X.env.locals::X.fs:=λb a=>by
 rcases I.ok.oI with e|⟨e,c⟩
 .rw [e] at a;exact KG _ a
 .rw [e] at a
  unfold gW at a
  rw [Mx,c] at a
  exact a
def Inv.zg (I:Inv X pins σ H s):∀b∈gW X.stack,H b=none:=λb a=>by
 rcases KY.mp (I.vK b a) with e|a
 .rw [e];exact I.free
 .obtain ⟨_,o,c,_⟩:=I.ok.gM.mem a
  exact I.base.free b o c (I.ok.kT b a) λz=>I.ok.pf b z a
def Inv.step{ch:List Addr}(I:Inv X pins σ H s)
  (f:∀b∈ch,(b∈X.ex\/X.s₀.heap.objs.size<=b)/\b≠X.env.locals/\(∀x c,X.env.cells.lookup x=some c->c≠b)/\∀p∈X.pn++pins,p.1≠b)
  (keep:∀b o,b≠X.env.locals->b∉X.fs->b∉ch->s.heap.get? b=some o->H b=none->h'.get? b=some o)
  (y:∀b o,b≠X.env.locals->b∈X.fs->b∉ch->s.heap.get? b=some o->H b=none->∃O,h'.get? b=some {o with slots:=O}) (free:∀b o,b∉ch->s.heap.get? b=some o->H b=none->H' b=none)
  (B:∀b o,b∉ch->s.heap.get? b=some o->∃G,h'.get? b=some G)
  (iD:∀b A,H b=some (.tup A)->H' b=some (.tup A)) (hZ:∀b o u,H b=some (.cK o u)->H' b=some (.cK o u)) (ir:∀b N,H b=some (.jM N)->∃J,H' b=some (.jM (N++J)))
  (ns:∀m,s.heap.Ns X.env.locals m->h'.Ns X.env.locals m) (aw:cT X.prog X.w H' h') (hg:AllBare g'):
  Inv X pins σ H' {s with heap:=h',gens:=g',drawn:=d',toks:=t'}:=by
 have L:∀b o,X.s₀.heap.get? b=some o->b≠X.env.locals:=λb o e=>Ls (Lw (Lf e) I.ok.above)
 have j:∀b o,X.s₀.heap.get? b=some o->b∉X.ex->b∉ch:=λb o e a C=>by
  rcases (f b C).1 with z|z
  .exact a z
  .exact absurd (Lw (Lf e) z) (Mc _)
 have g:∀x c,X.env.cells.lookup x=some c->∀v,s.heap.IsCell c v->h'.IsCell c v:=λx c e v ⟨o,E,Q⟩=>by
  have h:c∉ch:=λz=>(f c z).2.2.1 x c e rfl
  by_cases U:c∈X.fs
  .obtain ⟨O,q⟩:=y c o (I.jz x c e) U h E (I.gH x c e)
   exact ⟨_,q,Q⟩
  .exact ⟨o,keep c o (I.jz x c e) U h E (I.gH x c e),Q⟩
 refine ⟨I.ok,I.os,hg,⟨λb o e n C a=>?_,λb o e n C a=>?_,λb o e n a=>?_,λb o e a=>?_,λb A e=>iD b A (I.base.iD b A e),λb o A e=>hZ b o A (I.base.hZ b o A e),λb N e=>?_⟩,?_,λx c e=>?_,?_,λx c e=>?_,λp Y=>?_,aw,I.len⟩
 .exact keep b o (L b o e) C (j b o e a) (I.base.keep b o e n C a) (I.base.free b o e n a)
 .obtain ⟨O,t⟩:=I.base.slot b o e n C a
  obtain ⟨T,M⟩:=y b _ (L b o e) C (j b o e a) t (I.base.free b o e n a)
  exact ⟨T,M⟩
 .obtain ⟨G,t⟩:=I.base.there b o e a
  exact free b G (j b o e a) t (I.base.free b o e n a)
 .obtain ⟨G,t⟩:=I.base.there b o e a
  exact B b G (j b o e a) t
 .obtain ⟨m1,t⟩:=I.base.ir b N e
  obtain ⟨m2,M⟩:=ir b _ t
  exact ⟨m1++m2,by rw [M,Array.append_assoc]⟩
 .obtain ⟨m,hn,hl⟩:=I.loc
  refine ⟨m,ns m hn,λi x v t M e3=>?_⟩
  obtain ⟨u,r,l⟩:=hl i x v t M e3
  refine ⟨u,r,?_⟩
  rcases l with l|⟨k,c,e,z⟩
  .exact .inl l
  .exact .inr ⟨k,c,e,g x c e _ z⟩
 .obtain ⟨v,z⟩:=I.cell x c e
  exact ⟨v,g x c e v z⟩
 .obtain ⟨m,⟨o,_,_,E,_⟩,_⟩:=I.loc
  exact free _ o (λz=>(f _ z).2.1 rfl) E I.free
 .obtain ⟨v,o,E,Q⟩:=I.cell x c e
  exact free c o (λz=>(f c z).2.2.1 x c e rfl) E (I.gH x c e)
 .obtain ⟨e,n,ne,nf,d⟩:=I.pin p Y
  have h:p.1∉ch:=λz=>(f p.1 z).2.2.2 p Y rfl
  exact ⟨keep p.1 p.2 ne nf h e n,free p.1 p.2 h e n,ne,nf,d⟩
def Inv.un(I:Inv X pins σ H s)(u:Un X.fs [] H H' s.heap h')(aw:cT X.prog X.w H' h'):Inv X pins σ H' {s with heap:=h',toks:=t'}:=by
 obtain ⟨m,⟨o,k,l,g,r⟩,_⟩:=id I.loc
 obtain ⟨p,h⟩:=u.any g I.free Z8
 exact I.step (g':=s.gens) (d':=s.drawn) (ch:=[]) (λ_ z=>nomatch z) (λb o _ c _ e n=>u.keep b o e n c Z8) (λb o _ c _ e n=>u.slot b o e n c Z8) (λb o _ e n=>u.free b o e n Z8) (λb o _ e=>u.there b o e Z8) u.iD u.hZ u.ir (λq i=>by
  obtain ⟨t,d,f,a,j⟩:=i
  rw [g] at a;cases a
  exact ⟨_,d,f,h,j⟩) aw I.bare
def Inv.call(I:Inv X pins σ H s)(u:Un (gW X.stack) ch H H' s.heap h')(aw:cT X.prog X.w H' h')(k:AllBare g')
  (d:∀b∈ch,(b∈X.ex\/X.s₀.heap.objs.size<=b)/\b≠X.env.locals/\(∀x c,X.env.cells.lookup x=some c->c≠b)/\∀p∈X.pn++pins,p.1≠b):
  Inv X pins σ H' {s with heap:=h',gens:=g',drawn:=d',toks:=t'}:=by
 obtain ⟨m,⟨o,v,y,j,r⟩,_⟩:=id I.loc
 obtain ⟨A,g⟩:=u.any j I.free λz=>(d _ z).2.1 rfl
 exact I.step (ch:=ch) d (λb o g l a e n=>u.keep b o e n (λz=>(KY.mp (I.vK b z)).elim g l) a) (λb o _ _ a e n=>u.any e n a) (λb o a e n=>u.free b o e n a) (λb o a e=>u.there b o e a) u.iD u.hZ u.ir (λB q=>by
  obtain ⟨C,h,i,f,t⟩:=q
  rw [j] at f;cases f
  exact ⟨_,h,i,g,t⟩) aw k
def Inv.turned(I:Inv X pins σ H s)(k:∀b o,b≠a->s.heap.get? b=some o->h'.get? b=some o)(h:H a=none)(g:a≠X.env.locals)
  (i:a∈X.ex\/X.s₀.heap.objs.size<=a) (j:∀x c,X.env.cells.lookup x=some c->c≠a) (l:∀p∈X.pn++pins,p.1≠a):Inv X pins σ H {s with heap:=h',toks:=t'}:=by
 have f:∀b u,H b=some u->b≠a:=λb u e z=>by rw [z,h] at e;cases e
 refine I.step (g':=s.gens) (d':=s.drawn) (ch:=[a]) (λb t=>?_) (λb o _ _ d e _=>k b o (λz=>d (by simp [z])) e) (λb o _ _ d e _=>⟨o.slots,k b o (λz=>d (by simp [z])) e⟩) (λ_ _ _ _ n=>n)
  (λb o d e=>⟨o,k b o (λz=>d (by simp [z])) e⟩) (λ_ _ e=>e) (λ_ _ _ e=>e) (λb C e=>⟨#[],by rw [e];simp⟩) (λm w=>?_) (λb u e=>?_) I.bare
 .have e:b=a:=by simpa using t
  subst e
  exact ⟨i,g,j,l⟩
 .obtain ⟨o,y,A,B,r⟩:=w
  exact ⟨o,y,A,k _ o (LN g) B,r⟩
 .refine (I.aw b u e).jO (λc v d q=>k c v ?_ q) (λ_ q=>q) λ_ _ q=>q
  rcases d with z|z
  .rw [z];exact f b u e
  .exact f c _ z
def Inv.tok (I:Inv X pins σ H s)(t:Nat):Inv X pins σ H {s with toks:=t}:=I.un (h':=s.heap) (t':=t) Un.refl I.aw
def Inv.kept(I:Inv X pins σ H s)(k:∀b u,s.heap.get? b=some u->h'.get? b=some u):Inv X pins σ H {s with heap:=h',toks:=t'}:=I.un (Un.kept k) (I.aw.kept k)
def Inv.laid(I:Inv X pins σ H s)(k:∀b u,s.heap.get? b=some u->h'.get? b=some u)(c:s.heap.objs.size<=a)(d:bP X.prog X.w (upd H a o) h' a o):
  Inv X pins σ (upd H a o) {s with heap:=h',toks:=t'}:=I.un (Un.laid k c (I.aw.fresh c)) (I.aw.laid k c d)
def Inv.write(I:Inv X pins σ H s)(d:pL (H x))(f:e=x\/H e=some (.own x))(k:∀b u,b≠e->s.heap.get? b=some u->h'.get? b=some u)(a:∃u,h'.get? e=some u)
  (c:bP X.prog X.w (upd H x o) h' x o):Inv X pins σ (upd H x o) {s with heap:=h',toks:=g}:=I.un (Un.write d f k a) (I.aw.write d f k a c)
def Inv.Ce {a:List (Addr×Obj)}(I:Inv X pins σ H s)(h:∀p∈a,s.heap.get? p.1=some p.2/\H p.1=none/\p.1≠X.env.locals/\p.1∉X.fs/\∀v,p.2.data≠.cell v):Inv X a σ H s:=
 ⟨I.ok,I.os,I.bare,I.base,I.loc,I.cell,I.free,I.gH,λp b=>(Ld.mp b).elim (λz=>I.pin p (K9 _ z)) (h p),I.aw,I.len⟩
def zL{N:List Str}(c:N.Nodup){i j:Nat}(a:N[i]?=some x)(b:N[j]?=some x):i=j:=by
 obtain ⟨f,d⟩:=KJ.mp a
 obtain ⟨g,e⟩:=KJ.mp b
 exact (List.getElem_inj c).mp (d.trans e.symm)
def yg{i:Nat}{Q:Unit->Shared->Prop}(I:Inv X pins σ H s)(hN:X.N.Nodup)(Y:X.N[i]?=some x)(B:Loc X.env.scope x)(r:RelV v u)
  (h:∀s',Inv X pins (σ.set i (some v)) H s'->(∃a,Heap.SameBut a s.heap s'.heap/\(a=X.env.locals\/X.env.cells.lookup x=some a))->Q () s') (hf:X.fn x=true\/X.env.scope.names.lookup x=some .local:=by first|exact .inl rfl|exact .inr rfl|assumption):wpAny M A (storeName X.env x u) Q E s:=by
 obtain ⟨m,hn,hl⟩:=id I.loc
 have ac:(X.env.scope.kind==.class||(X.env.scope.kind==.module&&X.env.locals !=X.env.globals))=false:=by rw [I.ok.kind];rfl
 have J:i<σ.length:=by rw [I.len];exact (KJ.mp Y).1
 have jz:=I.jz
 have g:∀{a:Addr} {h':Heap},(∃o,s.heap.get? a=some o/\H a=none)->Heap.SameBut a s.heap h'->cT X.prog X.w H h':=λ{a h'} ha f b ob e=>by
  obtain ⟨_,_,C⟩:=ha
  refine (I.aw b ob e).jO (λc w' t q=>(f.2 c ?_).trans q) (λ_ q=>q) λ_ _ q=>q
  rintro rfl
  rcases t with rfl|t
  .rw [C] at e;cases e
  .rw [C] at t;cases t
 rcases B with L|L
 .refine wpAny_storeName_local L hn (λh' ao f=>?_) ac
  obtain ⟨oL,_,_,as,_⟩:=id hn
  refine h _ ⟨I.ok,I.os,I.bare,⟨λb o e n O B=>?_,λb o e n O B=>?_,I.base.free,λb o e B=>?_,I.base.iD,I.base.hZ,I.base.ir⟩,⟨_,ao,λj y v' l G e3=>?_⟩,λy c e=>?_,I.free,I.gH,λp hp=>?_,g ⟨oL,as,I.free⟩ f,by simpa using I.len⟩ ⟨_,f,.inl rfl⟩
  .exact (f.2 b (Ls (Lw (Lf e) I.ok.above))).trans (I.base.keep b o e n O B)
  .obtain ⟨sl,l⟩:=I.base.slot b o e n O B
   exact ⟨sl,(f.2 b (Ls (Lw (Lf e) I.ok.above))).trans l⟩
  .obtain ⟨o',l⟩:=I.base.there b o e B
   exact ⟨o',(f.2 b (Ls (Lw (Lf e) I.ok.above))).trans l⟩
  .by_cases T:j=i
   .subst T
    rw [Y] at l;cases l
    rw [K6 J] at G
    cases G
    exact ⟨u,r,.inl ⟨L,by simp⟩⟩
   .rw [KQ (LN T)] at G
    obtain ⟨u',r',q⟩:=hl j y v' l G e3
    refine ⟨u',r',?_⟩
    rcases q with ⟨k,e⟩|⟨k,c,e,z⟩
    .refine .inl ⟨k,?_⟩
     have:y≠x:=λe=>T (zL hN l (e▸Y))
     simp [this,e]
    .exact .inr ⟨k,c,e,z.sameBut f (jz y c e)⟩
  .obtain ⟨w',z⟩:=I.cell y c e
   exact ⟨w',z.sameBut f (jz y c e)⟩
  .obtain ⟨e,n,ne,nf,d⟩:=I.pin p hp
   exact ⟨(f.2 p.1 ne).trans e,n,ne,nf,d⟩
 .have U:X.fn x=true:=by
   rcases hf with z|z
   .exact z
   .rw [z] at L;cases L
  obtain ⟨c,t⟩:=I.ok.has x (.inl L)
  obtain ⟨w',z⟩:=I.cell x c t
  refine wpAny_storeName_cell I.ok.kind L t z (λh' af f=>?_)
  obtain ⟨oc,aj,am⟩:=id z
  refine h {s with heap:=h'} ⟨I.ok,I.os,I.bare,⟨λb o e n O B=>?_,λb o e n O B=>?_,I.base.free,λb o e B=>?_,I.base.iD,I.base.hZ,I.base.ir⟩,⟨m,hn.sameBut f (LN (jz x c t)),λj y v' l G e3=>?_⟩,λy c' e=>?_,I.free,I.gH,λp hp=>?_,g ⟨oc,aj,I.gH x c t⟩ f,by simpa using I.len⟩ ⟨c,f,.inr t⟩
  .exact (f.2 b (Ls (Lw (Lf e) (I.ok.ox x c U t)))).trans (I.base.keep b o e n O B)
  .obtain ⟨sl,l⟩:=I.base.slot b o e n O B
   exact ⟨sl,(f.2 b (Ls (Lw (Lf e) (I.ok.ox x c U t)))).trans l⟩
  .obtain ⟨o',l⟩:=I.base.there b o e B
   exact ⟨o',(f.2 b (Ls (Lw (Lf e) (I.ok.ox x c U t)))).trans l⟩
  .by_cases T:j=i
   .subst T
    rw [Y] at l;cases l
    rw [K6 J] at G
    cases G
    exact ⟨u,r,.inr ⟨.inl L,c,t,af⟩⟩
   .rw [KQ (LN T)] at G
    obtain ⟨u',r',q⟩:=hl j y v' l G e3
    refine ⟨u',r',?_⟩
    rcases q with q|⟨k,c',e,z'⟩
    .exact .inl q
    .refine .inr ⟨k,c',e,z'.sameBut f ?_⟩
     rintro rfl
     exact T (zL hN l (I.ok.inj _ _ _ e t▸Y))
  .by_cases an:c'=c
   .subst an;exact ⟨_,af⟩
   .obtain ⟨w2,z2⟩:=I.cell y c' e
    exact ⟨w2,z2.sameBut f an⟩
  .obtain ⟨e,n,ne,nf,d⟩:=I.pin p hp
   refine ⟨(f.2 p.1 ?_).trans e,n,ne,nf,d⟩
   intro q
   rw [q,aj] at e
   have q':oc=p.2:=K8 e
   exact d w' (by rw [<-q'];exact am)
def yl{i:Nat}{Q:Unit->Shared->Prop}(I:Inv X pins σ H s)(b:X.N.Nodup)(c:X.N[i]?=some x)(d:Loc X.env.scope x)(r:RelV v u)
  (h:∀a,Inv X pins (σ.set i (some v)) H a->Q () a) (e:X.fn x=true\/X.env.scope.names.lookup x=some .local:=by first|exact .inl rfl|exact .inr rfl|assumption):wpAny M A (storeName X.env x u) Q E s:=
 yg I b c d r (λa f _=>h a f) e
def Inv.JN{a:Shared}(I:Inv X pins σ H s)(f:a.os=s.os)(u:Un (gW X.stack) ch H H' s.heap a.heap)(aw:cT X.prog X.w H' a.heap)(g:AllBare a.gens)
  (d:∀b∈ch,(b∈X.ex\/X.s₀.heap.objs.size<=b)/\b≠X.env.locals/\(∀x c,X.env.cells.lookup x=some c->c≠b)/\∀p∈X.pn++pins,p.1≠b):Inv X pins σ H' a:=by
 obtain ⟨h',h,i,j,k⟩:=a
 have e:k=s.os:=f
 subst e
 exact I.call (g':=h) (t':=j) (d':=i) u aw g d
end
abbrev XK:=Value->Option Addr->Hp->Prop
abbrev St:=List (Option V)
abbrev VK:=V->Hp->Prop
abbrev TE:=St->Hp->VK->Prop
abbrev TT:=St->Hp->(Bool->Hp->Prop)->Prop
abbrev TA:=St->Hp->(List V->Hp->Prop)->Prop
structure Ends where
 nx:St->Hp->Prop
 rt:VK
 bk:St->Hp->Prop:=fun _ _=>False
 ct:St->Hp->Prop:=fun _ _=>False
abbrev TS:=Ends->St->Hp->Prop
def EP (X:Cx)(pins:List (Addr×Obj))(σ:St)(Q:VK)(u:Value)(s':Shared):Prop:=∃v H',Inv X pins σ H' s'/\RelV v u/\Q v H'
def TP (X:Cx)(pins:List (Addr×Obj))(σ:St)(Q:Bool->Hp->Prop)(b:Bool)(s':Shared):Prop:=∃H',Inv X pins σ H' s'/\Q b H'
def AP (X:Cx)(pins:List (Addr×Obj))(σ:St)(Q:List V->Hp->Prop)(us:List Value)(s':Shared):Prop:=∃vs H',Inv X pins σ H' s'/\a9 vs us/\Q vs H'
def SP (X:Cx)(pins:List (Addr×Obj))(D:Ends)(f:Flow)(s':Shared):Prop:=
 match f with
 |.next=>∃σ' H',Inv X pins σ' H' s'/\D.nx σ' H'
 |.brk=>∃σ' H',Inv X pins σ' H' s'/\D.bk σ' H'
 |.cont=>∃σ' H',Inv X pins σ' H' s'/\D.ct σ' H'
 |.ret u=>∃v σ' H',Inv X pins σ' H' s'/\RelV v u/\D.rt v H'
def PE (X:Cx)(e:Expr)(t:TE):Prop:=
 ∀(pins:List (Addr×Obj)) (s:Shared) (σ:St) (H:Hp) (Q:VK),Inv X pins σ H s->t σ H Q->wpAny (model X.prog X.w) X.A (eval e X.env) (EP X pins σ Q) X.xe s
def PT (X:Cx)(e:Expr)(t:TT):Prop:=
 ∀(pins:List (Addr×Obj)) (s:Shared) (σ:St) (H:Hp) (Q:Bool->Hp->Prop),Inv X pins σ H s->t σ H Q->wpAny (model X.prog X.w) X.A (isTrue e X.env (eval e X.env)) (TP X pins σ Q) X.xe s
def PW (X:Cx)(e:Expr)(t:TT):Prop:=
 ∀(fX:Sem Value) (pins:List (Addr×Obj)) (s:Shared) (σ:St) (H:Hp) (Q:Bool->Hp->Prop),Inv X pins σ H s->t σ H Q->wpAny (model X.prog X.w) X.A (isTrue e X.env fX) (TP X pins σ Q) X.xe s
def PW.pt(h:PW X e t):PT X e t:=h _
def PA (X:Cx)(es:List Expr)(t:TA):Prop:=
 ∀(pos:Pos) (pins:List (Addr×Obj)) (s:Shared) (σ:St) (H:Hp) (Q:List V->Hp->Prop),Inv X pins σ H s->t σ H Q->wpAny (model X.prog X.w) X.A (spliced (backTo pos (starEach es X.env))) (AP X pins σ Q) X.xe s
def PS (X:Cx)(st:Stmt)(t:TS):Prop:=
 ∀(pins:List (Addr×Obj)) (s:Shared) (σ:St) (H:Hp) (D:Ends),Inv X pins σ H s->t D σ H->wpAny (model X.prog X.w) X.A (exec st X.env) (SP X pins D) X.xe s
def gu (X:Cx)(st:List Stmt)(t:TS):Prop:=
 ∀(pins:List (Addr×Obj)) (s:Shared) (σ:St) (H:Hp) (D:Ends),Inv X pins σ H s->t D σ H->wpAny (model X.prog X.w) X.A (execs st X.env) (SP X pins D) X.xe s
def aQ{c:b->Shared->Prop}(h:wpAny M A t Q E s)(d:∀a s,Q a s->c a s):wpAny M A t c E s:=Mh h d λ_ _ x=>x
end L2
namespace L2
open PySem PySem.Spec PyProof.Rows
section
variable {X:Cx}
def aR (i:Nat):TE:=λσ H Q=>∃v,σ[i]?=some (some v)/\Q v H
def tC (v:V):TE:=λ_ H Q=>Q v H
def Ac{i:Nat}(o:X.N[i]?=some x)(p:oB X.env.scope x)(j:(x==("__debug__":Str))=false:=by decide)(k:(x==("__classdict__":Str))=false:=by decide):PE X (.Name x g) (aR i):=by
 intro f s q H Q I h
 obtain ⟨v,e,h⟩:=h
 obtain ⟨m,t,w⟩:=I.loc
 obtain ⟨u,r,l⟩:=w i x v o e p
 have b:EP X f q Q u s:=⟨v,H,I,r,h⟩
 rcases l with ⟨d,y⟩|⟨d,c,n,a⟩
 .exact wpAny_Name (wpAny_loadName_local I.ok.kind d t y b) j
 .rcases d with d|d
  .exact wpAny_Name (wpAny_loadName_cell I.ok.kind d n a b) j
  .exact wpAny_Name (wpAny_loadName_free I.ok.kind d n a b k) j
def aE {i j a}:PE X (.Constant (.int i) j a) (tC (.int i)):=λ_ _ _ H _ I h=>wpAny_Constant_int ⟨.int i,H,I.tok _,⟨_,rfl⟩,h⟩
def cA {b j a}:PE X (.Constant (.bool b) j a) (tC (.bl b)):=λ_ _ _ H _ I h=>Constant_bool ⟨.bl b,H,I,rfl,h⟩
def pb {j a}:PE X (.Constant .none j a) (tC .av):=λ_ _ _ H _ I h=>Constant_none ⟨.av,H,I,rfl,h⟩
def dA {x j a}:PE X (.Constant (.str x) j a) (tC (.str x)):=λ_ _ _ H _ I h=>Calls.Constant_str ⟨.str x,H,I.tok _,⟨_,rfl⟩,h⟩
def Gl (X:Cx)(x:Str):Prop:=X.env.kindOf x=some .globalImplicit
def uc{Q:Value->Shared->Prop}(I:Inv X a c H s)(d:Gl X x)(e:X.mg x=some u)(h:Q u s)
  (f:(x==("__debug__":Str))=false:=by decide):wpAny (model X.prog X.w) X.A (eval (.Name x b) X.env) Q E s:=
 Ot I.ok.kind d (Calls.loadGlobal_global (by rw [I.ok.glob];exact I.mod.glob.keeps I.bk) e h) f
def ic{Q:Value->Shared->Prop}(I:Inv X a c H s)(d:Gl X x)(e:X.mg x=none)(f:bootBuiltins x=some u)(h:Q u s)
  (g:x≠"__name__":=by decide) (i:(x==("__debug__":Str))=false:=by decide):wpAny (model X.prog X.w) X.A (eval (.Name x b) X.env) Q E s:=by
 obtain ⟨l,j,k⟩:=I.mod.blt
 exact Ot I.ok.kind d (Calls.loadGlobal_builtin (by rw [I.ok.glob];exact I.mod.glob.keeps I.bk) e (by rw [I.ok.blt];exact j.keeps I.bk) ((k x g).trans f) h) i
def vB(b:Gl X x)(c:X.mg x=some u)(r:RelV v u)(d:(x==("__debug__":Str))=false:=by decide):PE X (.Name x a) (tC v):=
 λ_ _ _ H _ I h=>uc I b c ⟨v,H,I,r,h⟩ d
def ue(b:Gl X x)(c:X.mg x=none)(d:bootBuiltins x=some u)(r:RelV v u)(e:x≠"__name__":=by decide)(f:(x==("__debug__":Str))=false:=by decide):PE X (.Name x a) (tC v):=
 λ_ _ _ H _ I h=>ic I b c d ⟨v,H,I,r,h⟩ e f
variable {a b:Expr}{ta tb:TE}{pos:Pos}
def PC (X:Cx)(op:CmpOp)(a b:Expr)(t:TE):Prop:=
 ∀(pins:List (Addr×Obj)) (s:Shared) (σ:St) (H:Hp) (Q:VK),Inv X pins σ H s->t σ H Q->
  wpAny (model X.prog X.w) X.A (eval a X.env) (λv s₁=>wpAny (model X.prog X.w) X.A (eval b X.env) (λu s₂=>wpAny (model X.prog X.w) X.A (compareOp op v u) (EP X pins σ Q) X.xe s₂) X.xe s₁) X.xe s
def tB (t:TE):TT:=λσ H Q=>t σ H λx H1=>∃c,x=.bl c/\Q c H1
def Cs(h:PC X d a b t)(e:behindInMarks d b=false:=by first|exact IT _ Z5 Z5|rfl):PE X (.Compare a [d] [b] pos) t:=λc s f H Q I g=>wpAny_Compare1 (h c s f H Q I g) e
def iu(h:PC X f a b t)(g:behindInMarks f b=false:=by first|exact IT _ Z5 Z5|rfl):PT X (.Compare a [f] [b] pos) (tB t):=by
 intro e s i H Q I j
 refine wpAny_isTrue_Compare1 (aQ (h e s i H _ I j) λv p g=>aQ g λu r k=>aQ k λc w ⟨x,l,m,n,o⟩=>?_) g
 obtain ⟨d,rfl,q⟩:=o
 cases n
 exact Ma ⟨l,m,q⟩
def cu(h:PE X e t)(f:∀fX,isTrue e X.env fX=(do let v<-fX;standAt e.pos;holding [v] (truthy v)):=by intro _;rfl):PT X e (tB t):=by
 intro c s g H Q I i
 refine isTrue_plain (aQ (h c s g H _ I i) λv n ⟨x,j,k,l,m⟩=>?_) (f _)
 obtain ⟨d,rfl,q⟩:=m
 cases l
 exact Ma ⟨j,k,q⟩
variable {tA tB':TT}{ca:List Expr}
def ql (t u:TT):TT:=λσ H Q=>t σ H λc H1=>if c=true then u σ H1 Q else Q false H1
def xJ (t u:TT):TT:=λσ H Q=>t σ H λc H1=>if c=true then Q true H1 else u σ H1 Q
def zt (t:TT):TT:=λσ H Q=>t σ H λc H1=>Q (!c) H1
def iM (f:PT X a tA):PW X (.BoolOp .And [a] pos) tA:=by
 intro i d s g H Q I h
 refine isTrue_and (aQ (f d s g H Q I h) λc j e=>?_)
 cases c with
 |true=>exact isTrue_and_nil e
 |false=>exact e
def fS (f:PT X a tA):PW X (.BoolOp .Or [a] pos) tA:=by
 intro i d s g H Q I h
 refine isTrue_or (aQ (f d s g H Q I h) λc j e=>?_)
 cases c with
 |false=>exact isTrue_or_nil e
 |true=>exact e
def iI (j:PT X a tA)(k:PW X (.BoolOp .And (b::ca) pos) tB'):PW X (.BoolOp .And (a::b::ca) pos) (ql tA tB'):=by
 intro l d s e H Q I h
 refine isTrue_and (aQ (j d s e H _ I h) λc m ⟨f,g,i⟩=>?_)
 cases c with
 |true=>exact k l d m e f Q g i
 |false=>exact ⟨f,g,i⟩
def eM (j:PT X a tA)(k:PW X (.BoolOp .Or (b::ca) pos) tB'):PW X (.BoolOp .Or (a::b::ca) pos) (xJ tA tB'):=by
 intro l d s e H Q I h
 refine isTrue_or (aQ (j d s e H _ I h) λc m ⟨f,g,i⟩=>?_)
 cases c with
 |true=>exact ⟨f,g,i⟩
 |false=>exact k l d m e f Q g i
def dF (e:PT X a tA):PT X (.UnaryOp .Not a pos) (zt tA):=by
 intro d s f H Q I h
 exact isTrue_not (e d s f H (λc g=>Q (!c) g) I h)
def rh (ta tb:TE):TE:=λσ H Q=>ta σ H λx H1=>∃c,x=.bl c/\if c=true then tb σ H1 Q else Q (.bl false) H1
def BR (ta tb:TE):TE:=λσ H Q=>ta σ H λx H1=>∃c,x=.bl c/\if c=true then Q (.bl true) H1 else tb σ H1 Q
def xF (ta:TE):TE:=λσ H Q=>ta σ H λx H1=>∃c,x=.bl c/\Q (.bl (!c)) H1
def pF{d}(h:PE X a t):PE X (.BoolOp d [a] pos) t:=λc s e H Q I f=>BoolOp_one (h c s e H Q I f)
def nY (j:PE X a ta)(k:PE X (.BoolOp .And (b::ca) pos) tb):PE X (.BoolOp .And (a::b::ca) pos) (rh ta tb):=by
 intro d s f H Q I h
 refine BoolOp_and (aQ (j d s f H _ I h) λv l ⟨x,g,i,m,e⟩=>?_)
 obtain ⟨c,rfl,e⟩:=e
 cases m
 refine Ma ?_
 cases c with
 |true=>exact k d l f g Q i e
 |false=>exact ⟨.bl false,g,i,rfl,e⟩
def J8 (j:PE X a ta)(k:PE X (.BoolOp .Or (b::ca) pos) tb):PE X (.BoolOp .Or (a::b::ca) pos) (BR ta tb):=by
 intro d s f H Q I h
 refine BoolOp_or (aQ (j d s f H _ I h) λv l ⟨x,g,i,m,e⟩=>?_)
 obtain ⟨c,rfl,e⟩:=e
 cases m
 refine Ma ?_
 cases c with
 |false=>exact k d l f g Q i e
 |true=>exact ⟨.bl true,g,i,rfl,e⟩
def yM (f:PE X a ta):PE X (.UnaryOp .Not a pos) (xF ta):=by
 intro d s g H Q I h
 refine UnaryOp_ (aQ (f d s g H _ I h) λv l ⟨x,i,j,k,e⟩=>?_)
 obtain ⟨c,rfl,e⟩:=e
 cases k
 exact not_of (Ma ⟨.bl (!c),i,j,rfl,e⟩)
end
end L2
namespace L2
open PySem PySem.Spec PyProof.Rows
def aO (K:PySem.W.Frag)(H:Hp)(a:Addr)(xs:List V):Prop:=
 Rd H a (.lst xs)\/
  ∃(o:Obj) (its:Array Value) (n:Nat),K.lookup a=some o/\o.cls=.type "list"/\o.dict=none/\o.data=.seq its n/\its.size<=sizeLine/\a9 xs its.toList
def bo (K:PySem.W.Frag)(H:Hp)(a:Addr)(xs:List V):Prop:=
 Rd H a (.tup xs)\/
  ∃(o:Obj) (its:Array Value) (n:Nat),K.lookup a=some o/\o.cls=.type "tuple"/\o.data=.seq its n/\its.size<=sizeLine/\a9 xs its.toList
def Ku:Value->Option V
 |.none=>some .av
 |.bool b=>some (.bl b)
 |.int i _=>some (.int i)
 |.str x _=>some (.str x)
 |.bytes b _=>some (.gk b)
 |.float b _=>some (.mD b)
 |.ref a=>some (.ref a)
 |.type n=>some (.ty n)
 |_=>none
def RelV.abs(r:RelV x u):Ku u=some x:=by
 cases x with
 |av=>cases r;rfl
 |bl _=>cases r;rfl
 |int _=>obtain ⟨t,rfl⟩:=r;rfl
 |str _=>obtain ⟨t,rfl⟩:=r;rfl
 |gk _=>obtain ⟨t,rfl⟩:=r;rfl
 |mD _=>obtain ⟨t,rfl⟩:=r;rfl
 |ref _=>cases r;rfl
 |ty _=>cases r;rfl
def RelV.inj(r:RelV x u)(q:RelV y u):x=y:=K8 (r.abs.symm.trans q.abs)
def a9.inj:∀{a b:List V} {c:List Value},a9 a c->a9 b c->a=b
 |_,_,_,.nil,.nil=>rfl
 |_,_,_,.cons r t,.cons d e=>by rw [r.inj d,a9.inj t e]
section
variable {X:Cx}{pins:List (Addr×Obj)}{σ:St}{H:Hp}{s:Shared}{a:Addr}{xs ys:List V}
def aO.of {K:PySem.W.Frag}(h:H a=some (.lst xs)):aO K H a xs:=.inl (.inl h)
def bo.of {K:PySem.W.Frag}(h:H a=some (.tup xs)):bo K H a xs:=.inl (.inl h)
def Inv.list (I:Inv X pins σ H s)(h:aO X.K H a xs):∃b:List Value,a9 xs b/\PlainL s.heap a b.toArray/\xs.length<=sizeLine:=by
 rcases h with h|⟨o,b,n,c,d,f,g,i,r⟩
 .obtain ⟨z,b,n,r,e⟩:=h.ok I.aw
  exact ⟨b,r,⟨_,n,e,rfl,rfl,rfl⟩,z⟩
 .refine ⟨b.toList,r,⟨o,n,I.cZ a o c,d,f,by simpa using g⟩,?_⟩
  have e:=r.length
  simp only [Nt] at e
  omega
def Inv.tuple (I:Inv X pins σ H s)(h:bo X.K H a xs):∃b:List Value,a9 xs b/\IsTup s.heap a b.toArray/\xs.length<=sizeLine:=by
 rcases h with h|⟨o,b,n,c,d,f,g,r⟩
 .obtain ⟨z,b,r,p⟩:=h.ok I.aw
  exact ⟨b,r,p,z⟩
 .refine ⟨b.toList,r,⟨o,I.cZ a o c,d,n,by simpa using f⟩,?_⟩
  have e:=r.length
  simp only [Nt] at e
  omega
def Inv.sO (I:Inv X pins σ H s)(h:aO X.K H a xs)(i:aO X.K H a ys):xs=ys:=by
 obtain ⟨c,r,⟨o,n,e,_,_,d⟩,_⟩:=I.list h
 obtain ⟨b,j,⟨l,m,f,_,_,g⟩,_⟩:=I.list i
 rw [e] at f;cases f
 rw [d] at g
 injection g with k _
 have:c=b:=by simpa using LL Array.toList k
 subst this
 exact r.inj j
def Inv.uP (I:Inv X pins σ H s)(h:bo X.K H a xs)(i:bo X.K H a ys):xs=ys:=by
 obtain ⟨c,r,⟨o,e,_,n,d⟩,_⟩:=I.tuple h
 obtain ⟨b,j,⟨l,f,_,m,g⟩,_⟩:=I.tuple i
 rw [e] at f;cases f
 rw [d] at g
 injection g with k _
 have:c=b:=by simpa using LL Array.toList k
 subst this
 exact r.inj j
end
abbrev Cx.jd (X:Cx)(E:Value->Shared->Prop):Cx:={X with xe:=E}
abbrev Cx.oF (X:Cx):Cx:=X.jd λ_ _=>False
def Cx.Ok.jd {X:Cx}(a:X.Ok)(E:Value->Shared->Prop):(X.jd E).Ok:=
 ⟨a.mod,a.kind,a.glob,a.blt,a.above,a.inj,a.has,a.ox,a.hd,a.frames,a.oI,a.vT,a.bs,a.jT,a.nP,a.pf,a.gM,a.kT⟩
def Cx.Ok.kP{X:Cx}(a:(X.jd E).Ok):X.Ok:=
 ⟨a.mod,a.kind,a.glob,a.blt,a.above,a.inj,a.has,a.ox,a.hd,a.frames,a.oI,a.vT,a.bs,a.jT,a.nP,a.pf,a.gM,a.kT⟩
section
variable {X:Cx}{pins:List (Addr×Obj)}{σ:St}{H:Hp}{s:Shared}{E:Value->Shared->Prop}
def Inv.jd (I:Inv X pins σ H s)(E:Value->Shared->Prop):Inv (X.jd E) pins σ H s:=⟨I.ok.jd E,I.os,I.bare,I.base,I.loc,I.cell,I.free,I.gH,I.pin,I.aw,I.len⟩
def Inv.kP (I:Inv (X.jd E) pins σ H s):Inv X pins σ H s:=⟨I.ok.kP,I.os,I.bare,I.base,I.loc,I.cell,I.free,I.gH,I.pin,I.aw,I.len⟩
def SP.kP{D:Ends}(h:SP (X.jd E) pins D f c):SP X pins D f c:=by
 cases f with
 |next=>obtain ⟨a,b,I,q⟩:=h;exact ⟨a,b,I.kP,q⟩
 |brk=>obtain ⟨a,b,I,q⟩:=h;exact ⟨a,b,I.kP,q⟩
 |cont=>obtain ⟨a,b,I,q⟩:=h;exact ⟨a,b,I.kP,q⟩
 |ret u=>obtain ⟨v,a,b,I,r,q⟩:=h;exact ⟨v,a,b,I.kP,r,q⟩
def gu.oF{st:List Stmt}(h:gu X.oF st t):gu X st t:=λpins s σ H D I a=>
 Mh (h pins s σ H D (I.jd _) a) (λ_ _ q=>q.kP) λ_ _ z=>False.elim z
end
section
variable {X:Cx}{st:Stmt}{ca:List Stmt}{t u:TS}{e:Expr}{te:TE}{pos:Pos}
def qE:TS:=λD σ H=>D.nx σ H
def pP (t u:TS):TS:=λD σ H=>t {D with nx:=u D} σ H
def bS:gu X [] qE:=λ_ _ a H _ I h=>N9 ⟨a,H,I,h⟩
def az (c:PS X st t)(d:gu X ca u):gu X (st::ca) (pP t u):=by
 intro a s g H D I h
 refine wpAny_execs_cons (aQ (c a s g H {D with nx:=u D} I h) λf i q=>?_)
 cases f with
 |next=>
  obtain ⟨b,j,k,q⟩:=q
  exact d a i b j D k q
 |ret v=>exact q
 |brk=>exact q
 |cont=>exact q
def ay (b:PS X st t):gu X [st] t:=by
 intro a s c H D I h
 refine wpAny_execs_cons (aQ (b a s c H D I h) λf d q=>?_)
 cases f with
 |next=>exact N9 q
 |ret v=>exact q
 |brk=>exact q
 |cont=>exact q
def Hg:TS:=λD σ H=>D.bk σ H
def Fb:PS X (.Break pos) Hg:=λ_ _ a H _ I h=>wpAny_Break ⟨a,H,I,h⟩
def Inv.quiet(I:Inv X a b H s):interactive X.env=false:=by simp [interactive,I.ok.kind]
def lw (te:TE):TS:=λD σ H=>te σ H λ_ H1=>D.nx σ H1
def ky (c:PE X e te)(d:swapsWith e none pos.line X.env=pure false:=by rfl):PS X (.Expr e pos) (lw te):=by
 intro a s b H D I h
 exact wpAny_Expr_any (aQ (c a s b H _ I h) λv j ⟨x,f,g,k,i⟩=>⟨b,f,g,i⟩) I.quiet d
def pS (te:TE):TS:=λD σ H=>te σ H D.rt
def bd (c:PE X e te):PS X (.Return (some e) pos) (pS te):=by
 intro a s b H D I h
 exact wpAny_Return_some (aQ (c a s b H _ I h) λv j ⟨x,d,f,g,i⟩=>⟨x,b,d,f,g,i⟩)
def mM (c:TT)(t u:TS):TS:=λD σ H=>c σ H λb H1=>if b=true then t D σ H1 else u D σ H1
def bB(n:PT X c i)(o:gu X a t)(p:gu X b u):PS X (.If c a b pos) (mM i t u):=by
 intro f s g H D I h
 refine wpAny_If (aQ (n f s g H _ I h) λd j ⟨k,l,m⟩=>?_)
 cases d with
 |true=>exact o f j g k D l m
 |false=>exact p f j g k D l m
end
abbrev TG:=V->St->Hp->(St->Hp->Prop)->Prop
abbrev kK:=List V->St->Hp->(St->Hp->Prop)->Prop
def PG (X:Cx)(target:Expr)(t:TG):Prop:=
 ∀(pins:List (Addr×Obj)) (s:Shared) (σ:St) (H:Hp) (v:V) (u:Value) (Q:St->Hp->Prop),Inv X pins σ H s->RelV v u->t v σ H Q->
  wpAny (model X.prog X.w) X.A (assign target X.env u) (λ_ s'=>∃σ' H',Inv X pins σ' H' s'/\Q σ' H') X.xe s
def pG (X:Cx)(ts:List Expr)(t:kK):Prop:=
 ∀(pins:List (Addr×Obj)) (s:Shared) (σ:St) (H:Hp) (vs:List V) (us:List Value) (Q:St->Hp->Prop),Inv X pins σ H s->a9 vs us->t vs σ H Q->
  wpAny (model X.prog X.w) X.A (assignInOrder ((assignEach ts X.env).map (·.2)) us) (λ_ s'=>∃σ' H',Inv X pins σ' H' s'/\Q σ' H') X.xe s
section
variable {X:Cx}{pos:Pos}
def ci (i:Nat):TG:=λv σ H Q=>Q (σ.set i (some v)) H
def FS{i:Nat}(b:X.N.Nodup)(c:X.N[i]?=some x)(d:Loc X.env.scope x)(e:X.fn x=true\/X.env.scope.names.lookup x=some .local:=by first|exact .inl rfl|exact .inr rfl|assumption):PG X (.Name x pos) (ci i):=by
 intro a s g H v u Q I r h
 exact wpAny_assign_Name (yl I b c d r (λj f=>⟨_,H,f,h⟩) e)
def ph:kK:=λvs σ H Q=>vs=[]/\Q σ H
def jJ (t:TG)(u:kK):kK:=λvs σ H Q=>∃v r,vs=v::r/\t v σ H λσ' H'=>u r σ' H' Q
def iQ:pG X [] ph:=by
 intro a s b H c d Q I r h
 obtain ⟨e,h⟩:=h
 subst e
 cases r
 exact assignInOrder_nil ⟨b,H,I,h⟩
def eY(d:PG X e t)(f:pG X b u)
  (g:(assignEach (e::b) X.env).map (·.2)=assign e X.env::(assignEach b X.env).map (·.2):=by rfl):pG X (e::b) (jJ t u):=by
 intro a s i H p q Q I r h
 obtain ⟨v,w,j,h⟩:=h
 subst j
 cases r with
 |cons r k=>
  rw [g]
  refine assignInOrder_cons (aQ (d a s i H _ _ _ I r h) λ_ l ⟨c,m,n,o⟩=>?_)
  exact f a l c m _ _ Q n k o
def mY (K:PySem.W.Frag)(n:Nat)(t:kK):TG:=λv σ H Q=>∃a xs,v=.ref a/\bo K H a xs/\xs.length=n/\t xs σ H Q
def kn(l:X.calm=true)(h:pG X d t)
  (m:(assignEach d X.env).length=n:=by rfl) (f:(assignEach d X.env).findIdx? (·.1)=none:=by rfl):PG X (.Tuple d k pos) (mY X.K n t):=by
 intro c s i H v u Q I r g
 obtain ⟨a,p,q,w,x,g⟩:=g
 subst q
 cases r
 obtain ⟨y,j,z,E⟩:=I.tuple w
 refine assign_Tuple_tuple (I.ok.hd l) z (by simp [m,<-x,j.length]) f λA B=>?_
 have C:Inv X c i H {s with heap:=A}:=I.kept (t':=s.toks) λb o e=>B b o (Ls (Lf e)) e
 exact h c _ i H p _ Q C (by simpa using j) g
def dW (te:TE)(g:TG):TS:=λD σ H=>te σ H λx H1=>g x σ H1 D.nx
def Cf(f:PE X e c)(i:PG X b g)(j:swapsWithSole [b] e pos.line X.env=pure false:=by rfl)(k:swappedStores [b] e X.env=pure none:=by rfl)
  (l:(assignEach [b] X.env).map (·.2)=[assign b X.env]:=by rfl):PS X (.Assign [b] e pos) (dW c g):=by
 intro a s d H D I h
 refine wpAny_Assign_stores (aQ (f a s d H _ I h) λv m ⟨x,n,o,p,r⟩=>?_) j k
 rw [l]
 exact aQ (i a m d n x v _ o p r) λ_ t q=>q
def Av{i:Nat}(d:X.N.Nodup)(f:X.N[i]?=some x)(g:Loc X.env.scope x)(j:PE X e c)(k:swapsWith e (some (.Name x a)) pos.line X.env=pure false:=by rfl)(l:X.fn x=true\/X.env.scope.names.lookup x=some .local:=by first|exact .inl rfl|exact .inr rfl|assumption):
  PS X (.Assign [.Name x a] e pos) (dW c (ci i)):=by
 intro b s m H D I h
 refine wpAny_Assign_Name (aQ (j b s m H _ I h) λv t ⟨y,n,o,p,q⟩=>?_) k
 exact yl o d f g p (λu r=>⟨_,n,r,q⟩) l
end
section
variable {X:Cx}{pos:Pos}
def y8 (c:TT)(tb:TS):TS:=λD σ H=>∃W:Nat->St->Hp->Prop,(∃m,W m σ H)/\∀m σ H,W m σ H->
 c σ H λb H1=>if b=true then∃N:St->Hp->Prop,(∀σ' H',N σ' H'->∃m',m'<m/\W m' σ' H')/\tb {D with nx:=N,ct:=N,bk:=D.nx} σ H1 else D.nx σ H1
def w6(y:PassesOwn (model X.prog X.w) X.A X.env X.xe)(J:PT X c u)(L:gu X g x):PS X (.While c g [] pos) (y8 u x):=by
 intro a s M H D I h
 obtain ⟨W,⟨O,Q⟩,i⟩:=h
 refine wpAny_While (codeAny_whileLoop (λn T=>∃j z,Inv X a j z T/\W n j z) ?_ O ⟨M,H,I,Q⟩)
 rintro n U ⟨e,B,Y,w1⟩
 refine ML y (aQ (J a U e B _ Y (i n e B w1)) λb s2 ⟨C,E,l⟩=>?_)
 cases b with
 |true=>
  obtain ⟨N,G,l⟩:=l
  rw [K4 rfl]
  refine ML y (aQ (L a s2 e C _ E l) λf s3 m=>?_)
  cases f with
  |next=>
   obtain ⟨d,k,o,p⟩:=m
   obtain ⟨q,r,t⟩:=G d k p
   exact ⟨q,r,d,k,o,t⟩
  |cont=>
   obtain ⟨d,k,o,p⟩:=m
   obtain ⟨q,r,t⟩:=G d k p
   exact ⟨q,r,d,k,o,t⟩
  |brk=>exact m
  |ret v=>exact m
 |false=>
  rw [KS K0]
  exact N9 ⟨e,C,E,l⟩
end
structure It where
 go:Nat->Hp->Prop
 nk:Nat->Hp->V->Hp->Prop
 stop:Nat->Hp->Prop
def ib (X:Cx)(pins:List (Addr×Obj))(H:Hp)(b:Addr):Prop:=
 H b=none/\b≠X.env.locals/\b∉X.fs/\(b∈X.ex\/X.s₀.heap.objs.size<=b)/\(∀x c,X.env.cells.lookup x=some c->c≠b)/\∀p∈X.pn++pins,p.1≠b
def Inv.gz{f:Hp}(I:Inv X a g H s)(d:s.heap.objs.size<=b)(h:f b=none):ib X a f b:=by
 refine ⟨h,M3 (Lw I.lt d),I.Dy d,.inr (Lk I.sz d),λx c e z=>?_,λp i z=>?_⟩
 .obtain ⟨v,q⟩:=I.cell x c e
  exact absurd (Lw q.lt (by rw [z];exact d)) (Mc _)
 .exact absurd (Lw (Lf (I.pin p i).1) (by rw [z];exact d)) (Mc _)
structure iJ (P:Program)(w:World)(K:PySem.W.Frag)(tg:Expr)(J:It)(fp:List Addr)(it:Addr)(tn:Nat->Heap->Prop):Prop where
 mem:it∈fp
 obj:∀i h,tn i h->∀b∈fp,∃o,h.get? b=some o/\∀v,o.data≠.cell v
 keep:∀i h h',tn i h->(∀b∈fp,∀o,h.get? b=some o->h'.get? b=some o)->tn i h'
 item:∀(X:Cx),X.prog=P->X.w=w->X.K=K->X.calm=true->∀(i:Nat) (pins:List (Addr×Obj)) (s:Shared) (σ:St) (H:Hp) (E:Value->Shared->Prop),Inv X pins σ H s->(∀b∈fp,ib X pins H b)->tn i s.heap->J.go i H->
  wpAny (model P w) X.A (pyNext (.ref it)) (fun r s1=>∃u,r=some u/\
   wpAny (model P w) X.A (letOwnedTupleGo tg (.ref it) u) (fun _ s2=>∃x H',Inv X pins σ H' s2/\RelV x u/\J.nk i H x H'/\tn (i+1) s2.heap/\∀b∈fp,H' b=none) E s1) E s
 done:∀(X:Cx),X.prog=P->X.w=w->X.K=K->X.calm=true->∀(i:Nat) (pins:List (Addr×Obj)) (s:Shared) (σ:St) (H:Hp) (E:Value->Shared->Prop),Inv X pins σ H s->(∀b∈fp,ib X pins H b)->tn i s.heap->J.stop i H->
  wpAny (model P w) X.A (pyNext (.ref it)) (fun r s1=>r=none/\Inv X pins σ H s1) E s
 self:∀(A:Around) (i:Nat) (s:Shared) (Q:Value->Shared->Prop) (E:Value->Shared->Prop),tn i s.heap->Q (.ref it) s->wpAny (model P w) A (pyIter (.ref it)) Q E s
abbrev TI:=St->Hp->(It->Hp->Prop)->Prop
def yq (X:Cx)(pins:List (Addr×Obj))(σ:St)(tg:Expr)(R:It->Hp->Prop)(itv:Value)(s2:Shared):Prop:=
 ∃(it:Addr) (fp:List Addr) (tn:Nat->Heap->Prop) (J:It) (H':Hp),itv=.ref it/\Inv X pins σ H' s2/\iJ X.prog X.w X.K tg J fp it tn/\tn 0 s2.heap/\(∀b∈fp,ib X pins H' b)/\R J H'
def PI (X:Cx)(tg iter:Expr)(wi:TI):Prop:=
 ∀(pins:List (Addr×Obj)) (s:Shared) (σ:St) (H:Hp) (R:It->Hp->Prop),Inv X pins σ H s->wi σ H R->
  wpAny (model X.prog X.w) X.A (eval iter X.env) (λv s1=>wpAny (model X.prog X.w) X.A (pyIter v) (yq X pins σ tg R) X.xe s1) X.xe s
def m5{s:Shared}{Q:Unit->Shared->Prop}(e:s.heap.get? c=some o)(f:o.cls=.type n)(g:o.data=.fields d)
  (i:["enumerate","zip","dict_itemiterator","dict_reverseitemiterator","odict_iterator","itertools.zip_longest","itertools.pairwise"].contains n=false) (a:Q () s):wpAny M A (letOwnedTupleGo b (.ref c) u) Q E s:=by
 unfold letOwnedTupleGo
 cases b<;>first
  |exact K5 a
  |(cases u<;>first
    |exact K5 a
    |(refine KI (wpAny_load e ?_)
      rw [f,g]
      show wpAny M A (if (["enumerate","zip","dict_itemiterator","dict_reverseitemiterator","odict_iterator","itertools.zip_longest","itertools.pairwise"].contains n&&d[0]?==some (rawInt _))=true then _ else _) Q E s
      rw [KS (by intro h;rw [i,Bool.false_and] at h;cases h)]
      exact K5 a))
def BY (K:PySem.W.Frag)(a:Addr):It:=
 ⟨λi H=>∃xs x,aO K H a xs/\xs[i]?=some x,λi H x H'=>H'=H/\∀xs,aO K H a xs->xs[i]?=some x,λi H=>∃xs,aO K H a xs/\xs.length<=i⟩
def Cp (K:PySem.W.Frag)(a:Addr):It:=
 ⟨λi H=>∃xs x,bo K H a xs/\xs[i]?=some x,λi H x H'=>H'=H/\∀xs,bo K H a xs->xs[i]?=some x,λi H=>∃xs,bo K H a xs/\xs.length<=i⟩
def tW (lo:Int)(n:Nat):It:=⟨λi _=>i<n,λi H x H'=>H'=H/\x=.int (lo+i),λi _=>n<=i⟩
def CT {P:Program}{w:World}{K:PySem.W.Frag}{tg:Expr}(a it:Addr):iJ P w K tg (BY K a) [it] it (λi h=>h.IsListIter it a i) where
 mem:=by simp
 obj:=λi h st b hb=>by
  have e:b=it:=by simpa using hb
  subst e
  obtain ⟨o,e,c,d⟩:=st
  exact ⟨o,e,λv z=>by rw [d] at z;cases z⟩
 keep:=λi h h' st k=>st.at λo e=>k it Z8 o e
 item:=by
  intro X hP hw hK hc i pins s σ H E I hf st hg
  subst hP hw hK
  obtain ⟨xs,x,hq,hx⟩:=hg
  obtain ⟨its,rv,p,hz⟩:=I.list hq
  obtain ⟨u,hu,ru⟩:=rv.get hx
  obtain ⟨f0,f1,f2,f3,f4,f5⟩:=hf it Z8
  refine wpAny_pyNext_list_item st p.isList (x:=u) (by simpa using hu) λh' st' sb=>?_
  have I1:Inv X pins σ H {s with heap:=h'}:=I.turned (t':=s.toks) (λb o hb e=>(sb.2 b hb).trans e) f0 f1 f3 f4 f5
  obtain ⟨o,e,c,d⟩:=id st'
  exact ⟨u,rfl,m5 (s:={s with heap:=h'}) e c d Z5 ⟨x,H,I1,ru,⟨rfl,λys hy=>by rw [I.sO hy hq];exact hx⟩,st',λb hb=>(hf b hb).1⟩⟩
 done:=by
  intro X hP hw hK hc i pins s σ H E I hf st hg
  subst hP hw hK
  obtain ⟨xs,hq,hx⟩:=hg
  obtain ⟨its,rv,p,hz⟩:=I.list hq
  obtain ⟨f0,f1,f2,f3,f4,f5⟩:=hf it Z8
  have hl:=rv.length
  exact wpAny_pyNext_list_end (I.ok.hd hc) st p.isList (by simp;omega) λh' eb=>⟨rfl,I.turned (t':=s.toks) (λb o hb e=>eb b o hb e) f0 f1 f3 f4 f5⟩
 self:=λ_ _ _ _ _ st h=>wpAny_pyIter_listiter st h
def El {P:Program}{w:World}{K:PySem.W.Frag}{tg:Expr}(a it:Addr):iJ P w K tg (Cp K a) [it] it (λi h=>h.IsTupleIter it a i) where
 mem:=by simp
 obj:=λi h st b hb=>by
  have e:b=it:=by simpa using hb
  subst e
  obtain ⟨o,e,c,d⟩:=st
  exact ⟨o,e,λv z=>by rw [d] at z;cases z⟩
 keep:=λi h h' st k=>st.at λo e=>k it Z8 o e
 item:=by
  intro X hP hw hK hc i pins s σ H E I hf st hg
  subst hP hw hK
  obtain ⟨xs,x,hq,hx⟩:=hg
  obtain ⟨its,rv,p,hz⟩:=I.tuple hq
  obtain ⟨u,hu,ru⟩:=rv.get hx
  obtain ⟨f0,f1,f2,f3,f4,f5⟩:=hf it Z8
  refine wpAny_pyNext_tuple_item st (show s.heap.IsTuple a its.toArray from p) (x:=u) (by simpa using hu) λh' st' sb=>?_
  have I1:Inv X pins σ H {s with heap:=h'}:=I.turned (t':=s.toks) (λb o hb e=>(sb.2 b hb).trans e) f0 f1 f3 f4 f5
  obtain ⟨o,e,c,d⟩:=id st'
  exact ⟨u,rfl,m5 (s:={s with heap:=h'}) e c d Z5 ⟨x,H,I1,ru,⟨rfl,λys hy=>by rw [I.uP hy hq];exact hx⟩,st',λb hb=>(hf b hb).1⟩⟩
 done:=by
  intro X hP hw hK hc i pins s σ H E I hf st hg
  subst hP hw hK
  obtain ⟨xs,hq,hx⟩:=hg
  obtain ⟨its,rv,p,hz⟩:=I.tuple hq
  obtain ⟨f0,f1,f2,f3,f4,f5⟩:=hf it Z8
  have hl:=rv.length
  exact wpAny_pyNext_tuple_end (I.ok.hd hc) st (show s.heap.IsTuple a its.toArray from p) (by simp;omega) λh' eb=>⟨rfl,I.turned (t':=s.toks) (λb o hb e=>eb b o hb e) f0 f1 f3 f4 f5⟩
 self:=λ_ _ _ _ _ st h=>wpAny_pyIter_tupleiter st h
def Ge {P:Program}{w:World}{K:PySem.W.Frag}{tg:Expr}(it:Addr)(lo:Int)(n:Nat):iJ P w K tg (tW lo n) [it] it (λi h=>IsRangeIter h it (lo+(i:Nat)*1) ((n:Int)-(i:Nat)) 1) where
 mem:=by simp
 obj:=λi h st b hb=>by
  have e:b=it:=by simpa using hb
  subst e
  exact ⟨_,st,λv z=>by
   have z':Data.fields _=Data.cell v:=z
   cases z'⟩
 keep:=λi h h' st k=>k it Z8 _ st
 item:=by
  intro X hP hw hK hc i pins s σ H E I hf st hg
  subst hP hw hK
  obtain ⟨f0,f1,f2,f3,f4,f5⟩:=hf it Z8
  have W:=Walks.range (prog:=X.prog) (w:=X.w) (I.ok.hd hc) it lo 1 n
  refine W.item i s _ _ hg st λv h' tk hv st' kk=>?_
  obtain ⟨t,rfl⟩:=hv
  have I1:Inv X pins σ H {s with heap:=h',toks:=tk}:=I.turned (λb o hb e=>kk b o (by simpa using hb) e) f0 f1 f3 f4 f5
  refine ⟨_,rfl,m5 (s:={s with heap:=h',toks:=tk}) (n:="range_iterator") st' rfl rfl Z5 ⟨.int (lo+i),H,I1,⟨t,?_⟩,⟨rfl,rfl⟩,st',λb hb=>(hf b hb).1⟩⟩
  rw [Int.mul_one]
 done:=by
  intro X hP hw hK hc i pins s σ H E I hf st hg
  subst hP hw hK
  obtain ⟨f0,f1,f2,f3,f4,f5⟩:=hf it Z8
  exact wpAny_pyNext_range_end (I.ok.hd hc) st (by have:n<=i:=hg;omega) λh' eb=>⟨rfl,I.turned (t':=s.toks) (λb o hb e=>eb b o hb e) f0 f1 f3 f4 f5⟩
 self:=λ_ _ _ _ _ st h=>wpAny_pyIter_rangeiter st h
end L2
namespace L2
open PySem PySem.Spec PyProof.Rows
section
variable {X:Cx}{tg:Expr}
def lF (K:PySem.W.Frag)(tl:TE):TI:=λσ H R=>tl σ H λx H1=>∃a,x=.ref a/\(∃xs,aO K H1 a xs)/\R (BY K a) H1
def mO (K:PySem.W.Frag)(tl:TE):TI:=λσ H R=>tl σ H λx H1=>∃a,x=.ref a/\(∃xs,bo K H1 a xs)/\R (Cp K a) H1
def ID(i:PE X l g):PI X tg l (lF X.K g):=by
 intro c s j H R I h
 refine aQ (i c s j H _ I h) λv d ⟨x,k,f,m,n⟩=>?_
 obtain ⟨a,e,⟨w,r⟩,q⟩:=n
 subst e
 cases m
 obtain ⟨t,y,p,z⟩:=f.list r
 refine Mt p.isList ?_
 refine ⟨d.heap.objs.size,[d.heap.objs.size],_,_,k,rfl,f.kept (t':=d.toks) λb o e=>KO _ e,CT a _,⟨_,Lc _ rfl,rfl,rfl⟩,λb u=>?_,q⟩
 have e:b=d.heap.objs.size:=by simpa using u
 subst e
 exact f.gz (KR _) (f.aw.fresh (KR _))
def Dq(j:PE X l i):PI X tg l (mO X.K i):=by
 intro c s k H R I h
 refine aQ (j c s k H _ I h) λv d ⟨x,m,f,n,r⟩=>?_
 obtain ⟨a,e,⟨w,t⟩,q⟩:=r
 subst e
 cases n
 obtain ⟨g,y,p,z⟩:=f.tuple t
 refine NC (show d.heap.IsTuple a g.toArray from p) ?_
 refine ⟨d.heap.objs.size,[d.heap.objs.size],_,_,m,rfl,f.kept (t':=d.toks) λb o e=>KO _ e,El a _,⟨_,Lc _ rfl,rfl,rfl⟩,λb u=>?_,q⟩
 have e:b=d.heap.objs.size:=by simpa using u
 subst e
 exact f.gz (KR _) (f.aw.fresh (KR _))
def xc{R:It->Hp->Prop}{lo:Int}(I:Inv X c d H s)(h:-(2^62)<=lo)(i:lo<2^62)(j:-(2^62)<=a)(k:a<2^62)
  (q:R (tW lo (a-lo).toNat) H):wpAny (model X.prog X.w) X.A (pyIter (.ref s.heap.objs.size)) (yq X c d tg R) E {s with heap:=s.heap.push {cls:=.type "range",data:=.fields #[.int lo t,.int a u,.int 1 v]},toks:=f}:=by
 refine wpAny_pyIter_range (IsRange.new ..) (small_one h i j k) ?_
 have g:Inv X c d H {s with heap:=s.heap.push {cls:=.type "range",data:=.fields #[.int lo t,.int a u,.int 1 v]},toks:=f}:=I.kept λb o e=>KO _ e
 refine ⟨(s.heap.push {cls:=.type "range",data:=.fields #[.int lo t,.int a u,.int 1 v]}).objs.size,[(s.heap.push {cls:=.type "range",data:=.fields #[.int lo t,.int a u,.int 1 v]}).objs.size],_,_,H,rfl,
  g.kept (t':=f) λb o e=>KO _ e,Ge _ lo (a-lo).toNat,?_,λb l=>?_,q⟩
 .have m:lo+((0:Nat):Int)*1=lo:=by simp
  have n:(((a-lo).toNat:Nat):Int)-((0:Nat):Int)=Builtin.Range.rangeSize lo a 1:=by rw [rangeSize_one];split<;>omega
  show IsRangeIter _ _ (lo+((0:Nat):Int)*1) ((((a-lo).toNat:Nat):Int)-((0:Nat):Int)) 1
  rw [m,n]
  exact Lc _ rfl
 .have e:b=(s.heap.push {cls:=.type "range",data:=.fields #[.int lo t,.int a u,.int 1 v]}).objs.size:=by simpa using l
  subst e
  exact g.gz (KR _) (g.aw.fresh (KR _))
def wT (ta:TA):TI:=λσ H R=>ta σ H λvs H1=>∃j:Int,vs=[.int j]/\-(2^62)<=j/\j<2^62/\R (tW 0 j.toNat) H1
def uQ (ta:TA):TI:=λσ H R=>ta σ H λvs H1=>∃i j:Int,vs=[.int i,.int j]/\(-(2^62)<=i/\i<2^62/\-(2^62)<=j/\j<2^62)/\R (tW i (j-i).toNat) H1
def jH{a:Expr}(g:Gl X "range")(i:X.mg "range"=none)(k:PA X [a] f)(l:starEach [a] X.env=[(false,eval a X.env)]:=by rfl):PI X tg (.Call (.Name "range" p) [a] [] b) (wT f):=by
 intro c s m H R I h
 refine Call_ (ic I g i boot_range (LR (aQ (k b c s m H _ I h) λw x ⟨y,z,n,o,d⟩=>?_) l rfl))
 obtain ⟨j,e,d,u,q⟩:=d
 subst e
 cases o with
 |cons r v=>
  cases v
  obtain ⟨t,rfl⟩:=r
  exact call_range_1 (xc n Z6 Z6 d u (by simpa using q))
def HA(m:Gl X "range")(n:X.mg "range"=none)(o:PA X [a,b] l)(u:starEach [a,b] X.env=[(false,eval a X.env),(false,eval b X.env)]:=by rfl)(d:starEach [b] X.env=[(false,eval b X.env)]:=by rfl):
  PI X tg (.Call (.Name "range" p) [a,b] [] c) (uQ l):=by
 intro f s v H R I h
 refine Call_ (ic I m n boot_range (LR (aQ (o c f s v H _ I h) λC E ⟨G,J,w,x,g⟩=>?_) (by rw [u,d]) (by rw [d];rfl)))
 obtain ⟨i,j,e,⟨g,y,z,A⟩,q⟩:=g
 subst e
 cases x with
 |cons r k=>
  cases k with
  |cons B k=>
   cases k
   obtain ⟨t,rfl⟩:=r
   obtain ⟨L,rfl⟩:=B
   exact call_range_2 (xc w g y z A q)
def na (wi:TI)(g:TG)(tb:TS):TS:=λD σ H=>wi σ H λJ H1=>∃W:Nat->Nat->St->Hp->Prop,(∃m,W 0 m σ H1)/\∀i m σ H,W i m σ H->
 (J.stop i H/\D.nx σ H)\/(J.go i H/\∃N:St->Hp->Prop,(∀σ' H',N σ' H'->∃m',m'<m/\W (i+1) m' σ' H')/\∀x H',J.nk i H x H'->g x σ H' λσ2 H2=>tb {D with nx:=N,ct:=N,bk:=D.nx} σ2 H2)
def pJ (fp:List Addr)(h:Heap):List (Addr×Obj):=fp.filterMap λb=>(h.get? b).map λo=>(b,o)
def sR{a:List Addr}{h:Heap}(c:b∈a)(e:h.get? b=some o):(b,o)∈pJ a h:=ND.mpr ⟨b,c,by rw [e];rfl⟩
def Ix(c:p∈pJ a h):p.1∈a/\h.get? p.1=some p.2:=by
 obtain ⟨b,d,e⟩:=ND.mp c
 cases q:h.get? b with
 |none=>rw [q] at e;cases e
 |some o=>
  rw [q] at e
  have f:(b,o)=p:=K8 e
  subst f
  exact ⟨d,q⟩
def Inv.pinned{c:List Addr}(I:Inv X a f H s)(i:∀b∈c,ib X a H b)(j:∀b∈c,∃o,s.heap.get? b=some o/\∀v,o.data≠.cell v):Inv X (a++pJ c s.heap) f H s:=
 I.Ce λp k=>(Ld.mp k).elim (λz=>I.pin p (KW _ z)) λz=>by
  obtain ⟨g,e⟩:=Ix z
  obtain ⟨l,m,n,_⟩:=i p.1 g
  obtain ⟨o,h,d⟩:=j p.1 g
  rw [e] at h;cases h
  exact ⟨e,l,m,n,d⟩
def Inv.qf(I:Inv X (a++c) b H s):Inv X a b H s:=I.Ce λp d=>I.pin p (KW _ (K9 _ d))
def dh{iter:Expr}(E:PassesOwn (model X.prog X.w) X.A X.env X.xe)(hc:X.calm=true)(hi:PI X tg iter wi)(hg:PG X tg g)(j:gu X z tb)
  (hs:∀x,foldedSetIterable iter X.env x=pure x:=by intro _;rfl):PS X (.For tg iter z [] ac) (na wi g tb):=by
 intro a s σ H D I h
 refine wpAny_For (aQ (hi a s σ H _ I h) λv s1 h1=>aQ h1 λao s2 h2=>?_) hs
 obtain ⟨it,G,tn,J,H2,e,I2,T,af,f2,W,⟨m0,w0⟩,L⟩:=h2
 subst e
 have k:∀{y:Hp},(∀b∈G,y b=none)->∀b∈G,ib X a y b:=λhn b j=>⟨hn b j,(f2 b j).2⟩
 refine codeAny_forLoop_any (λn s'=>∃i l y,Inv X a l y s'/\tn i s'.heap/\(∀b∈G,y b=none)/\W i n l y) ?_ m0 ⟨0,σ,H2,I2,af,λb j=>(f2 b j).1,w0⟩
 rintro n s3 ⟨i,p,Y,I3,M,O,w3⟩
 rcases L i n p Y w3 with ⟨Q,qn⟩|⟨go,N,hN,step⟩
 .refine ML E (aQ (T.done X rfl rfl rfl hc i a s3 p Y X.xe I3 (k O) M Q) λr s4 ⟨hr,I4⟩=>?_)
  subst hr
  exact N9 ⟨p,Y,I4,qn⟩
 .refine ML E (aQ (T.item X rfl rfl rfl hc i a s3 p Y X.xe I3 (k O) M go) λr s4 ⟨u,hr,h4⟩=>?_)
  subst hr
  refine ML E (aQ h4 λ_ s5 ⟨x,H5,I5,r5,y5,C,aj⟩=>?_)
  have am:=I5.pinned (k aj) (T.obj _ _ C)
  refine ML E (aQ (hg _ s5 p H5 x u _ am r5 (step x H5 y5)) λ_ s6 ⟨an,H6,I6,q6⟩=>?_)
  refine ML E (aQ (j _ s6 an H6 _ I6 q6) λf s7 B=>?_)
  have again:∀{c:St} {q:Hp},Inv X (a++pJ G s5.heap) c q s7->N c q->∃m,m<n/\∃i l y,Inv X a l y s7/\tn i s7.heap/\(∀b∈G,y b=none)/\W i m l y:=λ{c q} t U=>by
   obtain ⟨m',hm,w7⟩:=hN c q U
   refine ⟨m',hm,i+1,c,q,t.qf,T.keep _ _ _ C λb j o e=>(t.pin (b,o) (KW _ (KW _ (sR j e)))).1,λb j=>?_,w7⟩
   obtain ⟨o,e,d⟩:=T.obj _ _ C b j
   exact (t.pin (b,o) (KW _ (KW _ (sR j e)))).2.1
  cases f with
  |next=>obtain ⟨c,q,t,U⟩:=B;exact again t U
  |cont=>obtain ⟨c,q,t,U⟩:=B;exact again t U
  |brk=>obtain ⟨c,q,t,B⟩:=B;exact ⟨c,q,t.qf,B⟩
  |ret v=>obtain ⟨x7,c,q,t,r7,B⟩:=B;exact ⟨x7,c,q,t.qf,r7,B⟩
end
end L2
namespace L2
open PySem PySem.Spec PyProof.Rows
abbrev R2:=V->V->Hp->VK->Prop
def cD (X:Cx)(f:Value->Value->Sem Value)(r:R2):Prop:=
 ∀(pins:List (Addr×Obj)) (s:Shared) (σ:St) (H:Hp) (x y:V) (v u:Value) (Q:VK),Inv X pins σ H s->RelV x v->RelV y u->r x y H Q->
  wpAny (model X.prog X.w) X.A (f v u) (EP X pins σ Q) X.xe s
def uI (X:Cx)(f:Value->Sem Value)(r:V->Hp->VK->Prop):Prop:=
 ∀(pins:List (Addr×Obj)) (s:Shared) (σ:St) (H:Hp) (x:V) (v:Value) (Q:VK),Inv X pins σ H s->RelV x v->r x H Q->
  wpAny (model X.prog X.w) X.A (f v) (EP X pins σ Q) X.xe s
def h9 (X:Cx)(f:Value)(r:List V->Hp->VK->Prop):Prop:=
 ∀(pins:List (Addr×Obj)) (s:Shared) (σ:St) (H:Hp) (xs:List V) (us:List Value) (Q:VK),Inv X pins σ H s->a9 xs us->r xs H Q->
  wpAny (model X.prog X.w) X.A (call f us) (EP X pins σ Q) X.xe s
def Eh (X:Cx)(r:V->Hp->(Bool->Hp->Prop)->Prop):Prop:=
 ∀(pins:List (Addr×Obj)) (s:Shared) (σ:St) (H:Hp) (x:V) (v:Value) (Q:Bool->Hp->Prop),Inv X pins σ H s->RelV x v->r x H Q->
  wpAny (model X.prog X.w) X.A (truthy v) (TP X pins σ Q) X.xe s
def bz (r:R2)(ta tb:TE):TE:=λσ H Q=>ta σ H λx H1=>tb σ H1 λy H2=>r x y H2 Q
def z7 (r:V->Hp->VK->Prop)(ta:TE):TE:=λσ H Q=>ta σ H λx H1=>r x H1 Q
def rI (C:Int->Int->Prop)(g:Int->Int->V):R2:=λx y H Q=>∃i j,x=.int i/\y=.int j/\C i j/\Q (g i j) H
def fZ (g:Int->Int->V):R2:=λx y H Q=>∃i j,x=.int i/\y=.int j/\Q (g i j) H
def rU (g:Int->V):V->Hp->VK->Prop:=λx H Q=>∃i,x=.int i/\Q (g i) H
section
variable {X:Cx}{a b c:Expr}{ta tb tc:TE}{pos:Pos}
def vX(m:PE X a ta)(n:PE X b tb){R:V->V->Hp->Prop}(I:Inv X d e H s)
  (h:ta e H λx l=>tb e l λy g=>R x y g)  {f:Value->Value->Sem Value}
  (o:∀v u k x y g,Inv X d e g k->RelV x v->RelV y u->R x y g->wpAny (model X.prog X.w) X.A (f v u) Q X.xe k):
  wpAny (model X.prog X.w) X.A (eval a X.env) (λv i=>wpAny (model X.prog X.w) X.A (eval b X.env) (λu j=>wpAny (model X.prog X.w) X.A (f v u) Q X.xe j) X.xe i) X.xe s:=by
 refine aQ (m d s e H _ I h) λv p ⟨x,l,q,r,t⟩=>?_
 refine aQ (n d p e l _ q t) λu k ⟨y,g,z,B,C⟩=>?_
 exact o v u k x y g z r B C
def cj(f:cD X (binaryOp e) r)(g:PE X a ta)(i:PE X b tb):PE X (.BinOp a e b pos) (bz r ta tb):=by
 intro d s j H Q I h
 exact wpAny_BinOp (vX g i I h λv u k x y l m n o q=>f d k j l x y v u Q m n o q)
def kO(g:uI X (unaryOp e) r)(i:PE X a ta):PE X (.UnaryOp e a pos) (z7 r ta):=by
 intro d s f H Q I h
 exact UnaryOp_ (aQ (i d s f H _ I h) λv j ⟨x,k,l,m,n⟩=>g d j f k x v Q l m n)
def qU {f:Value->Value->Sem Value}{C:Int->Int->Prop}{g:Int->Int->Int}
  (rule:∀(i j:Int) (t u:Tok) (s:Shared) (Q:Value->Shared->Prop) (E:Value->Shared->Prop),C i j->Q (.int (g i j) s.toks) {s with toks:=s.toks+1}->wpAny (model X.prog X.w) X.A (f (.int i t) (.int j u)) Q E s):
  cD X f (rI C λi j=>.int (g i j)):=by
 intro d s n H x y v u Q I e k h
 obtain ⟨i,j,rfl,rfl,l,q⟩:=h
 obtain ⟨t,rfl⟩:=e
 obtain ⟨m,rfl⟩:=k
 exact rule i j t m s _ _ l ⟨.int (g i j),H,I.tok _,⟨_,rfl⟩,q⟩
def yE {f:Value->Value->Sem Value}{g:Int->Int->Int}
  (rule:∀(i j:Int) (t u:Tok) (s:Shared) (Q:Value->Shared->Prop) (E:Value->Shared->Prop),Q (.int (g i j) s.toks) {s with toks:=s.toks+1}->wpAny (model X.prog X.w) X.A (f (.int i t) (.int j u)) Q E s):
  cD X f (fZ λi j=>.int (g i j)):=by
 intro d s m H x y v u Q I e k h
 obtain ⟨i,j,rfl,rfl,q⟩:=h
 obtain ⟨t,rfl⟩:=e
 obtain ⟨l,rfl⟩:=k
 exact rule i j t l s _ _ ⟨.int (g i j),H,I.tok _,⟨_,rfl⟩,q⟩
def vY {f:Value->Value->Sem Value}{g:Int->Int->Bool}
  (rule:∀(i j:Int) (t u:Tok) (s:Shared) (Q:Value->Shared->Prop) (E:Value->Shared->Prop),Q (.bool (g i j)) s->wpAny (model X.prog X.w) X.A (f (.int i t) (.int j u)) Q E s):
  cD X f (fZ λi j=>.bl (g i j)):=by
 intro d s m H x y v u Q I e k h
 obtain ⟨i,j,rfl,rfl,q⟩:=h
 obtain ⟨t,rfl⟩:=e
 obtain ⟨l,rfl⟩:=k
 exact rule i j t l s _ _ ⟨.bl (g i j),H,I,rfl,q⟩
def va (i j:Int):Prop:=0<j/\j<1073741824
def uH (i j:Int):Prop:=0<=j/\j<=1000000/\i.natAbs<2^64
def lU (i j:Int):Prop:=(-(2^64)<i/\i<2^64)\/(-(2^64)<j/\j<2^64)
def lU.ok(h:lU i j):IntMulOk i j:=by
 rcases h with ⟨d,e⟩|⟨d,e⟩
 .exact .of_left (intBits_le_64 d e)
 .exact .of_right (intBits_le_64 d e)
def iZ:cD X (binaryOp .Add) (fZ λi j=>.int (i+j)):=yE λ_ _ _ _ _ _ _ q=>add_int q
def Fo:cD X (binaryOp .Sub) (fZ λi j=>.int (i-j)):=yE λ_ _ _ _ _ _ _ q=>sub_int q
def yP:cD X (binaryOp .Mult) (rI lU λi j=>.int (i*j)):=qU λ_ _ _ _ _ _ _ d q=>mul_int q d.ok
def fM:cD X (binaryOp .FloorDiv) (rI va λi j=>.int (i/j)):=qU λi j _ _ _ _ _ d q=>by
 have e:(0:Int)<j:=d.1
 have f:j<1073741824:=d.2
 exact floordiv_int Z6 (by rw [Int.fdiv_eq_ediv_of_nonneg i Z6];exact q) (.inl (PyProof.noPylong_small Z6))
def d8:cD X (binaryOp .Mod) (rI (λ_ j=>0<j) λi j=>.int (i%j)):=qU λi j _ _ _ _ _ d q=>by
 have e:(0:Int)<j:=d
 exact mod_int' Z6 (by rw [Int.fmod_eq_emod_of_nonneg i Z6];exact q)
def FR:cD X (binaryOp .Pow) (rI uH λi j=>.int (i^j.toNat)):=qU λ_ _ _ _ _ _ _ d q=>pow_int_small d.1 d.2.1 d.2.2 q
def DW {f:Value->Sem Value}{g:Int->Int}
  (rule:∀(i:Int) (t:Tok) (s:Shared) (Q:Value->Shared->Prop) (E:Value->Shared->Prop),Q (.int (g i) s.toks) {s with toks:=s.toks+1}->wpAny (model X.prog X.w) X.A (f (.int i t)) Q E s):
  uI X f (rU λi=>.int (g i)):=by
 intro d s j H x v Q I e h
 obtain ⟨i,rfl,q⟩:=h
 obtain ⟨t,rfl⟩:=e
 exact rule i t s _ _ ⟨.int (g i),H,I.tok _,⟨_,rfl⟩,q⟩
def kM:uI X (unaryOp .USub) (rU λi=>.int (-i)):=DW λ_ _ _ _ _ q=>neg_int q
end
def vn:V->V->Bool
 |.av,.av=>true|.av,.int _=>true|.int _,.av=>true|.av,.bl _=>true|.bl _,.av=>true|.av,.str _=>true|.str _,.av=>true
 |.int _,.int _=>true|.bl _,.bl _=>true|.str _,.str _=>true|.gk _,.gk _=>true
 |.int _,.str _=>true|.str _,.int _=>true|.bl _,.str _=>true|.str _,.bl _=>true
 |_,_=>false
def qW:R2:=λx y H Q=>vn x y=true/\Q (.bl (decide (x=y))) H
def kf:R2:=λx y H Q=>vn x y=true/\Q (.bl (!decide (x=y))) H
def BZ:decide (V.int i=V.int j)=(i==j):=by
 rw [LD]
 simp
def Bm:decide (V.bl i=V.bl j)=(i==j):=by
 rw [LD]
 simp
def AT:decide (V.str i=V.str j)=(i==j):=by
 rw [LD]
 simp
def y9:decide (V.gk i=V.gk j)=(i.toList==j.toList):=by
 rw [LD]
 cases i
 cases j
 simp
section
variable {X:Cx}{a b c:Expr}{ta tb tc:TE}{pos:Pos}
def cP{Q:VK}(I:Inv X d f H s)(q:Q (.bl k) H)(e:k=g):EP X d f Q (.bool g) s:=by
 subst e
 exact ⟨.bl k,H,I,rfl,q⟩
def wZ:cD X (compareOp .Eq) qW:=by
 intro k s l H x y v u Q I g d h
 obtain ⟨f,q⟩:=h
 cases x with
 |av=>
  cases g
  cases y with
  |av=>cases d;exact PySem.EqNone.eq_none_none (cP I q Z8)
  |bl j=>cases d;exact PySem.EqNone.eq_none_bool (cP I q Z8)
  |int j=>obtain ⟨e,rfl⟩:=d;exact PySem.EqNone.eq_none_int (cP I q Z8)
  |str j=>obtain ⟨e,rfl⟩:=d;exact PySem.EqNone.eq_none_str (cP I q Z8)
  |_=>exact absurd (show false=true from f) K0
 |bl i=>
  cases g
  cases y with
  |av=>cases d;exact PySem.EqNone.eq_bool_none (cP I q Z8)
  |bl j=>cases d;exact eq_bool (cP I q Bm)
  |str j=>obtain ⟨e,rfl⟩:=d;exact PySem.EqMixed.eq_bool_str (cP I q Z8)
  |_=>exact absurd (show false=true from f) K0
 |int i=>
  obtain ⟨t,rfl⟩:=g
  cases y with
  |av=>cases d;exact PySem.EqNone.eq_int_none (cP I q Z8)
  |int j=>obtain ⟨e,rfl⟩:=d;exact eq_int (cP I q BZ)
  |str j=>obtain ⟨e,rfl⟩:=d;exact PySem.EqMixed.eq_int_str (cP I q Z8)
  |_=>exact absurd (show false=true from f) K0
 |str i=>
  obtain ⟨t,rfl⟩:=g
  cases y with
  |av=>cases d;exact PySem.EqNone.eq_str_none (cP I q Z8)
  |bl j=>cases d;exact PySem.EqMixed.eq_str_bool (cP I q Z8)
  |int j=>obtain ⟨e,rfl⟩:=d;exact PySem.EqMixed.eq_str_int (cP I q Z8)
  |str j=>obtain ⟨e,rfl⟩:=d;exact eq_str (cP I q AT)
  |_=>exact absurd (show false=true from f) K0
 |gk i=>
  obtain ⟨t,rfl⟩:=g
  cases y with
  |gk j=>obtain ⟨e,rfl⟩:=d;exact PySem.W.eq_bytes (cP I q y9)
  |_=>exact absurd (show false=true from f) K0
 |_=>cases y<;>exact absurd (show false=true from f) K0
def Br:cD X (compareOp .NotEq) kf:=by
 intro k s l H x y v u Q I g d h
 obtain ⟨f,q⟩:=h
 cases x with
 |av=>
  cases g
  cases y with
  |av=>cases d;exact PySem.EqNone.ne_none_none (cP I q Z8)
  |bl j=>cases d;exact PySem.EqNone.ne_none_bool (cP I q Z8)
  |int j=>obtain ⟨e,rfl⟩:=d;exact PySem.EqNone.ne_none_int (cP I q Z8)
  |str j=>obtain ⟨e,rfl⟩:=d;exact PySem.EqNone.ne_none_str (cP I q Z8)
  |_=>exact absurd (show false=true from f) K0
 |bl i=>
  cases g
  cases y with
  |av=>cases d;exact PySem.EqNone.ne_bool_none (cP I q Z8)
  |bl j=>cases d;exact ne_bool (cP I q (LL not Bm))
  |str j=>obtain ⟨e,rfl⟩:=d;exact PySem.EqMixed.ne_bool_str (cP I q Z8)
  |_=>exact absurd (show false=true from f) K0
 |int i=>
  obtain ⟨t,rfl⟩:=g
  cases y with
  |av=>cases d;exact PySem.EqNone.ne_int_none (cP I q Z8)
  |int j=>obtain ⟨e,rfl⟩:=d;exact ne_int (cP I q (LL not BZ))
  |str j=>obtain ⟨e,rfl⟩:=d;exact PySem.EqMixed.ne_int_str (cP I q Z8)
  |_=>exact absurd (show false=true from f) K0
 |str i=>
  obtain ⟨t,rfl⟩:=g
  cases y with
  |av=>cases d;exact PySem.EqNone.ne_str_none (cP I q Z8)
  |bl j=>cases d;exact PySem.EqMixed.ne_str_bool (cP I q Z8)
  |int j=>obtain ⟨e,rfl⟩:=d;exact PySem.EqMixed.ne_str_int (cP I q Z8)
  |str j=>obtain ⟨e,rfl⟩:=d;exact ne_str (cP I q (LL not AT))
  |_=>exact absurd (show false=true from f) K0
 |gk i=>
  obtain ⟨t,rfl⟩:=g
  cases y with
  |gk j=>obtain ⟨e,rfl⟩:=d;exact PySem.W.ne_bytes (cP I q (LL not y9))
  |_=>exact absurd (show false=true from f) K0
 |_=>cases y<;>exact absurd (show false=true from f) K0
def jE:cD X (compareOp .Lt) (fZ λi j=>.bl (decide (i<j))):=vY λ_ _ _ _ _ _ _ q=>lt_int q
def oR:cD X (compareOp .Gt) (fZ λi j=>.bl (decide (j<i))):=vY λ_ _ _ _ _ _ _ q=>gt_int q
def rB:cD X (compareOp .GtE) (fZ λi j=>.bl (decide (j<=i))):=vY λ_ _ _ _ _ _ _ q=>ge_int q
def GL:cD X (compareOp .Is) (λx y H Q=>y=.av/\Q (.bl (decide (x=.av))) H):=by
 intro d s g H x y v u Q I e f h
 obtain ⟨rfl,q⟩:=h
 cases f
 refine is_none_gen (cP I q ?_)
 cases x<;>first
  |(cases e;rfl)
  |(obtain ⟨t,rfl⟩:=e;rfl)
def Am:cD X (compareOp .IsNot) (λx y H Q=>y=.av/\Q (.bl (!decide (x=.av))) H):=by
 intro d s g H x y v u Q I e f h
 obtain ⟨rfl,q⟩:=h
 cases f
 refine isnot_none_gen (cP I q ?_)
 cases x<;>first
  |(cases e;rfl)
  |(obtain ⟨t,rfl⟩:=e;rfl)
def cD.or(h:cD X f r)(k:cD X f e):cD X f (λx y H Q=>r x y H Q\/e x y H Q):=by
 intro d s g H x y v u Q I i j q
 rcases q with q|q
 .exact h d s g H x y v u Q I i j q
 .exact k d s g H x y v u Q I i j q
def xj(b:Expr)(h:d≠.In:=by decide)(e:d≠.NotIn:=by decide):behindInMarks d b=false:=by
 have f:(d==CmpOp.In)=false:=by cases d<;>first|rfl|exact absurd rfl h
 have g:(d==CmpOp.NotIn)=false:=by cases d<;>first|rfl|exact absurd rfl e
 cases b<;>simp [behindInMarks,f,g]
def JU(f:cD X (compareOp e) r)(g:PE X a ta)(i:PE X b tb)(j:behindInMarks e b=false):PE X (.Compare a [e] [b] pos) (bz r ta tb):=by
 intro d s k H Q I h
 exact wpAny_Compare1 (vX g i I h λv u l x y m n o p q=>f d l k m x y v u Q n o p q) j
def m4 (t:TE):TT:=λσ H Q=>t σ H λx H'=>∃k,x=.bl k/\Q k H'
def HS(i:cD X (compareOp f) r)(j:PE X a ta)(l:PE X b tb)(m:behindInMarks f b=false):PT X (.Compare a [f] [b] pos) (m4 (bz r ta tb)):=by
 intro d s g H Q I h
 refine wpAny_isTrue_Compare1 (aQ (j d s g H _ I h) λv n ⟨x,o,p,q,t⟩=>aQ (l d n g o _ p t) λu w ⟨y,A,B,C,E⟩=>
  aQ (i d w g A x y v u _ B q C E) λc N ⟨z,G,J,L,k,e,M⟩=>?_) m
 subst e
 cases L
 exact Ma ⟨G,J,M⟩
def sj (K:PySem.W.Frag)(x:V)(H:Hp)(k:Bool):Prop:=
 match x with
 |.av=>k=false
 |.bl b=>k=b
 |.int i=>k=(i !=0)
 |.str y=>y.length<=sizeLine/\k=((y.length:Int) !=0)
 |.gk y=>y.size<=sizeLine/\k=((y.size:Int) !=0)
 |.ref p=>(∃xs,aO K H p xs/\k= !xs.isEmpty)\/(∃xs,bo K H p xs/\k= !xs.isEmpty)\/∃kvs,H p=some (.dK kvs)/\k= !kvs.isEmpty
 |_=>False
def JP(r:KV d f):(!f.isEmpty)= !d.isEmpty:=by
 cases r<;>rfl
def A3(r:a9 e d):(!d.toArray.isEmpty)= !e.isEmpty:=by
 cases r<;>simp
def pr:(sizeLine:Nat)<2^63:=by rw [OF];decide
def Gp:Eh X (λx H Q=>∃k,sj X.K x H k/\Q k H):=by
 intro A s G H x v Q I l h
 obtain ⟨k,e,q⟩:=h
 have J:=pr
 have L:sizeLine=16777216:=OF
 cases x with
 |av=>
  cases l
  have d:k=false:=e
  subst d
  exact truthy_none ⟨H,I,q⟩
 |bl b=>
  cases l
  have d:k=b:=e
  subst d
  exact Ma ⟨H,I,q⟩
 |int i=>
  obtain ⟨t,rfl⟩:=l
  have d:k=(i !=0):=e
  subst d
  exact PySem.P.truthy_int ⟨H,I,q⟩
 |str y=>
  obtain ⟨t,rfl⟩:=l
  obtain ⟨C,d⟩:y.length<=sizeLine/\k=((y.length:Int) !=0):=e
  subst d
  exact PySem.P.truthy_str Z6 ⟨H,I.tok _,q⟩
 |gk y=>
  obtain ⟨t,rfl⟩:=l
  obtain ⟨C,d⟩:y.size<=sizeLine/\k=((y.size:Int) !=0):=e
  subst d
  exact PySem.W.truthy_bytes Z6 ⟨H,I.tok _,q⟩
 |ref p=>
  cases l
  have d:(∃j,aO X.K H p j/\k= !j.isEmpty)\/(∃j,bo X.K H p j/\k= !j.isEmpty)\/∃f,H p=some (.dK f)/\k= !f.isEmpty:=e
  rcases d with ⟨j,n,d⟩|⟨j,n,d⟩|⟨f,n,d⟩
  .subst d
   obtain ⟨u,r,z,B⟩:=I.list n
   have g:=r.length
   exact wpAny_truthy_list z.isList (by simp only [Lb];omega) ⟨H,I.tok _,by rw [A3 r];exact q⟩
  .subst d
   obtain ⟨u,r,z,B⟩:=I.tuple n
   have g:=r.length
   exact truthy_tuple z (by simp only [Lb];omega) ⟨H,I.tok _,by rw [A3 r];exact q⟩
  .subst d
   obtain ⟨B,E,o,r,m⟩:f.length<=sizeLine/\(p==sysModules)=false/\∃o,KV f o/\s.heap.DictOf (dq X.prog X.w) p o:=I.aw p _ n
   have g:f.length=o.length:=MC r
   exact wpAny_truthy_dict E m Z6 ⟨H,I.tok _,by rw [JP r];exact q⟩
 |_=>exact (show False from e).elim
def Be (g:PE X a ta)(i:∀fX,isTrue a X.env fX=(do let v<-fX;standAt a.pos;holding [v] (truthy v))):
  PT X a (λe H Q=>ta e H λx f=>∃k,sj X.K x f k/\Q k f):=by
 intro d s e H Q I h
 exact isTrue_plain (aQ (g d s e H _ I h) λv j ⟨x,l,m,n,o⟩=>Gp d j e l x v Q m n o) (i _)
def OU{x:V}(r:a9 [x] d):∃u,d=[u]/\RelV x u:=by
 cases r with
 |cons e f=>cases f;exact ⟨_,rfl,e⟩
def vals2(r:a9 [x,y] d):∃u e,d=[u,e]/\RelV x u/\RelV y e:=by
 cases r with
 |cons f g=>
  cases g with
  |cons h i=>cases i;exact ⟨_,_,rfl,f,h⟩
end
end L2
namespace L2
open PySem PySem.Spec PyProof.Rows
structure lP (h:Heap)(x dx C:Addr)(mA:Str->Option Value):Prop where
 obj:h.get? x=some (PySem.W.instObj C dx)
 ns:h.Ns1 dx mA
 ne:dx≠x
def Jy{h:Heap}(n:h.Ns1 c d):∃f,h.get? c=some f/\∀name,PySem.W.lookIn name f=some (d name):=by
 obtain ⟨o,g,r,i,j,k,_,l⟩:=n
 refine ⟨o,i,λname=>?_⟩
 have e:=l name
 unfold nsFind findBy at e
 rw [<-Array.find?_toList] at e
 unfold PySem.W.lookIn
 rw [j]
 dsimp only
 split
 .rename_i y q
  rw [q] at e
  exact LL some e
 .rename_i q
  rw [q] at e
  have a:g.toList.any (·.refKey)=false:=by
   rw [List.any_eq_false]
   intro y m
   obtain ⟨z,t,b⟩:=k y (Array.mem_toList_iff.mp m)
   simp [DictEntry.refKey,b]
  have p:¬g.toList.any (·.refKey)=true:=by rw [a];exact K0
  rw [KS p]
  exact LL some e
def lP.look(I:lP h x b C c):∃a,PySem.W.InstAt h x (PySem.W.instObj C b) C (some a)/\∀name,PySem.W.lookIn name a=some (c name):=
 let ⟨a,d,e⟩:=Jy I.ns
 ⟨a,⟨I.obj,rfl,rfl,d⟩,e⟩
section
variable {prog:Program}{w:World}{A:Around}{E:Value->Shared->Prop}{s:Shared}{K:PySem.W.Frag}{x dx C f:Addr}{mA:Str->Option Value}{name:Str}{v:Value}
def JT{Q:Value->Shared->Prop}(X:K.In s.heap)(I:lP s.heap x dx C mA)(c:PySem.W.plainGet K C name=true)(d:PySem.W.hasDictIn K C=true)
  (e:PySem.W.findIn K (.ref C) name=some none) (g:mA name=some v) (b:PySem.W.handedIn v=true) (h:Q v {s with toks:=s.toks+1}):
  wpAny (model prog w) A (getAttr (.ref x) name a) Q E s:=by
 obtain ⟨j,J,i⟩:=I.look
 exact PySem.W.get_value X J (Oi c).1 (PySem.W.findObj_own d e rfl (by rw [i,g])) b h
def Ey{Q:Value×List Value->Shared->Prop}(X:K.In s.heap)(I:lP s.heap x dx C mA)(a:PySem.W.plainGet K C name=true)
  (c:PySem.W.findIn K (.ref C) name=some (some (.ref f))) (d:PySem.W.isFn K (.ref f)=true) (e:mA name=none) (h:Q (.ref f,[.ref x]) s):
  wpAny (model prog w) A (getMethod (.ref x) name b) Q E s:=by
 obtain ⟨g,J,i⟩:=I.look
 exact PySem.W.method_fn X J (Oi a).1 (Oi a).2 c (NE.mp d) (by show (PySem.W.lookIn name g).map (·.isSome)=some false;rw [i,e];rfl) h
def GJ{Q:Unit->Shared->Prop}(X:K.In s.heap)(I:lP s.heap x dx C mA)
  (m:PySem.W.findIn K (.ref C) "__setattr__"=some (some (.builtin "object.__setattr__"))) (n:PySem.W.plainOver K C=true) (o:PySem.W.takerIn K C name=some none) (p:PySem.W.hasDictIn K C=true)
  (q:PySem.Within mA l) (t:l.length<=sizeLine)
  (h:∀e,lP e x dx C (λy=>if y=name then some v else mA y)->Heap.SameBut dx s.heap e->Q () {s with heap:=e,toks:=s.toks+2}):
  wpAny (model prog w) A (setAttr (.ref x) name v) Q E s:=by
 obtain ⟨H,J,L⟩:=I.look
 refine PySem.W.set_plain X J m (PySem.W.osa_open (s:={s with toks:=s.toks+1}) (r:=none) X J n o λb=>?_)
 obtain ⟨M,u,g⟩:=PySem.W.any_some p
 have z:s.heap.get? x=some ⟨.ref C,some dx,.plain, #[]⟩:=I.obj
 refine KI (K5 (KI (KI (wpAny_loadPart z (KI (PySem.W.Looks.here (s:={s with toks:=s.toks+1}) (PySem.W.looks_clsIn X u) ?_))))))
 rw [g]
 refine K5 (a:=some dx) (KI (K5 (KI ?_)))
 refine wpAny_nsSet1 (s:={s with toks:=s.toks+1}) I.ns λe c d=>?_
 obtain ⟨N,B,G,i,j,k⟩:=c.count (PySem.Within.cons name v q)
 refine KI (wpAny_lookBehind i (by rw [j];exact pastItsLine_dict (Lk k (by rw [Lr];omega))) ?_)
 exact K5 (h _ ⟨(d.2 _ (LN I.ne)).trans I.obj,c,I.ne⟩ d)
def Hv(X:K.In s.heap)(e:PySem.W.makesIn K C=true)
  (i:PySem.W.findIn K (.ref C) "__init__"=some (some (.ref f))) (j:PySem.W.typeIn K (.ref f)=some (.type "function"))
  (h:codeAny (model prog w) (A.under (.builtin "type.__call__" ⟨.ref C::b,c⟩)) (.call (.ref f) ⟨.ref (s.heap.objs.size+1)::b,c⟩) (PySem.W.InitBack (s.heap.objs.size+1) R)
   {s with heap:=(s.heap.push PySem.W.emptyDict).push (PySem.W.instObj C s.heap.objs.size)}):
  codeAny (model prog w) A (.call (.ref C) ⟨b,c⟩) R s:=by
 obtain ⟨k,g,d,t,os⟩:=s
 exact PySem.W.make_core (PySem.W.makes_of X e) (PySem.W.looks_findIn X i) (λa=>PySem.W.bind_fn X a j) (.inl rfl) h
end
def cM (f:Str)(v:V):List (Str×V)->List (Str×V)
 |[]=>[(f,v)]
 |(g,x)::r=>if g=f then (g,v)::r else (g,x)::cM f v r
def yW (f g:Str)(v:V):∀c:List (Str×V),(cM f v c).lookup g=if g=f then some v else c.lookup g
 |[]=>by
  show List.lookup g [(f,v)]=_
  by_cases h:g=f
  .have a:(g==f)=true:=NE.mpr h
   simp only [List.lookup,a,K4 h]
  .have a:(g==f)=false:=L0.mpr h
   simp only [List.lookup,a,KS h]
 |(k,x)::r=>by
  have d:=yW f g v r
  rw [show cM f v ((k,x)::r)=(if k=f then (k,v)::r else (k,x)::cM f v r) from rfl]
  by_cases b:k=f
  .rw [K4 b]
   by_cases h:g=k
   .have a:(g==k)=true:=NE.mpr h
    simp only [List.lookup,a,K4 (h.trans b)]
   .have a:(g==k)=false:=L0.mpr h
    simp only [List.lookup,a,KS (λe:g=f=>h (e.trans b.symm))]
  .rw [KS b]
   by_cases h:g=k
   .have a:(g==k)=true:=NE.mpr h
    simp only [List.lookup,a,KS (λe:g=f=>b (h.symm.trans e))]
   .have a:(g==k)=false:=L0.mpr h
    simp only [List.lookup,a]
    exact d
def uh (f:Str)(v:V):∀a:List (Str×V),f∈(cM f v a).map (·.1)/\∀g,g∈a.map (·.1)->g∈(cM f v a).map (·.1)
 |[]=>⟨by simp [cM],λg h=>by simp at h⟩
 |(k,x)::r=>by
  obtain ⟨c,d⟩:=uh f v r
  rw [show cM f v ((k,x)::r)=(if k=f then (k,v)::r else (k,x)::cM f v r) from rfl]
  by_cases b:k=f
  .rw [K4 b]
   subst b
   exact ⟨by simp,λg h=>by simpa using h⟩
  .rw [KS b]
   refine ⟨?_,λg h=>?_⟩
   .rw [LB]
    exact KG _ c
   .rw [LB] at h⊢
    rcases KY.mp h with e|e
    .exact KY.mpr (.inl e)
    .exact KG _ (d g e)
def yZ (f:Str)(v:V):∀a:List (Str×V),(cM f v a).length<=a.length+1
 |[]=>by simp [cM]
 |(k,x)::r=>by
  have c:=yZ f v r
  rw [show cM f v ((k,x)::r)=(if k=f then (k,v)::r else (k,x)::cM f v r) from rfl]
  by_cases b:k=f
  .rw [K4 b,Lr,Lr];omega
  .rw [KS b,Lr,Lr];omega
def eE.some_of(r:eE (some v) o):∃u,o=some u/\RelV v u:=by
 cases o with
 |none=>exact (show False from r).elim
 |some u=>exact ⟨u,rfl,r⟩
def eE.none_of(r:eE none o):o=none:=by
 cases o with
 |none=>rfl
 |some u=>exact (show False from r).elim
def J0(r:RelV v u):PySem.W.handedIn u=true:=by
 cases v with
 |av=>cases (show u=Value.none from r);rfl
 |bl b=>cases (show u=Value.bool b from r);rfl
 |int i=>obtain ⟨t,e⟩:=(show∃t,u=Value.int i t from r);cases e;rfl
 |str x=>obtain ⟨t,e⟩:=(show∃t,u=Value.str x t from r);cases e;rfl
 |gk b=>obtain ⟨t,e⟩:=(show∃t,u=Value.bytes b t from r);cases e;rfl
 |mD b=>obtain ⟨t,e⟩:=(show∃t,u=Value.float b t from r);cases e;rfl
 |ref a=>cases (show u=Value.ref a from r);rfl
 |ty n=>cases (show u=Value.type n from r);rfl
section
variable {P:Program}{w:World}{H H':Hp}{h h':Heap}{a C dx:Addr}{fs fs':List (Str×V)}
def rD (aw:cT P w H h)(e:H a=some (.ins C dx fs)):∃b,lP h a dx C b/\(∀f,eE (fs.lookup f) (b f))/\PySem.Within b (fs.map (·.1))/\fs.length<=1000/\H dx=some (.own a):=by
 obtain ⟨d,z,c,g,b,n,r,q⟩:=(show bP P w H h a (.ins C dx fs) from aw a _ e)
 exact ⟨b,⟨g,n,c⟩,r,q,z,d⟩
end
structure dk (K:PySem.W.Frag)(C:Addr):Prop where
 pg:PySem.W.plainGet K C Str.empty=true
 hd:PySem.W.hasDictIn K C=true
 po:PySem.W.plainOver K C=true
 sa:PySem.W.findIn K (.ref C) "__setattr__"=some (some (.builtin "object.__setattr__"))
def dk.get{K:PySem.W.Frag}(c:dk K C)(f:Str):PySem.W.plainGet K C f=true:=c.pg
def bO (K:PySem.W.Frag)(C:Addr)(f:Str):Prop:=PySem.W.findIn K (.ref C) f=some none
def bO.EM{K:PySem.W.Frag}(n:bO K C f):PySem.W.takerIn K C f=some none:=by
 unfold PySem.W.takerIn
 rw [show PySem.W.findIn K (.ref C) f=some none from n]
 rfl
structure c6 (K:PySem.W.Frag)(C:Addr)(m:Str)(f:Addr):Prop where
 at_:PySem.W.findIn K (.ref C) m=some (some (.ref f))
 fn:PySem.W.isFn K (.ref f)=true
 kp:PySem.W.keepIn K (.ref f)=true
section
variable {X:Cx}{pins:List (Addr×Obj)}{σ:St}{H:Hp}{s:Shared}{a C dx:Addr}{fs:List (Str×V)}{f:Str}{v:V}{A:Around}{E:Value->Shared->Prop}
def Kv{Q:Value->Shared->Prop}(I:Inv X pins σ H s)(e:H a=some (.ins C dx fs))(c:dk X.K C)(n:bO X.K C f)(l:fs.lookup f=some v)
  (h:∀u d,Inv X pins σ H d->RelV v u->Q u d):wpAny (model X.prog X.w) A (getAttr (.ref a) f b) Q E s:=by
 obtain ⟨i,O,r,_,_,_⟩:=rD I.aw e
 obtain ⟨u,j,g⟩:=eE.some_of (v:=v) (o:=i f) (by rw [<-l];exact r f)
 exact JT I.cZ O (c.get f) c.hd n j (J0 g) (h u _ (I.tok _) g)
def yC{Q:Value×List Value->Shared->Prop}(I:Inv X pins σ H s)(e:H a=some (.ins C dx fs))(c:dk X.K C)(k:c6 X.K C m g)(l:fs.lookup m=none)
  (h:Q (.ref g,[.ref a]) s):wpAny (model X.prog X.w) A (getMethod (.ref a) m b) Q E s:=by
 obtain ⟨d,O,r,_,_,_⟩:=rD I.aw e
 have i:d m=none:=eE.none_of (by rw [<-l];exact r m)
 exact Ey I.cZ O (c.get m) k.at_ k.fn i h
def Dd{Q:Unit->Shared->Prop}(I:Inv X pins σ H s)(e:H a=some (.ins C dx fs))(c:dk X.K C)(n:bO X.K C f)(N:fs.length<1000)(m:RelV y u)
  (h:∀i,Inv X pins σ (upd H a (.ins C dx (cM f y fs))) i->Q () i):wpAny (model X.prog X.w) A (setAttr (.ref a) f u) Q E s:=by
 obtain ⟨j,O,r,k,_,l⟩:=rD I.aw e
 have p:(fs.map (·.1)).length<=sizeLine:=by rw [KP,OF];omega
 refine GJ I.cZ O c.sa c.po n.EM c.hd k p λt d B=>h _ ?_
 have G:∃o,t.get? dx=some o:=let ⟨o,_,_,J,_⟩:=d.ns;⟨o,J⟩
 refine I.write (x:=a) (e:=dx) (by rw [e];exact True.intro) (.inr l) (λb q L z=>(B.2 b L).trans z) G ?_
 refine ⟨by rw [aC O.ne];exact l,?_,O.ne,d.obj,_,d.ns,λg=>?_,λg M=>?_⟩
 .have:=yZ f y fs;omega
 .show eE ((cM f y fs).lookup g) (if g=f then some u else j g)
  rw [yW]
  by_cases q:g=f
  .rw [K4 q,K4 q];exact m
  .rw [KS q,KS q];exact r g
 .by_cases q:g=f
  .rw [q];exact (uh f y fs).1
  .refine (uh f y fs).2 g (k g λz=>M ?_)
   show (if g=f then some u else j g)=none
   rw [KS q];exact z
def Inv.made (I:Inv X pins σ H s):Inv X pins σ (upd (upd H s.heap.objs.size (.own (s.heap.objs.size+1))) (s.heap.objs.size+1) (.ins C s.heap.objs.size []))
  {s with heap:=(s.heap.push PySem.W.emptyDict).push (PySem.W.instObj C s.heap.objs.size)}:=by
 have c:(s.heap.push PySem.W.emptyDict).get? s.heap.objs.size=some PySem.W.emptyDict:=Lc s.heap rfl
 have g:((s.heap.push PySem.W.emptyDict).push (PySem.W.instObj C s.heap.objs.size)).get? (s.heap.objs.size+1)=some (PySem.W.instObj C s.heap.objs.size):=by
  have:=Lc (s.heap.push PySem.W.emptyDict) (o:=PySem.W.instObj C s.heap.objs.size) rfl
  rwa [Md] at this
 have h:(s.heap.push PySem.W.emptyDict).Ns s.heap.objs.size (λ_=>none):=⟨PySem.W.emptyDict, #[],_,c,rfl,(λe i=>absurd i Z8),λ_=>rfl⟩
 have j:=I.laid (a:=s.heap.objs.size) (o:=.own (s.heap.objs.size+1)) (h':=s.heap.push PySem.W.emptyDict) (t':=s.toks) (λb u q=>KO _ q) (KR _) ⟨_,c⟩
 refine j.laid (a:=s.heap.objs.size+1) (o:=.ins C s.heap.objs.size []) (t':=s.toks) (λb u q=>KO _ q) (Pz (Md _ _)) ?_
 have d:s.heap.objs.size≠s.heap.objs.size+1:=Ls (MW _)
 refine ⟨by rw [aC d,aK],Ll _,d,g,λ_=>none,(Heap.Ns1.of_empty h).at λo q=>KO _ q,λ_=>True.intro,λy k=>absurd rfl k⟩
def G0{f:Str}{s:Shared}(i:attributeBase e f c (eval e c)=eval e c)
  (h:wpAny (model b w) A (eval e c) (λo d=>wpAny (model b w) A (getAttr o f true) Q E d) E s):wpAny (model b w) A (eval (.Attribute e f g) c) Q E s:=
 Attribute_any_ h (by rw [arm_eval_Attribute,i])
end
def kF (K:PySem.W.Frag)(ta:TE)(f:Str):TE:=λσ H Q=>ta σ H λx H1=>∃a C dx fs v,x=.ref a/\H1 a=some (.ins C dx fs)/\dk K C/\bO K C f/\fs.lookup f=some v/\Q v H1
def yy (K:PySem.W.Frag)(ta tv:TE)(f:Str):TS:=λD σ H=>tv σ H λy H1=>ta σ H1 λx H2=>∃a C dx fs,x=.ref a/\H2 a=some (.ins C dx fs)/\dk K C/\bO K C f/\fs.length<1000/\
 D.nx σ (upd H2 a (.ins C dx (cM f y fs)))
section
variable {X:Cx}{o e value:Expr}{f:Str}{pos pos' tpos:Pos}{ta tv:TE}
def dJ (d:PE X e ta)(g:attributeBase e f X.env (eval e X.env)=eval e X.env):PE X (.Attribute e f pos) (kF X.K ta f):=by
 intro b s i H Q I h
 refine G0 g (aQ (d b s i H _ I h) λu y ⟨x,j,k,m,a,C,z,A,v,p,r,c,n,l,q⟩=>?_)
 subst p
 obtain rfl:u=Value.ref a:=m
 exact Kv k r c n l λB E t w=>⟨v,j,t,w,q⟩
def fA (g:PE X o ta)(i:PE X value tv)(j:swapsWith value (some (.Attribute o f pos')) pos.line X.env=pure false):PS X (.Assign [.Attribute o f pos'] value pos) (yy X.K ta tv f):=by
 intro b s d H D I h
 refine plainObj_wpAny_Assign_Attribute (aQ (i b s d H _ I h) λu k ⟨y,m,p,r,q⟩=>aQ (g b k d m _ p q) λt G ⟨x,J,v,w,a,C,L,M,z,A,c,n,l,B⟩=>?_) j
 subst z
 obtain rfl:t=Value.ref a:=w
 exact Dd v A c n l r λN E=>⟨d,_,E,B⟩
end
section
variable {X:Cx}{pins:List (Addr×Obj)}{σ:St}{H:Hp}{s:Shared}{A:Around}{E:Value->Shared->Prop}{Q:Value->Shared->Prop}{c:Value}{b:Bool}
inductive gm (K:PySem.W.Frag)(H:Hp):V->Value->Prop where
 |av:gm K H .av (.type "NoneType")
 |bl (x:Bool):gm K H (.bl x) (.type "bool")
 |int (i:Int):gm K H (.int i) (.type "int")
 |str (x:Str):gm K H (.str x) (.type "str")
 |mD (x:UInt64):gm K H (.mD x) (.type "float")
 |lst {a:Addr} {xs:List V} (e:H a=some (.lst xs)):gm K H (.ref a) (.type "list")
 |cK {a:Addr} {o:Obj} {xs:List V} (e:H a=some (.cK o (.lst xs))):gm K H (.ref a) (.type "list")
 |tup {a:Addr} {xs:List V} (e:H a=some (.tup xs)):gm K H (.ref a) (.type "tuple")
 |dK {a:Addr} {kvs:List (aG×V)} (e:H a=some (.dK kvs)):gm K H (.ref a) (.type "dict")
 |dT {a:Addr} {kvs:List (List aG×V)} (e:H a=some (.dT kvs)):gm K H (.ref a) (.type "dict")
 |ins {a C dx:Addr} {fs:List (Str×V)} (e:H a=some (.ins C dx fs)) (cl:dk K C) (ha:PySem.W.findIn K (.ref C) "__class__"=some (some (.builtin "object.__class__")))
   (hn:PySem.W.specialIn K (.builtin "object.__class__") "__get__"=some (some (.builtin "getset_descriptor.__get__"))) (htk:PySem.W.takesIn K (.builtin "object.__class__")=some true)
   (hm:PySem.W.mroIn K C (.type "object")=some true):gm K H (.ref a) (.ref C)
def EG(I:Inv X pins σ H s)(d:RelV x u)(v:gm X.K H x t)(e:PySem.W.kitOne X.K t c=some b)(h:∀B,Q (.bool b) {s with toks:=B}):
  wpAny (model X.prog X.w) A (call (.builtin "isinstance") [u,c]) Q E s:=by
 cases v with
 |av=>cases (show u=Value.none from d);exact L5 PySem.W.kitx_none I.cZ True.intro e (λz=>nomatch z) h
 |bl y=>cases (show u=Value.bool y from d);exact L5 PySem.W.kitx_bool I.cZ True.intro e (λz=>nomatch z) h
 |int i=>obtain ⟨t,q⟩:=(show∃t,u=Value.int i t from d);cases q;exact L5 PySem.W.kitx_int I.cZ True.intro e (λz=>nomatch z) h
 |str y=>obtain ⟨t,q⟩:=(show∃t,u=Value.str y t from d);cases q;exact L5 PySem.W.kitx_str I.cZ True.intro e (λz=>nomatch z) h
 |mD y=>obtain ⟨t,q⟩:=(show∃t,u=Value.float y t from d);cases q;exact L5 PySem.W.kitx_float I.cZ True.intro e (λz=>nomatch z) h
 |@lst a k f=>
  cases (show u=Value.ref a from d)
  obtain ⟨_,_,n,_,g⟩:=(show bP X.prog X.w H s.heap a (.lst k) from I.aw a _ f)
  exact L5 OG I.cZ ⟨_,g,rfl⟩ e (λz=>nomatch z) h
 |@cK a G k f=>
  cases (show u=Value.ref a from d)
  obtain ⟨_,_,_,n,_,g⟩:=(show bP X.prog X.w H s.heap a (.cK G (.lst k)) from I.aw a _ f)
  exact L5 OG I.cZ ⟨_,g,rfl⟩ e (λz=>nomatch z) h
 |@tup a k f=>
  cases (show u=Value.ref a from d)
  obtain ⟨_,_,_,p⟩:=(show bP X.prog X.w H s.heap a (.tup k) from I.aw a _ f)
  obtain ⟨o,g,l,_⟩:=p
  exact L5 PySem.W.kitx_tuple I.cZ ⟨o,g,l⟩ e (λz=>nomatch z) h
 |@dK a j f=>
  cases (show u=Value.ref a from d)
  obtain ⟨_,_,Y,_,p⟩:=(show bP X.prog X.w H s.heap a (.dK j) from I.aw a _ f)
  obtain ⟨o,L,M,g,l,_⟩:=p
  exact L5 PySem.W.kitx_dict I.cZ ⟨o,g,l.1⟩ e (λz=>nomatch z) h
 |@dT a j f=>
  cases (show u=Value.ref a from d)
  obtain ⟨_,_,k,_,o,L,M,g,l,_⟩:=(show bP X.prog X.w H s.heap a (.dT j) from I.aw a _ f)
  exact L5 PySem.W.kitx_dict I.cZ ⟨o,g,l.1⟩ e (λz=>nomatch z) h
 |@ins a C dx fs f r N T m U=>
  cases (show u=Value.ref a from d)
  obtain ⟨mA,O,_⟩:=rD I.aw f
  obtain ⟨od,J,_⟩:=O.look
  exact L5 (PySem.W.kitx_own (r.get _) r.hd N T m U) I.cZ J e (λz=>nomatch z) h
end
end L2
namespace L2
open PySem PySem.Spec PyProof.Rows
structure cI (k:Nat)(A:Around):Prop where
 hd:A.handled=none
 dp:A.depth+3*k+5<recursionLimit
 un:A.units+16*k+200<cLine
def cI.mono(r:cI k A)(h:j<=k):cI j A:=⟨r.hd,by have:=r.dp;omega,by have:=r.un;omega⟩
def cI.deeper(r:cI (k+1) A)(a:Env):cI k (A.deeper a):=
 ⟨r.hd,by have:=r.dp;show A.depth+1+3*k+5<_;omega,by have:=r.un;show A.units+3+16*k+200<_;omega⟩
def IS{A:Around}:(A.under (.builtin "type.__call__" ⟨.ref C::a,b⟩)).depth=A.depth+1:=by
 first|rfl|simp [Around.under,Code.weight,Code.isCreation,Code.isGuard,Code.isCaller,Code.frames,Code.isFrame,guardIds]
def Fk{A:Around}:(A.under (.builtin "type.__call__" ⟨.ref C::a,b⟩)).units=A.units+1:=by
 first|rfl|simp [Around.under,Code.cUnits,Code.frames,Code.isFrame]
def cI.make(r:cI (k+1) A)(C:Addr)(a:List Value)(b:List (Str×Value)):cI k (A.under (.builtin "type.__call__" ⟨.ref C::a,b⟩)):=
 ⟨r.hd,by have:=r.dp;rw [IS];omega,by have:=r.un;rw [Fk];omega⟩
def cI.depth(r:cI k A):A.depth<recursionLimit:=by have:=r.dp;omega
def cI.units(r:cI k A):A.units+64<cLine:=by have:=r.un;omega
def bv:TA:=λ_ H Q=>Q [] H
def bb (ta:TE)(tr:TA):TA:=λσ H Q=>ta σ H λx H1=>tr σ H1 λxs H2=>Q (x::xs) H2
section
variable {X:Cx}{e:Expr}{es:List Expr}{te:TE}{t:TA}{pos:Pos}
def ap:PA X [] bv:=λ_ _ _ _ H Q I h=>OH ⟨[],H,I,.nil,h⟩
def ah (c:PE X e te)(d:PA X es t)(f:starEach (e::es) X.env=(false,eval e X.env)::starEach es X.env:=by rfl):PA X (e::es) (bb te t):=by
 intro pos a s b H Q I h
 rw [f]
 show wpAny _ _ (spliced ((false,eval e X.env)::backTo pos (starEach es X.env))) _ _ s
 refine M4 (aQ (c a s b H _ I h) λu g ⟨x,i,j,k,l⟩=>?_)
 exact aQ (d pos a g b i _ j l) λr v ⟨m,n,o,p,q⟩=>⟨x::m,n,o,.cons k p,q⟩
def m8 (t:TA):TE:=λσ H Q=>t σ H λxs H1=>xs.length<=sizeLine/\∀p,H1 p=none->Q (.ref p) (upd H1 p (.tup xs))
def jt (t:TA):TE:=λσ H Q=>t σ H λxs H1=>xs.length<=sizeLine/\∀p,H1 p=none->Q (.ref p) (upd H1 p (.lst xs))
def dy {g}(h:PA X es t):PE X (.Tuple es g pos) (m8 t):=by
 intro a s i H Q I j
 refine wpAny_Tuple_spliced (aQ (h pos a s i H _ I j) λk c ⟨l,d,f,r,z,q⟩=>⟨by rw [<-r.length];exact z,?_⟩)
 have m:d c.heap.objs.size=none:=f.aw.fresh (KR _)
 refine ⟨.ref c.heap.objs.size,upd d c.heap.objs.size (.tup l),f.laid (t':=c.toks) (λb u e=>KO _ e) (KR _) ?_,rfl,q _ m⟩
 exact ⟨z,k,r,⟨_,Lc _ rfl,rfl,_,rfl⟩⟩
def cQ (h:PA X es t):PE X (.List es pos) (jt t):=by
 intro a s g H Q I i
 refine wpAny_List_spliced (aQ (h pos a s g H _ I i) λj c ⟨k,d,f,r,z,q⟩=>⟨by rw [<-r.length];exact z,?_⟩)
 have l:d c.heap.objs.size=none:=f.aw.fresh (KR _)
 refine ⟨.ref c.heap.objs.size,upd d c.heap.objs.size (.lst k),f.laid (t':=c.toks) (λb u e=>KO _ e) (KR _) ?_,rfl,q _ l⟩
 exact ⟨z,j,0,r,Lc _ rfl⟩
end
abbrev Sp:=List V->Hp->VK->XK->Prop
abbrev gY:=List Env->Hp->Shared->XK->Value->Shared->Prop
structure mU (P:Program)(w:World)(K:PySem.W.Frag)(mg:Str->Option Value)(base:Heap)(A:Around)(outer:List Env)(s:Shared)(H:Hp):Prop where
 frames:A.frames=some outer
 mod:Mod K mg base
 bs:∀b o,base.get? b=some o->s.heap.get? b=some o/\H b=none
 jT:base.objs.size<=s.heap.objs.size
 gM:s.heap.FunFrames base outer
 kT:∀b∈gW outer,H b=none
 aw:cT P w H s.heap
 bare:AllBare s.gens
def CE (outer:List Env)(P:Program)(w:World)(H:Hp)(s:Shared)(Q:VK)(u:Value)(s':Shared):Prop:=
 ∃v H',s'.os=s.os/\AllBare s'.gens/\Un (gW outer) [] H H' s.heap s'.heap/\cT P w H' s'.heap/\RelV v u/\Q v H'
def CR (CX:gY)(outer:List Env)(P:Program)(w:World)(H:Hp)(s:Shared)(Q:VK)(E:XK)(r:Result)(s':Shared):Prop:=
 match r with
 |.ok (.ret u)=>CE outer P w H s Q u s'
 |.ok _=>False
 |.error e=>CX outer H s E e s'
structure bq (P:Program)(w:World)(K:PySem.W.Frag)(mg:Str->Option Value)(base:Heap)(CX:gY)(k:Nat)(f:Addr)(fd:FuncData)(ps:List Str)(sp:Sp):Prop where
 len:∀vs H Q E,sp vs H Q E->vs.length=ps.length
 run:∀(A:Around) (outer:List Env) (s:Shared) (H:Hp) (args:Args) (us:List Value) (vs:List V) (Q:VK) (E:XK),cI k A->mU P w K mg base A outer s H->BindsTo s fd args (ps.zip us)->a9 vs us->sp vs H Q E->
  codeAny (model P w) A (.call (.ref f) args) (CR CX outer P w H s Q E) s
def bq.mono{K:PySem.W.Frag}{base:Heap}(F:bq P w K c base d j f e g i)(h:j<=k):
  bq P w K c base d k f e g i:=⟨F.len,λA a s H b l m Q E n=>F.run A a s H b l m Q E (n.mono h)⟩
def mU.make{K:PySem.W.Frag}{base:Heap}(e:mU P w K b base A a s H)(C:Addr)(c:List Value)(d:List (Str×Value)):
  mU P w K b base (A.under (.builtin "type.__call__" ⟨.ref C::c,d⟩)) a s H:=⟨by first|exact e.frames|(simpa [Around.under,Code.envs,Code.isFrame,pushEnvs] using e.frames),e.mod,e.bs,e.jT,e.gM,e.kT,e.aw,e.bare⟩
section
variable {X:Cx}{pins:List (Addr×Obj)}{σ:St}{H:Hp}{s s':Shared}
def Inv.wX (I:Inv X pins σ H s):mU X.prog X.w X.K X.mg X.base X.A X.stack s H:=
 ⟨I.ok.frames,I.ok.mod,I.bs,Lk I.ok.jT I.sz,I.stack,I.zg,I.aw,I.bare⟩
def Inv.after(I:Inv X pins σ H s)(h:CE X.stack X.prog X.w H s Q u s'):EP X pins σ Q u s':=by
 obtain ⟨v,e,os,a,f,aw,r,q⟩:=h
 obtain ⟨i,g,d,t,c⟩:=s'
 obtain rfl:c=s.os:=os
 exact ⟨v,e,I.call (h':=i) (g':=g) (d':=d) (t':=t) (ch:=[]) f aw a (λb z=>absurd z Z8),r,q⟩
end
def iH (sp:Sp)(dvs:List V)(E:XK)(t:TA):TE:=λσ H Q=>t σ H λvs H1=>sp (vs++dvs) H1 Q E
def kQ (C:Addr)(m:Str)(sp:Sp)(dvs:List V)(E:XK)(ta:TE)(t:TA):TE:=λσ H Q=>ta σ H λx H1=>∃a dx fs,x=.ref a/\H1 a=some (.ins C dx fs)/\fs.lookup m=none/\
 t σ H1 λvs H2=>sp (x::(vs++dvs)) H2 Q E
def rT (C:Addr)(sp:Sp)(dvs:List V)(E:XK)(t:TA):TE:=λσ H Q=>t σ H λvs H1=>∀x dx,H1 x=none->H1 dx=none->dx≠x->
 sp (.ref x::(vs++dvs)) (upd (upd H1 dx (.own x)) x (.ins C dx [])) (λv H2=>v=.av/\Q (.ref x) H2) E
def Binds (K:PySem.W.Frag)(fd:FuncData)(ps:List Str)(ds:List Value):Prop:=
 ∀(s:Shared) (us:List Value),K.In s.heap->(us++ds).length=ps.length->BindsTo s fd ⟨us,[]⟩ (ps.zip (us++ds))
def Binds.all{K:PySem.W.Frag}{b:List Str}(h:∀a:List Value,a.length=b.length->bindArgs c ⟨a,[]⟩=pure (b.zip a)):Binds K c b []:=λs a _ d=>by
 rw [LA] at d⊢
 exact .of_eq (h a d)
def my (CX:gY)(X:Cx)(E:XK):Prop:=∀(pins:List (Addr×Obj)) (σ:St) (H:Hp) (s:Shared) (e:Value) (s':Shared),Inv X pins σ H s->CX X.stack H s E e s'->X.xe e s'
section
variable {X:Cx}{CX:gY}{k:Nat}{f C:Addr}{fd:FuncData}{ps:List Str}{sp:Sp}{dvs:List V}{ds:List Value}{E:XK}{x m:Str}{p pos apos:Pos}{e o:Expr}{es:List Expr}{ta:TE}{t:TA}
def vy(F:bq X.prog X.w X.K X.mg X.base CX k f fd ps sp)(g:cI k X.A)(i:Binds X.K fd ps ds)(j:a9 dvs ds)(l:my CX X E)
  (I:Inv X a c H s) (r:a9 vs us) (h:sp (vs++dvs) H Q E):wpAny (model X.prog X.w) X.A (call (.ref f) us) (EP X a c Q) X.xe s:=by
 have d:a9 (vs++dvs) (us++ds):=r.append j
 have n:(us++ds).length=ps.length:=by rw [<-d.length];exact F.len _ _ _ _ h
 refine wpAny_call (NL (F.run X.A X.stack s H ⟨us,[]⟩ (us++ds) (vs++dvs) Q E g I.wX (i s us I.cZ n) d h) λr q b=>?_)
 cases r with
 |error e=>exact l a c H s e q I b
 |ok v=>
  cases v with
  |ret u=>exact I.after b
  |next=>exact False.elim b
  |brk=>exact False.elim b
  |cont=>exact False.elim b
def JD (F:bq X.prog X.w X.K X.mg X.base CX k f fd ps sp)(g:cI k X.A)(i:Gl X x)(j:X.mg x=some (.ref f))(l:PySem.W.keepIn X.K (.ref f)=true)(n:Binds X.K fd ps ds)(u:a9 dvs ds)(v:my CX X E)
  (y:PA X (e::es) t) (b:(x==("__debug__":Str))=false:=by decide) (z:starEach (e::es) X.env=(false,eval e X.env)::starEach es X.env:=by rfl) (c:(backTo pos (starEach es X.env)).any (·.1)=false:=by rfl):
  PE X (.Call (.Name x p) (e::es) [] pos) (iH sp dvs E t):=by
 intro a s B H Q I h
 refine ME (uc I i j ?_ b)
 refine Ou (h₀:=X.base) I.ok.mod.pd l (aQ (y pos a s B H _ I h) λG J ⟨L,M,d,r,q⟩=>⟨d.cZ,?_⟩) z c
 exact vy F g n u v d r q
def ET(z:PE X o ta)(c:dk X.K C)(i:c6 X.K C m f)(F:bq X.prog X.w X.K X.mg X.base CX k f fd ps sp)(B:cI k X.A)(G:Binds X.K fd ps ds)(J:a9 dvs ds)(L:my CX X E)(M:PA X (e::es) t)
  (d:starEach (e::es) X.env=(false,eval e X.env)::starEach es X.env:=by rfl) (g:(backTo pos (starEach es X.env)).any (·.1)=false:=by rfl)
  (N:eval (.Call (.Attribute o m apos) (e::es) [] pos) X.env=(do
   let j<-eval o X.env
   standAt apos.atName
   let (f,first)<-holding [j] (getMethod j m pl)
   callWith pos f first (backTo pos (starEach (e::es) X.env)) (backToKw pos (keywordEach [] X.env))):=by rfl):
  PE X (.Call (.Attribute o m apos) (e::es) [] pos) (kQ C m sp dvs E ta t):=by
 intro b s n H Q I h
 refine Pg (pl:=pl) (aQ (z b s n H _ I h) λu O ⟨x,T,v,U,a,dx,fs,Y,ea,l,q⟩=>?_) N
 subst Y
 obtain rfl:u=Value.ref a:=U
 refine yC v ea c i l ?_
 refine Ou (first:=[.ref a]) (h₀:=X.base) I.ok.mod.pd i.kp (aQ (M pos b O n T _ v q) λus s2 ⟨vs,H2,y,r,q2⟩=>⟨y.cZ,?_⟩) d g
 exact vy (us:=.ref a::us) (vs:=.ref a::vs) F B G J L y (.cons rfl r) q2
def J7(j:PE X o ta)(c:dk X.K C)(g:c6 X.K C m f)(F:bq X.prog X.w X.K X.mg X.base CX k f fd ps sp)(n:cI k X.A)(r:Binds X.K fd ps ds)(v:a9 dvs ds)(y:my CX X E)
  (z:eval (.Call (.Attribute o m apos) [] [] pos) X.env=(do
   let i<-eval o X.env
   standAt apos.atName
   let (f,first)<-holding [i] (getMethod i m pl)
   callWith pos f first (backTo pos (starEach [] X.env)) (backToKw pos (keywordEach [] X.env))):=by rfl):
  PE X (.Call (.Attribute o m apos) [] [] pos) (kQ C m sp dvs E ta bv):=by
 intro b s B H Q I h
 refine Pg (pl:=pl) (aQ (j b s B H _ I h) λu M ⟨x,N,d,G,a,O,T,J,L,l,q⟩=>?_) z
 subst J
 obtain rfl:u=Value.ref a:=G
 refine yC d L c g l ?_
 exact PySem.W.callWith_K0 (first:=[.ref a]) d.cZ g.kp (vy (us:=[.ref a]) (vs:=[.ref a]) F n r v y d (.cons rfl .nil) q)
structure Mk (K:PySem.W.Frag)(C f:Addr):Prop where
 makes:PySem.W.makesIn K C=true
 init:PySem.W.findIn K (.ref C) "__init__"=some (some (.ref f))
 fn:PySem.W.isFn K (.ref f)=true
 kp:PySem.W.keepIn K (.ref C)=true
def GY{Q:VK}(M:Mk X.K C f)(F:bq X.prog X.w X.K X.mg X.base CX k f fd ps sp)(q:cI (k+1) X.A)(y:Binds X.K fd ps ds)(z:a9 dvs ds)
  (B:my CX X E) (I:Inv X a i H s) (r:a9 j c)
  (h:∀x d,H x=none->H d=none->d≠x->sp (.ref x::(j++dvs)) (upd (upd H d (.own x)) x (.ins C d [])) (λv G=>v=.av/\Q (.ref x) G) E):
  wpAny (model X.prog X.w) X.A (call (.ref C) c) (EP X a i Q) X.xe s:=by
 have l:=h (s.heap.objs.size+1) s.heap.objs.size (I.aw.fresh (Nat.le_succ _)) (I.aw.fresh (KR _)) (Ls (MW _))
 have g:=Inv.made (C:=C) I
 have n:a9 (V.ref (s.heap.objs.size+1)::(j++dvs)) (Value.ref (s.heap.objs.size+1)::(c++ds)):=.cons rfl (r.append z)
 have J:(Value.ref (s.heap.objs.size+1)::c++ds).length=ps.length:=by
  have e:=n.length
  rw [F.len _ _ _ _ l] at e
  exact e.symm
 refine wpAny_call (Hv (f:=f) I.cZ M.makes M.init (NE.mp M.fn) (NL (F.run _ X.stack _ _ ⟨Value.ref (s.heap.objs.size+1)::c,[]⟩ (Value.ref (s.heap.objs.size+1)::(c++ds)) _ _ E (q.make C c [])
  (g.wX.make C c []) (y _ (Value.ref (s.heap.objs.size+1)::c) g.cZ J) n l) λr L b=>?_))
 cases r with
 |error e=>exact B a i _ _ e L g b
 |ok N=>
  cases N with
  |ret u=>
   obtain ⟨v,O,T,U,Y,q3⟩:=g.after b
   subst Y
   exact ⟨U,⟨V.ref (s.heap.objs.size+1),O,T,rfl,q3⟩⟩
  |next=>exact False.elim b
  |brk=>exact False.elim b
  |cont=>exact False.elim b
def G6 (M:Mk X.K C f)(F:bq X.prog X.w X.K X.mg X.base CX k f fd ps sp)(g:cI (k+1) X.A)(i:Gl X x)(j:X.mg x=some (.ref C))(l:Binds X.K fd ps ds)(n:a9 dvs ds)(u:my CX X E)
  (v:PA X (e::es) t) (b:(x==("__debug__":Str))=false:=by decide) (y:starEach (e::es) X.env=(false,eval e X.env)::starEach es X.env:=by rfl) (c:(backTo pos (starEach es X.env)).any (·.1)=false:=by rfl):
  PE X (.Call (.Name x p) (e::es) [] pos) (rT C sp dvs E t):=by
 intro a s z H Q I h
 refine ME (uc I i j ?_ b)
 refine Ou (h₀:=X.base) I.ok.mod.pd M.kp (aQ (v pos a s z H _ I h) λB G ⟨J,L,d,r,q⟩=>⟨d.cZ,?_⟩) y c
 exact GY M F g l n u d r q
end
def PK (X:Cx)(kws:List Keyword)(t:TA):Prop:=
 ∀(pos:Pos) (pins:List (Addr×Obj)) (s:Shared) (σ:St) (H:Hp) (Q:List V->Hp->Prop),Inv X pins σ H s->t σ H Q->wpAny (model X.prog X.w) X.A (evalAll ((backToKw pos (keywordEach kws X.env)).map (·.2))) (AP X pins σ Q) X.xe s
section
variable {X:Cx}{CX:gY}{k:Nat}{f C:Addr}{fd:FuncData}{ps ks:List Str}{sp:Sp}{E:XK}{x m:Str}{p pos apos kpos:Pos}{e o:Expr}{es:List Expr}{kws:List Keyword}{te ta:TE}{t tk:TA}{nm:Option Str}
def A9:PK X [] bv:=λ_ _ _ _ H Q I h=>wpAny_evalAll_nil ⟨[],H,I,.nil,h⟩
def Bz (c:PE X e te)(d:PK X kws t):PK X (⟨nm,e,kpos⟩::kws) (bb te t):=by
 intro pos a s b H Q I h
 show wpAny _ _ (evalAll ((do let v<-eval e X.env;standAt pos;pure v)::(backToKw pos (keywordEach kws X.env)).map (·.2))) _ _ s
 refine wpAny_evalAll_cons (KI (aQ (c a s b H _ I h) λu g ⟨x,i,j,l,n⟩=>KI (OM (K5 ?_))))
 exact aQ (d pos a g b i _ j n) λA B ⟨q,r,w,y,z⟩=>⟨x::q,r,w,.cons l y,z⟩
variable {g:List Value->List Value->List Value}{gV:List V->List V->List V}
end
structure b9 (N P:List Str)(sc:Scope):Prop where
 kind:sc.kind=.function
 co:sc.isCoroutine=false
 gen:sc.isGenerator=false
 nd:N.Nodup
 pre:N.take P.length=P
 par:∀x∈P,sc.names.lookup x=some .local\/sc.names.lookup x=some .cell
 EO:∀y∈sc.names,y.2≠.free
def xk{kindOf:Str->Option NameKind}:∀{binds:List (Str×Value)} {m:Str->Option Value},(∀v,(x,v)∉binds)->bindL kindOf binds m x=m x
 |[],_,_=>rfl
 |(n,v)::r,m,h=>by
  unfold bindL
  rw [xk λw a=>h w (KG _ a)]
  split
  .have:x≠n:=by rintro rfl;exact h v KN
   simp [this]
  .rfl
def x3{kindOf:Str->Option NameKind}:∀{binds:List (Str×Value)} {m:Str->Option Value},(∀v,(x,v)∉binds)->bindC kindOf binds m x=m x
 |[],_,_=>rfl
 |(n,v)::r,m,h=>by
  unfold bindC
  rw [x3 λw a=>h w (KG _ a)]
  split
  .rfl
  .have:x≠n:=by rintro rfl;exact h v KN
   simp [this]
def Az{kindOf:Str->Option NameKind}:∀{P:List Str} {a:List Value} {i:Nat} {m:Str->Option Value},P.Nodup->P[i]?=some x->a[i]?=some v->kindOf x=some .local->
  bindL kindOf (P.zip a) m x=some v
 |[],_,_,_,_,h,_,_=>by simp at h
 |_::_,[],_,_,_,_,h,_=>by simp at h
 |p::P,w::a,0,m,d,b,c,e=>by
  simp at b c;subst b;subst c
  show bindL kindOf ((p,w)::P.zip a) m p=_
  unfold bindL
  rw [xk λv f=>(MP.mp d).1 (Oa f).1,K4 e]
  simp
 |p::P,w::a,i+1,m,d,b,c,e=>by
  show bindL kindOf ((p,w)::P.zip a) m x=_
  unfold bindL
  exact Az (i:=i) (MP.mp d).2 (by simpa using b) (by simpa using c) e
def Ay{kindOf:Str->Option NameKind}:∀{P:List Str} {a:List Value} {i:Nat} {m:Str->Option Value},P.Nodup->P[i]?=some x->a[i]?=some v->kindOf x≠some .local->
  bindC kindOf (P.zip a) m x=some v
 |[],_,_,_,_,h,_,_=>by simp at h
 |_::_,[],_,_,_,_,h,_=>by simp at h
 |p::P,w::a,0,m,d,b,c,e=>by
  simp at b c;subst b;subst c
  show bindC kindOf ((p,w)::P.zip a) m p=_
  unfold bindC
  rw [x3 λv f=>(MP.mp d).1 (Oa f).1,KS e]
  simp
 |p::P,w::a,i+1,m,d,b,c,e=>by
  show bindC kindOf ((p,w)::P.zip a) m x=_
  unfold bindC
  exact Ay (i:=i) (MP.mp d).2 (by simpa using b) (by simpa using c) e
def start (N:List Str)(vs:List V):St:=vs.map some++List.replicate (N.length-vs.length) none
def mh (CX:gY)(P:Program)(w:World)(K:PySem.W.Frag)(mg:Str->Option Value)(base:Heap)(N:List Str)(qual:Str)(scope:Scope)(f:Addr)(cd:Value)(A:Around)(outer:List Env)(s:Shared)(H:Hp)(E:XK):Cx where
 prog:=P
 w:=w
 K:=K
 mg:=mg
 base:=base
 A:=A.deeper (envOfC qual scope s.heap.objs.size f cd)
 N:=N
 s₀:=s
 H₀:=H
 env:=envOfC qual scope s.heap.objs.size f cd
 outer:=outer
 stack:=envOfC qual scope s.heap.objs.size f cd::outer
 ex:=[]
 calm:=true
 fn:=λ_=>true
 pn:=[]
 xe:=λe s'=>wpAny (model P w) (A.deeper (envOfC qual scope s.heap.objs.size f cd)) (leaving (envOfC qual scope s.heap.objs.size f cd) e) (λ_ s''=>CX outer H s E e s'') (λe' s''=>CX outer H s E e' s'') s'
def BW{a:Scope}(h:a.names.lookup x=some .cell):∃c,(cellsFrom n a.names []).lookup x=some c:=by
 have q:=O3 a.names n [] (.inl h)
 exact ON.mp q
def Cw{K:PySem.W.Frag}{base:Heap}{A:Around}{t:List V}
  (S:b9 N o d) (hd:A.handled=none) (m:mU P w K O base A g s H) (hl:t.length=o.length) (r:a9 t Q)
  (x:InCallC s s.heap.objs.size (bindL (envOfC j d s.heap.objs.size f J).kindOf (o.zip Q) λ_=>none) (cellsFrom (s.heap.objs.size+1) d.names []) (bindC (envOfC j d s.heap.objs.size f J).kindOf (o.zip Q) λ_=>none) U):
  Inv (mh T P w K O base N j d f J A g s H E) [] (start N t) H U:=by
 have ac:o.length<=N.length:=by have:=LL List.length S.pre;rw [Lx] at this;omega
 obtain ⟨L,tk,rfl,Y⟩:=x.done
 have B:∀b:Addr,b∉(mh T P w K O base N j d f J A g s H E).ex:=λb z=>absurd (show b∈([]:List Addr) from z) Z8
 refine ⟨⟨m.mod,S.kind,rfl,rfl,KR _,λy z c L l=>?_,λy C=>?_,λy c _ h=>?_,λ_=>hd,Around.frames_deeper m.frames,.inr ⟨rfl,rfl⟩,λb z=>absurd z (B b),m.bs,m.jT,λb _ _=>B b,λb z=>absurd z (B b),m.gM,m.kT⟩,
  rfl,m.bare,Un.kept Y,⟨_,x.toInCall.ns,λi y v L l h3=>?_⟩,λy c h=>⟨_,x.cell y c h⟩,m.aw.fresh (KR _),λy c h=>?_,λp G=>absurd (show p∈([]:List (Addr×Obj)) from G) Z8,m.aw.kept Y,?_⟩
 .exact name_of_addr x.apart (MU L) (MU l)
 .have C:d.names.lookup y=some .cell\/d.names.lookup y=some .free:=C
  rcases C with C|C
  .exact BW C
  .exact absurd rfl (S.EO _ (MU C))
 .exact My (x.above y c (MU h))
 .have M:i<t.length:=by
   unfold start at l
   by_cases M:i<t.length
   .exact M
   .rw [Lo (by simpa using M)] at l
    rw [List.getElem?_replicate] at l
    split at l<;>cases l
  have ha:t[i]?=some v:=by
   unfold start at l
   rw [Lm (by simpa using M),KZ] at l
   cases e:t[i]? with
   |none=>rw [e] at l;cases l
   |some a=>rw [e] at l;cases l;rfl
  obtain ⟨u,hu,rv⟩:=r.get ha
  have G:o[i]?=some y:=by
   rw [<-S.pre,MQ Z6];exact L
  have I:o.Nodup:=by rw [<-S.pre];exact S.nd.sublist (List.take_sublist _ _)
  refine ⟨u,rv,?_⟩
  rcases S.par y (KU G) with k|k
  .exact .inl ⟨k,Az I G hu k⟩
  .obtain ⟨c,e⟩:=BW (n:=s.heap.objs.size+1) k
   refine .inr ⟨.inl k,c,e,?_⟩
   have q:=x.cell y c e
   rw [Ay I G hu (by show d.names.lookup y≠_;rw [k];decide)] at q
   exact q
 .exact m.aw.fresh (My (x.above y c (MU h)))
 .unfold start
  show _=N.length
  rw [Lh,KP,List.length_replicate]
  omega
def JC{K:PySem.W.Frag}{base:Heap}{name:Str}{kV:Value}
    {sp:Sp} (lk:K.lookup f=some ⟨oc,od,.func (PySem.W.fnOf name d h i a dV kV C pm an g ct),ac⟩) (af:PySem.W.codeIn K g d=true) (S:b9 N Y a)
  (G:∀j H Q E,sp j H Q E->j.length=Y.length)
  (p:∀(A:Around) (c:List Env) (s:Shared) (H:Hp) (j:List V) (Q:VK) (E:XK),cI k (A.deeper (envOfC d a s.heap.objs.size f g))->sp j H Q E->
   ∃t,gu (mh T P w K U base N d a f g A c s H E) i t/\t {nx:=λ_ m=>Q .av m,rt:=Q} (start N j) H):
  bq P w K U base T (k+1) f (PySem.W.fnOf name d h i a dV kV C pm an g ct) Y sp:=by
 refine ⟨G,λA c s H am us j Q E hr L hb r M=>?_⟩
 have hl:=G _ _ _ _ M
 have KX:K.In s.heap:=L.mod.pd.keeps λb o e=>(L.bs b o e).1
 have aj:s.heap.NoLimit:=L.mod.nolimit.keeps λb o e=>(L.bs b o e).1
 have z:∀y∈Y.zip us,a.names.lookup y.1=some .local\/(a.names.lookup y.1=some .cell/\((cellsFrom (s.heap.objs.size+1) a.names []).lookup y.1).isSome=true):=λ⟨n,v⟩ hy=>by
  rcases S.par n (Oa hy).1 with q|q
  .exact .inl q
  .exact .inr ⟨q,O3 _ _ _ (.inl q)⟩
 refine codeAny_call_function hr.depth (KX _ _ lk) rfl S.co S.gen rfl (PySem.W.codeRec_of KX af) (hb _ _ _ _ ?_)
 refine wpAny_newFunctionEnv_cells S.kind z λao he s1 x=>?_
 subst he
 refine ⟨aj.keeps x.toInCall.keep,codeAny_func ?_⟩
 obtain ⟨t,ht,hq⟩:=p A c s H j Q E (hr.deeper _) M
 have I:Inv (mh T P w K U base N d a f g A c s H E) [] (start N j) H s1:=Cw S hr.hd L hl r x
 refine Mh (ht [] s1 (start N j) H _ I hq) (λfl s' B=>?_) λe s' B=>B
 have O:∀{l:St} {m:Hp} {v:V} {u:Value},Inv (mh T P w K U base N d a f g A c s H E) [] l m s'->RelV v u->Q v m->CE c P w H s Q u s':=
  λ{l m v u} J rv q=>⟨v,m,J.os,J.bare,J.base,J.aw,rv,q⟩
 cases fl with
 |ret u=>
  obtain ⟨v,l,m,J,rv,q⟩:=B
  exact O J rv q
 |next=>
  obtain ⟨l,m,J,q⟩:=B
  exact O (v:=V.av) (u:=Value.none) J rfl q
 |brk=>
  obtain ⟨_,_,_,q⟩:=B
  exact False.elim q
 |cont=>
  obtain ⟨_,_,_,q⟩:=B
  exact False.elim q
end L2
namespace L2
open PySem PySem.Spec PyProof.Rows
section
variable {X:Cx}{x:Str}{p pos:Pos}{e:Expr}{es:List Expr}{t:TA}{id T:String}{r:List V->Hp->VK->Prop}
def cH (r:List V->Hp->VK->Prop)(t:TA):TE:=λσ H Q=>t σ H λvs H1=>r vs H1 Q
def p6 (d:h9 X (.builtin id) r)(f:Gl X x)(g:X.mg x=none)(i:bootBuiltins x=some (.builtin id))(j:PA X (e::es) t)(k:x≠"__name__":=by decide)(b:(x==("__debug__":Str))=false:=by decide)
  (he:starEach (e::es) X.env=(false,eval e X.env)::starEach es X.env:=by rfl) (hpl:(backTo pos (starEach es X.env)).any (·.1)=false:=by rfl):PE X (.Call (.Name x p) (e::es) [] pos) (cH r t):=by
 intro a s c H Q I h
 refine ME (ic I f g i ?_ k b)
 exact PyProof.Rows.callWith_builtin1 (aQ (j pos a s c H _ I h) λl m ⟨n,o,q,u,v⟩=>d a m c o n l Q q u v) he hpl
def px (f:h9 X (.type T) r)(g:Gl X x)(i:X.mg x=none)(j:bootBuiltins x=some (.type T))(k:PA X (e::es) t)(l:x≠"__name__":=by decide)(b:(x==("__debug__":Str))=false:=by decide)
  (he:starEach (e::es) X.env=(false,eval e X.env)::starEach es X.env:=by rfl) (c:(backTo pos (starEach es X.env)).any (·.1)=false:=by rfl):PE X (.Call (.Name x p) (e::es) [] pos) (cH r t):=by
 intro a s d H Q I h
 refine ME (ic I g i j ?_ l b)
 exact LR (aQ (k pos a s d H _ I h) λm n ⟨o,q,u,v,w⟩=>f a n d q o m Q u v w) he c
end
end L2
namespace HT
open PySem PyProof.Rows
section
open PySem.SeqAt
open PySem.AutoSeq1 (wpAny_loadPart')
open PySem.MeetsSeq PySem.MeetsSeq2 PySem.MeetsSeq3
end
section
variable {prog:Program}{w:World}{A:Around}{E:Value->Shared->Prop}{s:Shared}
def Dg{d a:List Value}{Q:Value->Shared->Prop}(v:IsTup s.heap t d.toArray)(x:IsTup s.heap b a.toArray)(l:d≠[])
  (y:a=[]->Q (.ref t) s) (z:a≠[]->Q (.ref s.heap.objs.size) {s with heap:=s.heap.push {cls:=.type "tuple",data:=.seq (d++a).toArray}})
  (k:d.length+a.length<=sizeLine):wpAny (model prog w) A (binaryOp .Add (.ref t) (.ref b)) Q E s:=by
 obtain ⟨⟨cls,m,data,o⟩,i,p,n,q⟩:=id v
 obtain ⟨⟨r,f,data2,g⟩,c,h,u,eU⟩:=id x
 simp only at p q h eU
 subst p q h eU
 have e:d.toArray++a.toArray=(d++a).toArray:=by simp
 by_cases j:a=[]
 .exact concat_meets ⟨_,i,rfl⟩ ⟨_,c,rfl⟩ OV seq_tuple_add NM NH (Nv _ _)
   (tuple_addW1 t b d.toArray a.toArray n u m f o g (by simpa using l) (by simp [j])) ⟨i,c,y j⟩
 .refine concat_meets ⟨_,i,rfl⟩ ⟨_,c,rfl⟩ OV seq_tuple_add NM NH (Nv _ _)
   (tuple_addW2 t b d.toArray a.toArray n u m f o g (by simpa using l) (by simpa using j) (by rw [Lb,Lb];exact k)) ⟨i,c,?_⟩
  rw [e]
  exact z j
def bL (n d:Nat):Option Int->Nat
 |none=>d
 |some v=>if v<0 then (v+(n:Int)).toNat else min v.toNat n
def AE (n d:Nat):bL n d none=d:=rfl
def oW (n d k:Nat):bL n d (some (k:Int))=min k n:=by
 show (if (k:Int)<0 then ((k:Int)+(n:Int)).toNat else min (k:Int).toNat n)=min k n
 rw [KS Z6,MM]
def Fa (n d:Nat)(b:d<=n)(o:Option Int):bL n d o<=n:=by
 cases o with
 |none=>exact b
 |some v=>
  show (if v<0 then (v+(n:Int)).toNat else min v.toNat n)<=n
  by_cases a:v<0
  .rw [K4 a];omega
  .rw [KS a];exact Nat.min_le_right _ _
def yJ (v:Int)(n d:Nat):(if v<0 then max (v+(n:Int)) 0 else min v (n:Int))=((bL n d (some v):Nat):Int):=by
 show (if v<0 then max (v+(n:Int)) 0 else min v (n:Int))=(((if v<0 then (v+(n:Int)).toNat else min v.toNat n):Nat):Int)
 by_cases a:v<0
 .simp only [K4 a];omega
 .simp only [KS a];omega
def HI (lo a:Option Int)(n:Nat):Builtin.Slice.sliceAdjust lo a 1 (n:Int)=(((bL n 0 lo:Nat):Int),((bL n n a:Nat):Int)):=by
 have b:¬((1:Int)<0):=by omega
 unfold Builtin.Slice.sliceAdjust
 simp only [b,OW]
 refine Prod.ext ?_ ?_
 .cases lo with
  |none=>rfl
  |some v=>exact yJ v n 0
 .cases a with
  |none=>rfl
  |some v=>exact yJ v n n
def Fd (i j:Nat):Builtin.Slice.slicePlaces (i:Int) (j:Int) 1=j-i:=by
 unfold Builtin.Slice.slicePlaces
 have a:(1:Int)>0:=by omega
 simp only [a,Nz,Int.ediv_one]
 split<;>omega
def Ai{Q:Option Int->Shared->Prop}(p:IsPart v o)(h:Q o s):wpAny (model prog w) A (Builtin.Slice.slicePartIndex v) Q E s:=by
 cases p with
 |none=>exact slicePart_none h
 |int i t=>exact slicePart_int h
def Ij{lo:Option Int}{Q:Int×Int×Nat->Shared->Prop}(g:s.heap.IsSliceOf f d e .none)(i:IsPart d lo)(j:IsPart e a)
  (h:Q (((bL n 0 lo:Nat):Int),1,bL n n a-bL n 0 lo) s):wpAny (model prog w) A (Builtin.Slice.sliceApplied (.ref f) (pure (n:Int))) Q E s:=by
 obtain ⟨os,b,k,c⟩:=id g
 unfold Builtin.Slice.sliceApplied Builtin.Slice.sliceFields
 refine KI (KI (LV b c (x:=d) rfl (KI (LV b c (x:=e) rfl (KI (LV b c (x:=.none) rfl (K5 ?_)))))))
 refine KI (slicePart_none ?_)
 show wpAny _ _ (if ((1:Int)==0)=true then _ else _) _ _ s
 rw [KS Z5]
 refine KI (Ai i (KI (Ai j (KI (K5 ?_)))))
 show wpAny _ _ (match Builtin.Slice.sliceAdjust lo a 1 (n:Int) with|(lo,a)=>pure (lo,(1:Int),Builtin.Slice.slicePlaces lo a 1)) _ _ s
 rw [HI lo a n]
 show wpAny _ _ (pure (((bL n 0 lo:Nat):Int),(1:Int),Builtin.Slice.slicePlaces ((bL n 0 lo:Nat):Int) ((bL n n a:Nat):Int) 1)) _ _ s
 rw [Fd]
 exact K5 h
def GR (a:Array Value)(i k:Nat):((List.range k).filterMap λ(m:Nat)=>a[((i:Int)+(m:Int)*1).toNat]?).toArray=((a.toList.drop i).take k).toArray:=by
 have e:(λ(m:Nat)=>a[((i:Int)+(m:Int)*1).toNat]?)=λm=>a[i+m]?:=by
  funext m
  have:((i:Int)+(m:Int)*1).toNat=i+m:=by omega
  rw [this]
 rw [e]
 have:=pick_run a i k
 rw [List.filterMap_map] at this
 have b:((λx=>a[x]?)∘λx=>i+x)=λm=>a[i+m]?:=rfl
 rw [b] at this
 rw [this]
def Jr{lo:Option Int}{Q:Value->Shared->Prop}(d:IsTup s.heap t a)(n:s.heap.IsSliceOf e k l .none)(o:IsPart k lo)(p:IsPart l c)
  (r:¬(bL a.size 0 lo=0/\bL a.size a.size c=a.size))
  (h:Q (.ref s.heap.objs.size) {s with heap:=s.heap.push {cls:=.type "tuple",data:=.seq ((a.toList.drop (bL a.size 0 lo)).take (bL a.size a.size c-bL a.size 0 lo)).toArray}})
  (u:a.size<=sizeLine):wpAny (model prog w) A (getItem (.ref t) (.ref e)) Q E s:=by
 have b:sizeOk (.seq ((a.toList.drop (bL a.size 0 lo)).take (bL a.size a.size c-bL a.size 0 lo)).toArray):=by
  show ((a.toList.drop (bL a.size 0 lo)).take (bL a.size a.size c-bL a.size 0 lo)).toArray.size<=sizeLine
  rw [Lb,Lx,No,Nt]
  omega
 have x:bL a.size a.size c<=a.size:=Fa _ _ (KR _) c
 obtain ⟨os,f,g,v⟩:=id n
 have i:s.TypeIs (.ref e) "slice":=⟨os,f,g⟩
 unfold getItem
 try with_reducible refine Mp ?_
 first|refine KI (K5 ?_)|skip
 refine KI (wpAny_sequenceKey d.typeIs Z5 ?_)
 refine KI (L1 (name:=Str.ofString "__getitem__") d.typeIs MT
  (MX MT d.typeIs entry_tuple_getitem ?_ (args_tuple_getitem _ _)))
 show wpAny _ _ (Builtin.Tuple.tupleItemsOf (.ref t)>>=_) _ _ s
 refine KI (tupleItemsOf_ d ?_)
 refine KI (Om i ?_)
 rw [K4 Z5]
 refine KI (Ij n o p ?_)
 have j:¬((((bL a.size 0 lo:Nat):Int)==0&&(1:Int)==1&&(bL a.size a.size c-bL a.size 0 lo)==a.size)=true):=by
  intro q
  rw [LP,LP] at q
  have y:((bL a.size 0 lo:Nat):Int)=0:=eq_of_beq q.1.1
  have z:bL a.size a.size c-bL a.size 0 lo=a.size:=eq_of_beq q.2
  exact r ⟨by omega,by omega⟩
 show wpAny _ _ (if (((bL a.size 0 lo:Nat):Int)==0&&(1:Int)==1&&(bL a.size a.size c-bL a.size 0 lo)==a.size)=true then _ else _) _ _ s
 rw [KS j,GR]
 first
  |exact KI (m:=Builtin.Tuple.tupleExact _) (Mj (K5 ⟨_,rfl,K5 h⟩) b)
  |exact KI (m:=Builtin.Tuple.tupleExact _) (Mj (KI (K5 (K5 ⟨_,rfl,K5 h⟩))) b)
  |exact KI (KI (m:=Builtin.Tuple.tupleExact _) (Mj (K5 (K5 ⟨_,rfl,K5 h⟩)) b))
  |exact KI (KI (m:=Builtin.Tuple.tupleExact _) (Mj (K5 ⟨_,rfl,K5 h⟩) b))
end
end HT
namespace L2
open PySem PySem.Spec PyProof.Rows
abbrev TO:=St->Hp->(Option Int->Hp->Prop)->Prop
def PO (X:Cx)(e:Option Expr)(t:TO):Prop:=
 ∀(pins:List (Addr×Obj)) (s:Shared) (σ:St) (H:Hp) (Q:Option Int->Hp->Prop),Inv X pins σ H s->t σ H Q->
  wpAny (model X.prog X.w) X.A (evalPart e X.env) (λu s'=>∃o H',Inv X pins σ H' s'/\IsPart u o/\Q o H') X.xe s
def xI:TO:=λ_ H Q=>Q none H
def sP (t:TE):TO:=λσ H Q=>t σ H λx H1=>∃i,x=.int i/\Q (some i) H1
section
variable {X:Cx}{e:Expr}{te:TE}{lo hi:Option Expr}{tl th:TO}{pos p2:Pos}
def pe:PO X none xI:=by
 intro a s b H Q I h
 rw [evalPart_none]
 exact K5 ⟨none,H,I,.none,h⟩
def mr (h:PE X e te):PO X (some e) (sP te):=by
 intro a s b H Q I c
 rw [evalPart_some]
 refine aQ (h a s b H _ I c) λu k ⟨x,d,f,g,j⟩=>?_
 obtain ⟨i,rfl,q⟩:=j
 obtain ⟨t,rfl⟩:=g
 exact ⟨some i,d,f,.int i t,q⟩
def wa (X:Cx)(r:V->Option Int->Option Int->Hp->VK->Prop):Prop:=
 ∀(pins:List (Addr×Obj)) (s:Shared) (σ:St) (H:Hp) (x:V) (v vl vu:Value) (lo hi:Option Int) (sl:Addr) (Q:VK),Inv X pins σ H s->RelV x v->s.heap.IsSliceOf sl vl vu .none->IsPart vl lo->IsPart vu hi->r x lo hi H Q->
  ∃T id,typeLookup (.type T) "__getitem__"=pure (some (.builtin id))/\s.TypeIs v T/\wpAny (model X.prog X.w) X.A (getItem v (.ref sl)) (EP X pins σ Q) X.xe s
def vQ (r:V->Option Int->Option Int->Hp->VK->Prop)(te:TE)(tl th:TO):TE:=λσ H Q=>te σ H λx H1=>tl σ H1 λl H2=>th σ H2 λu H3=>r x l u H3 Q
def nj(j:wa X r)(k:PE X e te)(m:PO X lo tl)(n:PO X hi th):PE X (.Subscript e (.Slice lo hi none p2) pos) (vQ r te tl th):=by
 intro a s d H Q I h
 refine Subscript_ (aQ (k a s d H _ I h) λv o ⟨x,p,t,y,z⟩=>?_)
 refine wpAny_Slice (aQ (m a o d p _ t z) λf B ⟨l,C,E,G,J⟩=>aQ (n a B d C _ E J) λg c ⟨u,i,L,M,N⟩=>?_)
 rw [evalPart_none]
 refine K5 ?_
 have O:Inv X a d i {c with heap:=c.heap.push {cls:=.type "slice",data:=.fields #[f,g,.none]}}:=L.kept (t':=c.toks) λb ob q=>KO _ q
 obtain ⟨T,id,U,Y,hg⟩:=j a {c with heap:=c.heap.push {cls:=.type "slice",data:=.fields #[f,g,.none]}} d i x v f g l u c.heap.objs.size Q O y (Heap.IsSliceOf.new ..) G M N
 show wpAny (model X.prog X.w) X.A (subscriptTail e (.Slice lo hi none p2) v (.ref c.heap.objs.size)) (EP X a d Q) X.xe {c with heap:=c.heap.push {cls:=.type "slice",data:=.fields #[f,g,.none]}}
 exact tail_any (ops:=[.ref c.heap.objs.size,v]) Y U hg (by with_unfolding_all rfl)
def gL (xs:List V)(lo hi:Option Int):List V:=(xs.drop (HT.bL xs.length 0 lo)).take (HT.bL xs.length xs.length hi-HT.bL xs.length 0 lo)
def y4 (a:List V)(lo hi:Option Int):(gL a lo hi).length<=a.length:=by
 unfold gL
 rw [Lx,No]
 omega
def zF (K:PySem.W.Frag):V->Option Int->Option Int->Hp->VK->Prop:=λx lo hi H Q=>∃a xs,x=.ref a/\bo K H a xs/\
 ¬(HT.bL xs.length 0 lo=0/\HT.bL xs.length xs.length hi=xs.length)/\∀p,H p=none->Q (.ref p) (upd H p (.tup (gL xs lo hi)))
def qu:wa X (zF X.K):=by
 intro pins s σ H x v vl vu lo hi sl Q I rx hs pl pu h
 obtain ⟨a,xs,rfl,hx,hw,q⟩:=h
 cases rx
 obtain ⟨its,r,ht,hz⟩:=I.tuple hx
 have hlen:its.toArray.size=xs.length:=by rw [Lb];exact r.length.symm
 refine ⟨"tuple",_,MT.lookup,ht.typeIs,?_⟩
 refine HT.Jr ht hs pl pu (by rw [hlen];exact hw) ?_ (by rw [hlen];exact hz)
 rw [hlen]
 refine ⟨.ref s.heap.objs.size,_,I.laid (t':=s.toks) (o:=.tup (gL xs lo hi)) (λb ob q=>KO _ q) (KR _) ?_,rfl,q _ (I.aw.fresh (KR _))⟩
 exact ⟨Lk (y4 xs lo hi) hz,_,(r.drop (HT.bL xs.length 0 lo)).take (HT.bL xs.length xs.length hi-HT.bL xs.length 0 lo),IsTup.new _ _⟩
def Eo (K:PySem.W.Frag):R2:=λx y H Q=>∃a b xs ys,x=.ref a/\y=.ref b/\bo K H a xs/\bo K H b ys/\xs≠[]/\xs.length+ys.length<=sizeLine/\
 (ys=[]->Q (.ref a) H)/\(ys≠[]->∀p,H p=none->Q (.ref p) (upd H p (.tup (xs++ys))))
def a9.qS(r:a9 a b):b=[]↔a=[]:=by
 cases r with
 |nil=>simp
 |cons _ _=>simp
def Gq:cD X (binaryOp .Add) (Eo X.K):=by
 intro pins s σ H x y v u Q I rx ry h
 obtain ⟨a,b,xs,ys,rfl,rfl,ha,hb,hx,hz,q1,q2⟩:=h
 cases rx
 cases ry
 obtain ⟨its,r1,p1,_⟩:=I.tuple ha
 obtain ⟨its2,r2,p2,_⟩:=I.tuple hb
 refine HT.Dg p1 p2 (λz=>hx (r1.qS.mp z)) (λz=>⟨.ref a,H,I,rfl,q1 (r2.qS.mp z)⟩) (λz=>?_) (by rw [<-r1.length,<-r2.length];exact hz)
 refine ⟨.ref s.heap.objs.size,_,I.laid (t':=s.toks) (o:=.tup (xs++ys)) (λb ob q=>KO _ q) (KR _) ?_,rfl,q2 (λw=>z (r2.qS.mpr w)) _ (I.aw.fresh (KR _))⟩
 exact ⟨by rw [Lh];exact hz,_,r1.append r2,IsTup.new _ _⟩
end
end L2
namespace L2
open PySem PySem.Spec PyProof.Rows
def lG (n:Nat)(i:Int):Option Nat:=if 0<=i then (if i<n then some i.toNat else none) else if-(n:Int)<=i then some (i+n).toNat else none
def c7 {α:Type}(xs:List α)(i:Int):Option α:=(lG xs.length i).bind λj=>xs[j]?
def Hu(h:lG n i=some j):seqIndex? i n=some j/\j<n/\-(n:Int)<=i/\i<n:=by
 unfold lG at h
 by_cases b:0<=i
 .rw [K4 b] at h
  by_cases a:i<n
  .rw [K4 a] at h
   have e:i.toNat=j:=K8 h
   exact ⟨by rw [seqIndex_of b a,e],by omega,by omega,a⟩
  .rw [KS a] at h;cases h
 .rw [KS b] at h
  by_cases a:-(n:Int)<=i
  .rw [K4 a] at h
   have e:(i+n).toNat=j:=K8 h
   exact ⟨by rw [seqIndex_neg Z6 a,e],by omega,a,by omega⟩
  .rw [KS a] at h;cases h
def jF(h:c7 a i=some v):∃j,seqIndex? i a.length=some j/\a[j]?=some v/\j<a.length/\-(a.length:Int)<=i/\i<a.length:=by
 unfold c7 at h
 cases e:lG a.length i with
 |none=>rw [e] at h;cases h
 |some j=>
  rw [e] at h
  obtain ⟨c,d,f,g⟩:=Hu e
  exact ⟨j,c,h,d,f,g⟩
def su{j:Nat}(h:a[j]?=some v):c7 a (j:Int)=some v:=by
 have c:j<a.length:=(KJ.mp h).1
 have e:lG a.length (j:Int)=some j:=by
  unfold lG
  rw [K4 Z6,K4 Z6];simp
 unfold c7;rw [e];exact h
def qC (b:Expr):Prop:=∀o i,subscripted b false o i=operate [o,i] (getItem o i)
def jZ (X:Cx)(r:R2):Prop:=
 ∀(value slice:Expr) (pins:List (Addr×Obj)) (s:Shared) (σ:St) (H:Hp) (x y:V) (v u:Value) (Q:VK),Inv X pins σ H s->RelV x v->RelV y u->r x y H Q->
  subscripted slice false v u=operate [v,u] (getItem v u)->wpAny (model X.prog X.w) X.A (subscriptTail value slice v u) (EP X pins σ Q) X.xe s
def qJ (X:Cx)(id:String)(r:V->List V->Hp->VK->Prop):Prop:=
 ∀(pins:List (Addr×Obj)) (s:Shared) (σ:St) (H:Hp) (x:V) (xs:List V) (v:Value) (us:List Value) (Q:VK),Inv X pins σ H s->RelV x v->a9 xs us->r x xs H Q->
  wpAny (model X.prog X.w) X.A (call (.builtin id) (v::us)) (EP X pins σ Q) X.xe s
section
variable {X:Cx}{a b:Expr}{ta tb:TE}{pos:Pos}
def jZ.or(h:jZ X r)(l:jZ X f):jZ X (λx y H Q=>r x y H Q\/f x y H Q):=by
 intro c d e s g H x y v u Q I i j q k
 rcases q with q|q
 .exact h c d e s g H x y v u Q I i j q k
 .exact l c d e s g H x y v u Q I i j q k
def D6(d:jZ X r)(e:PE X a ta)(f:PE X b tb)(g:qC b):PE X (.Subscript a b pos) (bz r ta tb):=by
 intro c s i H Q I h
 exact Subscript_ (vX e f I h λv u j x y k l m n q=>d a b c j i k x y v u Q l m n q (g _ _))
def Bn (K:PySem.W.Frag):R2:=λx y H Q=>∃p xs i v,x=.ref p/\y=.int i/\aO K H p xs/\c7 xs i=some v/\Q v H
def Bc (K:PySem.W.Frag):R2:=λx y H Q=>∃p xs i v,x=.ref p/\y=.int i/\bo K H p xs/\c7 xs i=some v/\Q v H
def zZ:R2:=λx y H Q=>∃z i c,x=.str z/\y=.int i/\z.length<=sizeLine/\c7 z.cps.toList i=some c/\Q (.str ⟨#[c]⟩) H
def DU:jZ X (Bn X.K):=by
 intro f g c s o H x y v u Q I E G h A
 obtain ⟨p,Y,i,z,rfl,rfl,J,L,q⟩:=h
 cases E
 obtain ⟨t,rfl⟩:=G
 obtain ⟨k,r,l,hz⟩:=I.list J
 obtain ⟨j,e,M,h3,N,O⟩:=jF L
 obtain ⟨w,B,m⟩:=r.get M
 have T:=r.length
 have hn:=pr
 have d:EP X c o Q w s:=⟨z,H,I,m,q⟩
 by_cases C:0<=i
 .have n:i.toNat=j:=by
   rw [seqIndex_of C O] at e
   exact K8 e
  exact item_listR l.isList C Z6 (by rw [n];simpa using B) d A
 .have n:(i+(k.toArray.size:Int)).toNat=j:=by
   rw [seqIndex_neg Z6 N] at e
   rw [Lb,<-T]
   exact K8 e
  exact subscriptTail_builtinR (x:=w) l.isList.typeIs slot_list_getitem.lookup
   (wpAny_getItem_list_neg (Q:=λr U=>r=w/\EP X c o Q r U) l.isList Z6 (by rw [Lb]<;>omega) Z6 (by rw [n];simpa using B) ⟨rfl,d⟩) A
def De:jZ X (Bc X.K):=by
 intro d e c s k H x y v u Q I m n h o
 obtain ⟨p,N,i,z,rfl,rfl,A,B,q⟩:=h
 cases m
 obtain ⟨t,rfl⟩:=n
 obtain ⟨C,r,l,O⟩:=I.tuple A
 obtain ⟨j,E,G,T,U,Y⟩:=jF B
 obtain ⟨w,J,f⟩:=r.get G
 have L:=r.length
 have hn:=pr
 have g:EP X c k Q w s:=⟨z,H,I,f,q⟩
 exact subscriptTail_builtinR (x:=w) l.typeIs slot_tuple_getitem.lookup
  (getItem_tuple (j:=j) (Q:=λr M=>r=w/\EP X c k Q r M) l Z6 Z6 (by rw [Lb,<-L];exact E) (by simpa using J) ⟨rfl,g⟩) o
def Im:jZ X zZ:=by
 intro d e f s C H x y v u Q I k l h m
 obtain ⟨z,i,c,rfl,rfl,E,n,q⟩:=h
 obtain ⟨t,rfl⟩:=k
 obtain ⟨G,rfl⟩:=l
 obtain ⟨j,g,o,J,p,r⟩:=jF n
 have w:z.cps.toList.length=z.length:=by simp [Str.length]
 rw [w] at g p r
 have L:=pr
 exact tail_any (typeIs_str s z t) slot_str_getitem.lookup (getItem_str (c:=c) (by
  have A:decide (i< -(2^63:Int))=false:=Lp Z6
  have B:decide (i≥2^63)=false:=Lp Z6
  rw [A,B,Bool.or_false]) (by rw [g];simpa using o) ⟨.str ⟨#[c]⟩,H,I.tok _,⟨_,rfl⟩,q⟩) m
def eF (K:PySem.W.Frag):R2:=λx y H Q=>Bn K x y H Q\/Bc K x y H Q\/zZ x y H Q
def Gd:jZ X (eF X.K):=DU.or (De.or Im)
def Hd (lo hi:Option Int)(n:Nat):(sliceBounds lo hi none n).1=((HT.bL n 0 lo:Nat):Int)/\(sliceBounds lo hi none n).2.1=((HT.bL n n hi:Nat):Int)/\(sliceBounds lo hi none n).2.2=1:=by
 refine ⟨?_,?_,rfl⟩
 .cases lo with
  |none=>simp [sliceBounds,HT.bL]
  |some i=>
   simp only [sliceBounds,HT.bL,OX,show (1:Int)>0 by decide,Nz]
   by_cases h:i<0
   .simp only [h,Nz]<;>omega
   .simp only [h,OW]<;>omega
 .cases hi with
  |none=>simp [sliceBounds,HT.bL]
  |some i=>
   simp only [sliceBounds,HT.bL,OX,show (1:Int)>0 by decide,Nz]
   by_cases h:i<0
   .simp only [h,Nz]<;>omega
   .simp only [h,OW]<;>omega
def EU (its:List Value)(lo hi:Option Int):slicePick its.toArray lo hi none=((its.drop (HT.bL its.length 0 lo)).take (HT.bL its.length its.length hi-HT.bL its.length 0 lo)).toArray:=by
 obtain ⟨h1,h2,h3⟩:=Hd lo hi its.toArray.size
 unfold slicePick
 rw [h1,h2,h3]
 simp only [sliceRange_one,pick_run,Lb]<;>rfl
def AJ (K:PySem.W.Frag):V->Option Int->Option Int->Hp->VK->Prop:=λx lo hi H Q=>∃a xs,x=.ref a/\aO K H a xs/\∀p,H p=none->Q (.ref p) (upd H p (.lst (gL xs lo hi)))
def zk:wa X (AJ X.K):=by
 intro pins s σ H x v vl vu lo hi sl Q I rx hs pl pu h
 obtain ⟨a,xs,rfl,hx,q⟩:=h
 cases rx
 obtain ⟨its,r,ht,hz⟩:=I.list hx
 have hlen:=r.length
 refine ⟨"list",_,slot_list_getitem.lookup,ht.isList.typeIs,?_⟩
 refine wpAny_getItem_list_slice ht.isList hs pl pu .none Z8 ?_ (by rw [Lb]<;>omega)
 rw [EU,<-hlen]
 refine ⟨.ref s.heap.objs.size,_,I.laid (t':=s.toks) (o:=.lst (gL xs lo hi)) (λb ob q=>KO _ q) (KR _) ?_,rfl,q _ (I.aw.fresh (KR _))⟩
 exact ⟨Lk (y4 xs lo hi) hz,_,0,(r.drop (HT.bL xs.length 0 lo)).take (HT.bL xs.length xs.length hi-HT.bL xs.length 0 lo),Lc _ rfl⟩
def Ke:h9 X (.builtin "len") (λj H Q=>∃p d,j=[.ref p]/\(aO X.K H p d\/bo X.K H p d)/\Q (.int d.length) H):=by
 intro k s n H j o Q I r h
 obtain ⟨p,d,rfl,e,q⟩:=h
 obtain ⟨u,rfl,l⟩:=OU r
 cases l
 have t:=pr
 rcases e with e|e
 .obtain ⟨f,g,i,m⟩:=I.list e
  have c:=g.length
  exact Calls.call_len_list i.isList (by simp only [Lb]<;>omega) ⟨.int d.length,H,I.tok _,⟨s.toks+1,by rw [Lb,c]⟩,q⟩
 .obtain ⟨f,g,i,m⟩:=I.tuple e
  have c:=g.length
  exact len_tuple i (by simp only [Lb]<;>omega) ⟨.int d.length,H,I.tok _,⟨s.toks+1,by rw [Lb,c]⟩,q⟩
def Hw:h9 X (.type "list") (λC H Q=>∃p f,C=[.ref p]/\(aO X.K H p f\/bo X.K H p f)/\∀l,H l=none->Q (.ref l) (upd H l (.lst f))):=by
 intro j s G H C L Q I r h
 obtain ⟨p,f,rfl,k,q⟩:=h
 obtain ⟨u,rfl,J⟩:=OU r
 cases J
 have m:∀(c:List Value),a9 f c->f.length<=sizeLine->∀(d:Heap) (g:Nat),(∀b E,s.heap.get? b=some E->d.get? b=some E)->
   d.get? s.heap.objs.size=some {cls:=.type "list",dict:=none,data:=.seq c.toArray g,slots:= #[]}->EP X j G Q (.ref s.heap.objs.size) {s with heap:=d}:=λc i t d g v e=>
  ⟨.ref s.heap.objs.size,_,I.laid (t':=s.toks) v (KR _) (show bP X.prog X.w _ d _ (.lst f) from ⟨t,c,g,i,e⟩),rfl,q _ (I.aw.fresh (KR _))⟩
 rcases k with k|k
 .obtain ⟨c,i,y,t⟩:=I.list k
  have x:=i.length
  obtain ⟨o,z,A,n,B⟩:=y.isList
  exact call_list_seq p (.inl rfl) z A B (λd g v e=>m c i t d g v e) (by simp only [Lb]<;>omega)
 .obtain ⟨c,i,y,t⟩:=I.tuple k
  have x:=i.length
  obtain ⟨o,z,A,n,B⟩:=y
  exact call_list_seq p (.inr rfl) z A B (λd g v e=>m c i t d g v e) (by simp only [Lb]<;>omega)
def JE:h9 X (.type "tuple") (λm H Q=>∃p f,m=[.ref p]/\((aO X.K H p f/\∀l,H l=none->Q (.ref l) (upd H l (.tup f)))\/(bo X.K H p f/\Q (.ref p) H))):=by
 intro c s n H m B Q I r h
 obtain ⟨p,f,rfl,h⟩:=h
 obtain ⟨u,rfl,y⟩:=OU r
 cases y
 rcases h with ⟨i,q⟩|⟨i,q⟩
 .obtain ⟨d,j,k,t⟩:=I.list i
  have v:=j.length
  refine call_tuple_list k.isList (λg z=>?_) (by simp only [Lb]<;>omega)
  have x:Inv X c n H {s with heap:=g}:=I.kept (t':=s.toks) z
  have A:Inv X c n (upd H g.objs.size (.tup f)) {s with heap:=g.push {cls:=.type "tuple",data:=.seq d.toArray}}:=
   x.laid (t':=s.toks) (λb o e=>KO _ e) (KR _) (show bP X.prog X.w _ _ _ (.tup f) from ⟨t,d,j,IsTup.new _ _⟩)
  exact ⟨.ref g.objs.size,_,A,rfl,q _ (x.aw.fresh (KR _))⟩
 .obtain ⟨d,j,k,t⟩:=I.tuple i
  exact call_tuple_same k ⟨.ref p,H,I,rfl,q⟩
def gj (K:PySem.W.Frag)(T:String)(x:V)(H:Hp):Prop:=match x with
 |.str _=>T="str"
 |.int _=>T="int"
 |.ref p=>(T="list"/\∃xs,aO K H p xs)\/(T="tuple"/\∃o,K.lookup p=some o/\o.cls=.type "tuple"/\o.dict=none)\/
   (T="dict"/\((∃kvs,H p=some (.dK kvs))\/∃kvs,H p=some (.dT kvs)))\/(T="set"/\∃S n,H p=some (.set S n))
 |_=>False
def BM(I:Inv X g u H s)(r:RelV x v)(h:gj X.K T x H):
  s.TypeIs v T/\∀a,v=.ref a->∃m,s.heap.get? a=some m/\m.dict=none:=by
 cases x with
 |str z=>
  obtain ⟨t,rfl⟩:=r
  cases (show T="str" from h)
  exact ⟨typeIs_str s z t,λ_ e=>nomatch e⟩
 |int i=>
  obtain ⟨t,rfl⟩:=r
  cases (show T="int" from h)
  exact ⟨typeIs_int s i t,λ_ e=>nomatch e⟩
 |ref p=>
  cases r
  rcases h with ⟨rfl,B,w⟩|⟨rfl,o,d,y,j⟩|⟨rfl,d⟩|⟨rfl,S,n,d⟩
  .obtain ⟨A,_,q,_⟩:=I.list w
   refine ⟨q.isList.typeIs,λa e=>?_⟩
   cases e
   obtain ⟨o,n,e,c,j,_⟩:=q
   exact ⟨o,e,j⟩
  .refine ⟨⟨o,I.cZ p o d,y⟩,λa e=>?_⟩
   cases e
   exact ⟨o,I.cZ _ o d,j⟩
  .have z:∃o,s.heap.get? p=some o/\o.ExactDict:=by
    rcases d with ⟨k,d⟩|⟨k,d⟩
    .obtain ⟨_,_,_,_,o,_,_,e,f,_⟩:=I.aw p _ d
     exact ⟨o,e,f⟩
    .obtain ⟨_,_,_,_,o,_,_,e,f,_⟩:=I.aw p _ d
     exact ⟨o,e,f⟩
   obtain ⟨o,e,f⟩:=z
   refine ⟨⟨o,e,f.1⟩,λa l=>?_⟩
   cases l
   exact ⟨o,e,f.2.1⟩
  .obtain ⟨o,_,_,_,e,f,_⟩:=I.aw p _ d
   refine ⟨⟨o,e,f.1⟩,λa l=>?_⟩
   cases l
   exact ⟨o,e,f.2.1⟩
 |_=>exact False.elim h
def ri (K:PySem.W.Frag)(T:String)(r:V->List V->Hp->VK->Prop)(to:TE):TE:=λσ H Q=>to σ H λx H1=>gj K T x H1/\r x [] H1 Q
def lJ (K:PySem.W.Frag)(T:String)(r:V->List V->Hp->VK->Prop)(to:TE)(t:TA):TE:=λσ H Q=>to σ H λx H1=>gj K T x H1/\t σ H1 λxs H2=>r x xs H2 Q
variable {o e:Expr}{es:List Expr}{to:TE}{t:TA}{name:Str}{apos cpos:Pos}{T id:String}{r:V->List V->Hp->VK->Prop}
def sm (m:PlainAttrs T)(g:Slot T name id)(i:typeOf (.builtin id)=pure (.type "method_descriptor"))(n:qJ X id r)(p:PE X o to)
  (d:attributeBase o name X.env (eval o X.env)=eval o X.env:=by rfl) (f:(apos.endLine==cpos.line)=true:=by rfl):PE X (.Call (.Attribute o name apos) [] [] cpos) (ri X.K T r to):=by
 intro c s j H Q I h
 refine wpAny_Call_method0_late d f (aQ (p c s j H _ I h) λv q ⟨x,u,k,l,w,y⟩=>?_)
 obtain ⟨z,A⟩:=BM k l w
 exact ⟨T,id,m,g,i,z,A,Mz rfl (PySem.evalArgs_none (n c q j u x [] v [] Q k l .nil y))⟩
def oT (q:PlainAttrs T)(i:Slot T name id)(k:typeOf (.builtin id)=pure (.type "method_descriptor"))(u:qJ X id r)(w:PE X o to)(y:PA X (e::es) t)
  (f:attributeBase o name X.env (eval o X.env)=eval o X.env:=by rfl)
  (j:((backTo cpos (starEach (e::es) X.env)).all (λx=> !x.1)&&(backToKw cpos (keywordEach [] X.env)).all (λx=>x.1.isSome)
   &&decide ((e::es).length+([]:List Keyword).length+(if ([]:List Keyword).isEmpty then 0 else 1)<30))=true:=by rfl)
  (g:(apos.endLine==cpos.line)=true:=by rfl) (z:starEach (e::es) X.env=(false,eval e X.env)::starEach es X.env:=by rfl) (d:(backTo cpos (starEach es X.env)).any (·.1)=false:=by rfl):
  PE X (.Call (.Attribute o name apos) (e::es) [] cpos) (lJ X.K T r to t):=by
 intro c s l H Q I h
 refine wpAny_Call_method_late f j g rfl (aQ (w c s l H _ I h) λv A ⟨x,B,m,n,C,E⟩=>?_)
 obtain ⟨G,J⟩:=BM m n C
 refine ⟨T,id,q,i,k,G,J,?_⟩
 have p:=y cpos c A l B _ m E
 rw [z] at p⊢
 refine Mz (by show (false||(backTo cpos (starEach es X.env)).any (·.1))=false;rw [d]<;>rfl) (N6 ?_)
 exact aQ p λL M ⟨N,O,U,Y,q2⟩=>u c M l O x N v L Q U n Y q2
end
end L2
namespace L2
open PySem PySem.Spec PyProof.Rows
def vR (X:Cx)(id:String)(r:V->List V->Hp->VK->Prop):Prop:=
 ∀(pins:List (Addr×Obj)) (s:Shared) (σ:St) (H:Hp) (x:V) (xs:List V) (v:Value) (us:List Value) (Q:VK),Inv X pins σ H s->RelV x v->a9 xs us->r x xs H Q->
  wpAny (model X.prog X.w) X.A (call (.builtin id) (v::us)) (EP X pins σ Q) X.xe s
def a9.one:∀{x:V} {a:List Value},a9 [x] a->∃u,a=[u]/\RelV x u
 |_,_,.cons r .nil=>⟨_,rfl,r⟩
def a9.two:∀{x y:V} {a:List Value},a9 [x,y] a->∃u v,a=[u,v]/\RelV x u/\RelV y v
 |_,_,_,.cons r (.cons q .nil)=>⟨_,_,rfl,r,q⟩
def a9.zero:∀{a:List Value},a9 [] a->a=[]
 |_,.nil=>rfl
def a9.dropLast(h:a9 a b):a9 a.dropLast b.dropLast:=by
 induction h with
 |nil=>exact .nil
 |cons r t c=>
  cases t with
  |nil=>exact .nil
  |cons q d=>exact .cons r c
def J5(l:List c):l.eraseIdx (l.length-1)=l.dropLast:=by
 induction l with
 |nil=>rfl
 |cons a r d=>
  cases r with
  |nil=>rfl
  |cons b r=>
   have e:(a::b::r).length-1=((b::r).length-1)+1:=by
    have f:(a::b::r).length=r.length+2:=rfl
    have g:(b::r).length=r.length+1:=rfl
    omega
   rw [e,List.eraseIdx_cons_succ,d]
   all_goals rfl
section
variable {X:Cx}{pins:List (Addr×Obj)}{σ:St}{H:Hp}{s:Shared}{l b:Addr}{xs ys zs:List V}
def Inv.we{a its':List Value}{f:Array Value->Array Value}(I:Inv X pins σ H s)(d:H l=some (.lst xs))
  (e:s.heap.get? l=some {cls:=.type "list",data:=.seq a.toArray n}) (g:f a.toArray=its'.toArray) (h:a9 ys its') (i:ys.length<=sizeLine):
  Inv X pins σ (upd H l (.lst ys)) {s with heap:=s.heap.update l (Obj.mapSeq f),toks:=c}:=by
 have q:=PySem.IsL.update e f
 rw [g] at q
 refine I.write (x:=l) (e:=l) (by rw [d];exact trivial) (.inl rfl) (λm u j k=>(Ml s.heap (Obj.mapSeq f) (LN j)).trans k) ⟨_,q⟩ ?_
 exact ⟨i,its',_,h,q⟩
def Inv.Iw(I:Inv X pins σ H s)(c:a9 ys a)(d:ys.length<=sizeLine):
  Inv X pins σ (upd H s.heap.objs.size (.lst ys)) {s with heap:=s.heap.push {cls:=.type "list",data:=.seq a.toArray},toks:=t'}:=
 I.laid (λ_ _ q=>KO _ q) (KR _) ⟨d,a,0,c,Lc _ rfl⟩
def Inv.fresh (I:Inv X pins σ H s):H s.heap.objs.size=none:=I.aw.fresh (KR _)
def Inv.n9 (I:Inv X pins σ H s)(c:H l=some (.lst xs)):xs.length<=sizeLine/\∃(a:List Value) (n:Nat),a9 xs a/\xs.length=a.length/\s.heap.get? l=some {cls:=.type "list",data:=.seq a.toArray n}:=by
 obtain ⟨z,a,n,r,e⟩:=I.aw l _ c
 exact ⟨z,a,n,r,r.length,e⟩
def ul(h:n<=sizeLine):Builtin.List.listTooLong n=false:=by
 unfold Builtin.List.listTooLong
 exact Lp Z6
end
section
variable {X:Cx}
def nK:V->List V->Hp->VK->Prop:=λx vs H Q=>∃l xs y,x=.ref l/\vs=[y]/\H l=some (.lst xs)/\xs.length<sizeLine/\Q .av (upd H l (.lst (xs++[y])))
def zI:vR X "list.append" nK:=by
 intro b s i H x j v k Q I d f h
 obtain ⟨l,m,y,rfl,rfl,c,o,q⟩:=h
 cases d
 obtain ⟨u,rfl,g⟩:=f.one
 obtain ⟨z,a,n,r,p,e⟩:=I.n9 c
 refine Py F.slot_list_append ⟨_,e,rfl⟩ F.entry_list_append (F.args_list_append_2 _ _) (PySem.list_append l a.toArray n u (by rw [Lb];omega)) ⟨e,?_⟩
 refine ⟨.av,_,I.we (its':=a++[u]) c e Z8 (r.append (.cons g .nil)) ?_,rfl,q⟩
 rw [Lh,Mi]
 omega
def Bg:V->List V->Hp->VK->Prop:=λx vs H Q=>∃l b xs zs,x=.ref l/\vs=[.ref b]/\H l=some (.lst xs)/\H b=some (.lst zs)/\xs.length+zs.length<=sizeLine/\Q .av (upd H l (.lst (xs++zs)))
def tw:vR X "list.extend" Bg:=by
 intro g s A H x B v C Q I j k h
 obtain ⟨l,b,E,G,rfl,rfl,i,m,J,q⟩:=h
 cases j
 obtain ⟨u,rfl,o⟩:=k.one
 cases o
 obtain ⟨z,c,n,r,L,e⟩:=I.n9 i
 obtain ⟨M,a,p,t,w,y⟩:=I.n9 m
 have f:c.toArray.size+a.toArray.size<=sizeLine:=by rw [Lb,Lb];omega
 have d:¬(!c.toArray.isEmpty&&Builtin.List.listTooLong (c.toArray.size+a.toArray.size))=true:=by
  rw [ul f,Ov]
  exact K0
 refine Py Mu ⟨_,e,rfl⟩ F.entry_list_extend (F.args_list_extend_2 _ _)
  (AutoSeq1.list_extend_list_list_0 l c.toArray n b a.toArray p d (by rw [Lb];omega) Z6) ⟨e,y,?_⟩
 refine ⟨.av,_,I.we (its':=c++a) i e Z8 (r.append t) ?_,rfl,q⟩
 rw [Lh]
 omega
def Bp:V->List V->Hp->VK->Prop:=λx vs H Q=>∃l xs y,x=.ref l/\vs=[]/\H l=some (.lst xs)/\xs[xs.length-1]?=some y/\Q y (upd H l (.lst xs.dropLast))
def vc:vR X "list.pop" Bp:=by
 intro d s p H x t v w Q I g i h
 obtain ⟨l,A,y,rfl,rfl,f,j,q⟩:=h
 cases g
 have b:=i.zero
 subst b
 obtain ⟨z,a,n,r,k,e⟩:=I.n9 f
 obtain ⟨u,m,o⟩:=r.get j
 have c:a.toArray[a.toArray.size-1]?=some u:=by
  show a.toArray[a.length-1]?=some u
  rw [<-Ph,<-k]
  exact m
 refine Py Np ⟨_,e,rfl⟩ F.entry_list_pop (F.args_list_pop_1 _) (MeetsSeq.list_pop_last l a.toArray n u c (by rw [Lb];omega)) ⟨e,?_⟩
 refine ⟨y,_,I.we (its':=a.dropLast) f e ?_ r.dropLast ?_,o,q⟩
 .show a.toArray.eraseIdxIfInBounds (a.toArray.size-1)=a.dropLast.toArray
  rw [Lb,List.eraseIdxIfInBounds_toArray,J5]
 .rw [List.length_dropLast]
  omega
def xS:R2:=λx y H Q=>∃l b xs zs,x=.ref l/\y=.ref b/\H l=some (.lst xs)/\H b=some (.lst zs)/\xs.length+zs.length<=sizeLine/\∀p,H p=none->Q (.ref p) (upd H p (.lst (xs++zs)))
def k9:cD X (binaryOp .Add) xS:=by
 intro d s t H x y v u Q I f g h
 obtain ⟨l,b,w,A,rfl,rfl,i,j,B,q⟩:=h
 cases f
 cases g
 obtain ⟨z,c,n,r,C,e⟩:=I.n9 i
 obtain ⟨E,a,G,k,m,o⟩:=I.n9 j
 refine PySem.P.add_list e o ?_ (by rw [Lb,Lb];omega)
 have p:c.toArray++a.toArray=(c++a).toArray:=by simp
 rw [p]
 exact ⟨.ref _,_,I.Iw (t':=s.toks) (r.append k) (by rw [Lh];omega),rfl,q _ I.fresh⟩
end
section
variable {prog:Program}{w:World}{A:Around}{E:Value->Shared->Prop}{s:Shared}
def DD {a c n:Nat}(b:a<=c)(f:c<=n):sliceBounds (some (a:Int)) (some (c:Int)) none n=((a:Int),(c:Int),1):=by
 simp only [sliceBounds,OX]
 have d:¬((a:Int)<0):=by omega
 have e:¬((c:Int)<0):=by omega
 simp only [d,e,OW,show (1:Int)>0 by decide,Nz]
 congr 1
 .omega
 .congr 1;omega
set_option maxRecDepth 100000 in
def KA{n I:Nat}{a c:Nat}{Q:Unit->Shared->Prop}
  (e:s.heap.get? l=some {cls:=.type "list",data:=.seq d n}) (H:s.heap.get? b=some {cls:=.type "list",data:=.seq g I}) (y:l≠b)
  (J:s.heap.IsSliceOf q u v .none) (L:IsPart u (some (a:Int))) (M:IsPart v (some (c:Int))) (z:a<=c) (N:c<=d.size)
  (k:d.size+g.size<=sizeLine) (h:Q () {s with heap:=s.heap.update l (Obj.mapSeq λi=>i.extract 0 a++g++i.extract c i.size)}):
  wpAny (model prog w) A (setItem (.ref l) (.ref q) (.ref b)) Q E s:=by
 have B:s.heap.IsList l d:=PySem.IsL.isList e
 have O:s.heap.IsList b g:=PySem.IsL.isList H
 obtain ⟨os,j,C,o⟩:=id J
 have r:s.TypeIs (.ref q) "slice":=⟨os,j,C⟩
 have p:¬((rawPart none==rawInt 0)=true):=K0
 have f:Builtin.List.listSameRef (.ref l) (.ref b)=false:=by
  unfold Builtin.List.listSameRef
  exact L0.mpr y
 have t:(max (a:Int) (c:Int)).toNat=c:=by omega
 have G:((λi:Array Value=>i.extract 0 a++g++i.extract c i.size) d).size<=sizeLine+1:=by
  simp only [Array.size_append,Array.size_extract]
  omega
 unfold setItem
 try with_reducible refine Mp ?_
 first|refine KI (K5 ?_)|skip
 refine KI (wpAny_sequenceKey B.typeIs Z5 ?_)
 refine KI (L1 (name:=Str.ofString "__setitem__") B.typeIs slot_list_setitem
  (MX slot_list_setitem B.typeIs entry_list_setitem ?_ (args_list_setitem _ _ _)))
 show wpAny _ _ (Builtin.List.listSubscript? (.ref q)>>=_) _ _ s
 refine KI ?_
 unfold Builtin.List.listSubscript?
 refine KI (wpAny_specialOf r slice_no_index ?_)
 simp only [Option.isNone_none,Nz]
 refine K5 ?_
 show wpAny _ _ (typeOf (.ref q)>>=_) _ _ s
 refine KI (Om r ?_)
 first
  |rw [KS Z5]
  |refine Ow Z5 ?_
 rw [listSliceParts_eq]
 refine KI (KI (LV j o (x:=.none) rfl (KI (Pn .none ?_))))
 rw [KS p]
 refine KI (LV j o (x:=u) rfl (KI (Pn L ?_)))
 refine KI (LV j o (x:=v) rfl (KI (Pn M (K5 ?_))))
 first
  |simp only [f,Ox,OW]
  |refine Ow f ?_
  |(dsimp only
    rw [KS (by rw [f];exact K0)])
 refine KI (m:=Builtin.List.listAllItems (.ref b) "must assign iterable to extended slice") ?_
 unfold Builtin.List.listAllItems
 refine KI (Om O.typeIs ?_)
 first
  |refine PySem.W.KFB.if_so Z5 ?_
  |rw [K4 Z5]
  |simp only [NY,Bool.true_or,Nz]
 unfold Builtin.List.listItems
 refine KI (LX H rfl (K5 ?_))
 refine KI (KI (LX e rfl (K5 ?_)))
 refine KI (Po ((sliceIndices_raw (some (a:Int)) (some (c:Int)) none d.size Z8).trans (LL (pure:Int×Int×Int->Sem (Int×Int×Int)) (DD z N))) ?_)
 show wpAny _ _ (if ((1:Int)==1)=true then _ else _) _ _ s
 rw [K4 Z5]
 refine KI (NF ?_)
 first
  |simp only [ul k,Ox,OW]
  |refine Ow (ul k) ?_
 first|refine KI (K5 ?_)|skip
 show wpAny _ _ (updateSeq l (λi=>i.extract 0 ((a:Int)).toNat++g++i.extract (max (a:Int) (c:Int)).toNat i.size)>>=_) _ _ s
 rw [t,MM]
 refine KI (Ob (hz:=Lk (LS _ _) k) (_hz':=G) e rfl ?_)
 refine KI (Nh ?_)
 first
  |exact KI (K5 (K5 ⟨.none,rfl,K5 h⟩))
  |exact K5 ⟨.none,rfl,K5 h⟩
end
section
variable {X:Cx}
end
end L2
namespace L2
open PySem PySem.Spec PyProof.Rows
section
variable {κ:Type} [DecidableEq κ]
def bn (kvs:List (κ×V))(k:κ):Option V:=(kvs.find? λkv=>decide (kv.1=k)).map (·.2)
def bX (kvs:List (κ×V))(k:κ)(v:V):List (κ×V):=
 if (kvs.any λkv=>decide (kv.1=k))=true then kvs.map (λkv=>if kv.1=k then (kv.1,v) else kv) else kvs++[(k,v)]
def f9{p:κ×V}(e:p.1=k):bn (p::r) k=some p.2:=by simp [bn,LY,e]
def fV{p:κ×V}(e:¬p.1=k):bn (p::r) k=bn r k:=by simp [bn,LY,e]
def jC (k:κ):∀a:List (κ×V),(a.any λb=>decide (b.1=k))=(bn a k).isSome
 |[]=>rfl
 |p::r=>by
  rw [OO]
  by_cases e:p.1=k
  .simp only [f9 e,Ln e,Bool.true_or,Option.isSome_some]
  .rw [fV e,Lp e,Bool.false_or];exact jC k r
def Ci (k j:κ)(y:V):∀a:List (κ×V),bn (a.map λb=>if b.1=k then (b.1,y) else b) j=(bn a j).map λx=>if j=k then y else x
 |[]=>rfl
 |p::r=>by
  have c:=Ci k j y r
  rw [LB]
  by_cases h:p.1=k
  .rw [K4 h]
   by_cases e:p.1=j
   .rw [f9 (p:=(p.1,y)) e,f9 e,NA,K4 (e.symm.trans h)]
   .rw [fV (p:=(p.1,y)) e,fV e,c]
  .rw [KS h]
   by_cases e:p.1=j
   .rw [f9 (p:=p) e,f9 e,NA,KS (λz=>h (e.trans z))]
   .rw [fV (p:=p) e,fV e,c]
def xH (k j:κ)(y:V):∀a:List (κ×V),bn a k=none->bn (a++[(k,y)]) j=if j=k then some y else bn a j
 |[],_=>by
  by_cases e:k=j
  .rw [K4 e.symm];exact f9 (p:=(k,y)) e
  .rw [KS (λz=>e z.symm)];exact fV (p:=(k,y)) e
 |p::r,b=>by
  rw [N7]
  have c:¬p.1=k:=λz=>by rw [f9 z] at b;cases b
  rw [fV c] at b
  have d:=xH k j y r b
  by_cases e:p.1=j
  .rw [f9 e,f9 e,KS (λz=>c (e.trans z))]
  .rw [fV e,fV e,d]
def wU (b:List (κ×V))(k j:κ)(y:V):bn (bX b k y) j=if j=k then some y else bn b j:=by
 unfold bX
 by_cases a:(b.any λc=>decide (c.1=k))=true
 .rw [K4 a,Ci]
  rw [jC] at a
  by_cases e:j=k
  .obtain ⟨x,d⟩:=ON.mp a
   rw [K4 e,e,d,NA,K4 rfl]
  .rw [KS e]
   cases bn b j with
   |none=>rfl
   |some x=>rw [NA,KS e]
 .rw [KS a]
  refine xH k j y b ?_
  rw [jC] at a
  cases q:bn b k with
  |none=>rfl
  |some x=>rw [q] at a;exact (a rfl).elim
def mx (a:List (κ×V))(k:κ)(v:V):(bX a k v).length<=a.length+1:=by
 unfold bX
 split
 .rw [KP];omega
 .rw [Lh,Lr,MR];omega
def uk {a:List (κ×V)}{k:κ}(v:V)(h:bn a k=none):bX a k v=a++[(k,v)]:=by
 unfold bX
 rw [jC,h]
 exact KS Z5
def eE.pc(r:eE o u):o.isSome=u.isSome:=by
 cases o with
 |none=>cases u with
  |none=>rfl
  |some _=>exact (show False from r).elim
 |some _=>cases u with
  |none=>exact (show False from r).elim
  |some _=>rfl
def eE.getD(r:eE o u)(b:RelV d a):RelV (o.getD d) (u.getD a):=by
 cases o with
 |none=>cases u with
  |none=>exact b
  |some _=>exact (show False from r).elim
 |some _=>cases u with
  |none=>exact (show False from r).elim
  |some _=>exact r
def KV.val(r:KV a f)(k:κ):eE (bn a k) (valueAt f k):=by
 unfold KV at r
 induction r with
 |nil=>exact True.intro
 |@cons p q l c h t i=>
  obtain ⟨g,j⟩:=h
  by_cases e:p.1=k
  .have d:q.1=k:=g.symm.trans e
   have b:valueAt (q::c) k=some q.2:=by simp [valueAt,LY,d]
   rw [f9 e,b];exact j
  .have d:¬q.1=k:=λz=>e (g.trans z)
   have b:valueAt (q::c) k=valueAt c k:=by simp [valueAt,LY,d]
   rw [fV e,b];exact i
def KV.any(r:KV a c)(k:κ):(a.any λb=>decide (b.1=k))=c.any λb=>decide (b.1=k):=by
 unfold KV at r
 induction r with
 |nil=>rfl
 |cons h t d=>rw [OO,OO,d,h.1]
def KV.mv(r:KV b d)(k:κ)(f:RelV y u):
  KV (b.map λa=>if a.1=k then (a.1,y) else a) (d.map λa=>if a.1=k then (a.1,u) else a):=by
 unfold KV at r⊢
 induction r with
 |nil=>exact .nil
 |@cons p q j l h t g=>
  rw [LB,LB]
  refine .cons ?_ g
  obtain ⟨c,i⟩:=h
  by_cases e:p.1=k
  .rw [K4 e,K4 (c.symm.trans e)];exact ⟨c,f⟩
  .rw [KS e,KS (λz=>e (c.trans z))];exact ⟨c,i⟩
def KV.put(r:KV a b)(k:κ)(c:RelV y u):KV (bX a k y) (stored b k u):=by
 unfold bX stored
 rw [r.any k]
 by_cases e:(b.any λd=>decide (d.1=k))=true
 .rw [K4 e,K4 e];exact r.mv k c
 .rw [KS e,KS e];exact Paired.snoc r ⟨rfl,c⟩
def KV.length(r:KV a b):a.length=b.length:=MC r
end
def j8(r:RelV (kV k) u):(dq P w).is k u=true:=by
 cases k with
 |inl i=>obtain ⟨t,e⟩:=(show∃t,u=Value.int i t from r);subst e;exact Hq P w i t
 |inr x=>obtain ⟨t,e⟩:=(show∃t,u=Value.str x t from r);subst e;exact HG P w x t
def z9:∀{a:List aG} {b:List Value},a9 (a.map kV) b->ItemsAre (dq P w) a b
 |[],_,r=>by rw [Nq] at r;cases r;exact .nil
 |k::a,_,r=>by
  rw [LB] at r
  cases r with
  |cons h t=>exact .cons (j8 h) (z9 t)
abbrev KT (H:Hp):List (List aG×V)->List (List aG×Addr×Value)->Prop:=Paired λp q=>p.1=q.1/\H q.2.1=some (.tup (p.1.map kV))/\RelV p.2 q.2.2
def KT.val(r:KT H a f)(k:List aG):eE (bn a k) ((atKey f k).map (·.2)):=by
 induction r with
 |nil=>exact True.intro
 |@cons p q l c h t i=>
  obtain ⟨g,_,j⟩:=h
  by_cases e:p.1=k
  .have d:q.1=k:=g.symm.trans e
   have b:atKey (q::c) k=some q.2:=by simp [atKey,LY,d]
   rw [f9 e,b];exact j
  .have d:¬q.1=k:=λz=>e (g.trans z)
   have b:atKey (q::c) k=atKey c k:=by simp [atKey,LY,d]
   rw [fV e,b];exact i
def KT.mv(r:KT H a d)(k:List aG)(g:RelV y u):
  KT H (a.map λc=>if c.1=k then (c.1,y) else c) (d.map (putAt k u)):=by
 induction r with
 |nil=>exact .nil
 |@cons p q l m h t i=>
  rw [LB,LB]
  refine .cons ?_ i
  obtain ⟨b,f,j⟩:=h
  unfold putAt
  by_cases e:p.1=k
  .rw [K4 e,K4 (b.symm.trans e)];exact ⟨b,f,g⟩
  .rw [KS e,KS (λz=>e (b.trans z))];exact ⟨b,f,j⟩
def KT.put(r:KT H a c)(k:List aG)(f:H b=some (.tup (k.map kV)))(d:RelV y u):
  KT H (bX a k y) (storedH c k b u):=by
 have e:(a.any λg=>decide (g.1=k))=(atKey c k).isSome:=by
  rw [jC,(r.val k).pc,OI]
 unfold bX storedH
 rw [e]
 by_cases q:(atKey c k).isSome=true
 .rw [K4 q,K4 q];exact r.mv k d
 .rw [KS q,KS q];exact Paired.snoc r ⟨rfl,f,d⟩
def KT.keeps{c:Hp}(r:KT H a d)(f:∀b e,H b=some (.tup e)->c b=some (.tup e)):KT c a d:=
 Paired.vi r λ_ _ z=>⟨z.1,f _ _ z.2.1,z.2.2⟩
section
variable {P:Program}{w:World}{H:Hp}{h:Heap}{a:Addr}
def xU(b:cT P w H h)(e:Rd H a u):bP P w H h a u:=e.ok b
def hJ(d:cT P w H h)(e:Rd H a (.dK b)):b.length<=sizeLine/\(a==sysModules)=false/\∃c,KV b c/\h.DictOf (dq P w) a c:=
 show bP P w H h a (.dK b) from xU d e
def AY(d:cT P w H h)(e:H a=some (.dK b)):b.length<=sizeLine/\(a==sysModules)=false/\∃c,KV b c/\h.DictOf (dq P w) a c:=hJ d (.inl e)
def kl {b:List aG}(d:cT P w H h)(e:H a=some (.tup (b.map kV))):(tupleKind (dq P w)).is h b a:=by
 obtain ⟨_,c,r,o,f,g,n,i⟩:=(show bP P w H h a (.tup (b.map kV)) from d a _ e)
 exact ⟨o,c.toArray,n,f,g,i,by simpa using z9 r⟩
def ju(f:cT P w H h)(e:Rd H a (.dT b)):b.length<=sizeLine/\(a==sysModules)=false/\
  ∃d,KT H b d/\h.DictOfH (tupleKind (dq P w)) a d:=by
 obtain ⟨z,y,d,r,o,i,j,k,n,s,u,v⟩:=(show bP P w H h a (.dT b) from xU f e)
 refine ⟨z,y,d,r,o,i,j,k,n,s,u,λx c=>?_,v⟩
 have all:∀{l:List (List aG×V)} {m:List (List aG×Addr×Value)},KT H l m->∀x∈m,(tupleKind (dq P w)).is h x.1 x.2.1:=by
  intro l m q
  induction q with
  |nil=>intro x c;exact nomatch c
  |@cons p q B C g t A=>
   intro x c
   rcases KY.mp c with e|c
   .subst e
    exact kl f (by rw [<-g.1];exact g.2.1)
   .exact A x c
 exact all r x c
def yp(d:cT P w H h)(e:H a=some (.dT b)):b.length<=sizeLine/\(a==sysModules)=false/\
  ∃c,KT H b c/\h.DictOfH (tupleKind (dq P w)) a c:=ju d (.inl e)
end
def cN (H:Hp)(a:Addr)(y:V)(r:Option V):Prop:=
 (∃kvs k,Rd H a (.dK kvs)/\y=kV k/\r=bn kvs k)\/∃kvs k b,Rd H a (.dT kvs)/\y=.ref b/\H b=some (.tup (k.map kV))/\r=bn kvs k
def f6 (H:Hp)(a:Addr)(y v:V)(H':Hp):Prop:=
 (∃kvs k,H a=some (.dK kvs)/\y=kV k/\kvs.length<sizeLine/\H'=upd H a (.dK (bX kvs k v)))\/
 ∃kvs k b,H a=some (.dT kvs)/\y=.ref b/\H b=some (.tup (k.map kV))/\kvs.length<sizeLine/\H'=upd H a (.dT (bX kvs k v))
def cN.k {H:Hp}{a:Addr}{b:List (aG×V)}{k:aG}(e:H a=some (.dK b)):cN H a (kV k) (bn b k):=.inl ⟨b,k,.inl e,rfl,rfl⟩
def cN.t{H:Hp}{k:List aG}(e:H a=some (.dT c))(d:H b=some (.tup (k.map kV))):cN H a (.ref b) (bn c k):=.inr ⟨c,k,b,.inl e,rfl,d,rfl⟩
def f6.k {H:Hp}{a:Addr}{b:List (aG×V)}{k:aG}{v:V}(e:H a=some (.dK b))(c:b.length<sizeLine):f6 H a (kV k) v (upd H a (.dK (bX b k v))):=.inl ⟨b,k,e,rfl,c,rfl⟩
def f6.t{H:Hp}{k:List aG}(e:H a=some (.dT c))(d:H b=some (.tup (k.map kV)))(f:c.length<sizeLine):
  f6 H a (.ref b) v (upd H a (.dT (bX c k v))):=.inr ⟨c,k,b,e,rfl,d,f,rfl⟩
section
variable {X:Cx}{pins:List (Addr×Obj)}{σ:St}{H:Hp}{s:Shared}{a:Addr}{y v:V}{u r:Value}{o:Option V}{A:Around}{E:Value->Shared->Prop}
def Inv.qX (I:Inv X pins σ H s):sysModules<s.heap.objs.size:=by
 have h:mainGlobals<s.heap.objs.size:=(I.mod.glob.keeps I.bk).lt
 exact Nat.lt_trans Z5 h
def Ct {Q:Value->Shared->Prop}(x:A.units+1<cLine)(I:Inv X pins σ H s)(g:cN H a y (some v))(q:RelV y u)(h:∀d t,Inv X pins σ H t->RelV v d->Q d t):
  wpAny (model X.prog X.w) A (getItem (.ref a) u) Q E s:=by
 rcases g with ⟨f,k,e,i,l⟩|⟨f,k,b,e,i,B,l⟩
 .subst i
  obtain ⟨z,C,G,bD,j⟩:=hJ I.aw e
  obtain ⟨d,m,c⟩:=eE.some_of (v:=v) (o:=valueAt G k) (by rw [l];exact bD.val k)
  exact wpAny_getItem_of (j8 q) j.mapOf m (h d _ (I.tok _) c)
 .subst i
  cases (show u=Value.ref b from q)
  obtain ⟨z,C,J,bD,j⟩:=ju I.aw e
  obtain ⟨d,m,c⟩:=eE.some_of (v:=v) (o:=(atKey J k).map (·.2)) (by rw [l];exact bD.val k)
  obtain ⟨p,L,n⟩:=LW.mp m
  refine wpAny_getItem_heap (Mn x) (kl I.aw B) j L ?_
  rw [n]
  exact h d _ (I.tok _) c
def ER {Q:Value->Shared->Prop}(n:A.units+1<cLine)(I:Inv X pins σ H s)(g:cN H a y o)(j:RelV y u)(h:∀m,Inv X pins σ H m->Q (.bool o.isSome) m):
  wpAny (model X.prog X.w) A (compareOp .In u (.ref a)) Q E s:=by
 rcases g with ⟨c,k,e,d,l⟩|⟨c,k,b,e,d,p,l⟩
 .subst d
  obtain ⟨z,f,t,bD,i⟩:=hJ I.aw e
  refine wpAny_in_of (j8 j) f i.mapOf ?_
  rw [<-(bD.val k).pc,<-l]
  exact h _ (I.tok _)
 .subst d
  cases (show u=Value.ref b from j)
  obtain ⟨z,f,x,bD,i⟩:=ju I.aw e
  refine wpAny_in_heap (Mn n) (kl I.aw p) f i ?_
  have q:=(bD.val k).pc
  rw [OI] at q
  rw [<-q,<-l]
  exact h _ (I.tok _)
def Dh {Q:Value->Shared->Prop}(n:A.units+1<cLine)(I:Inv X pins σ H s)(g:cN H a y o)(j:RelV y u)(h:∀m,Inv X pins σ H m->Q (.bool (!o.isSome)) m):
  wpAny (model X.prog X.w) A (compareOp .NotIn u (.ref a)) Q E s:=by
 rcases g with ⟨c,k,e,d,l⟩|⟨c,k,b,e,d,p,l⟩
 .subst d
  obtain ⟨z,f,t,bD,i⟩:=hJ I.aw e
  refine wpAny_notIn_of (j8 j) f i.mapOf ?_
  rw [<-(bD.val k).pc,<-l]
  exact h _ (I.tok _)
 .subst d
  cases (show u=Value.ref b from j)
  obtain ⟨z,f,x,bD,i⟩:=ju I.aw e
  refine wpAny_notIn_heap (Mn n) (kl I.aw p) f i ?_
  have q:=(bD.val k).pc
  rw [OI] at q
  rw [<-q,<-l]
  exact h _ (I.tok _)
def sw(I:Inv X pins σ H s)(h:pL (H a))(i:Heap.SameBut a s.heap c)(j:∃q,c.get? a=some q)(f:bP X.prog X.w (upd H a d) c a d):
  Inv X pins σ (upd H a d) {s with heap:=c,toks:=g}:=
 I.write (x:=a) (e:=a) h (.inl rfl) (λb q k z=>(i.2 b k).trans z) j f
def tG{d:Heap}{b:List (aG×V)}(z:b.length<=sizeLine)(f:(a==sysModules)=false)(bD:KV b c)(g:d.DictOf (dq P w) a c):
  bP P w e d a (.dK b):=⟨z,f,c,bD,g⟩
def Hk{Q:Unit->Shared->Prop}(T:A.units+1<cLine)(I:Inv X pins σ H s)(g:f6 H a y v C)(G:RelV y u)(J:RelV v r)(h:∀L,Inv X pins σ C L->Q () L):
  wpAny (model X.prog X.w) A (setItem (.ref a) u r) Q E s:=by
 rcases g with ⟨d,k,e,j,l,m⟩|⟨d,k,b,e,j,M,l,m⟩
 .subst j m
  obtain ⟨z,n,U,bD,p⟩:=AY I.aw e
  have t:U.length<=sizeLine:=by rw [<-bD.length];exact z
  have x:(bX d k v).length<=sizeLine:=by have:=mx d k v;omega
  refine wpAny_setItem_pairs (hsz:=t) (j8 G) p λN f B=>h _ ?_
  have Y:∃q,N.get? a=some q:=let ⟨q,_,_,i,_⟩:=f;⟨q,i⟩
  exact sw I (by rw [e];exact True.intro) B Y (tG x n (bD.put k J) f)
 .subst j m
  cases (show u=Value.ref b from G)
  obtain ⟨z,n,xs,bD,p⟩:=yp I.aw e
  have t:xs.length<=sizeLine:=by rw [<-MC bD];exact z
  have x:(bX d k v).length<=sizeLine:=by have:=mx d k v;omega
  refine wpAny_setItem_heap (hsz:=t) (Mn T) (kl I.aw M) p λN f B=>h _ ?_
  obtain ⟨q,es,ep,i,h2,h3,h4,_,h5⟩:=f
  refine sw I (by rw [e];exact True.intro) B ⟨q,i⟩ ⟨x,n,_,(bD.put k M J).keeps λc ys O=>?_,q,es,ep,i,h2,h3,h4,h5⟩
  rw [aC (xv O e (λz=>nomatch z))]
  exact O
end
section
variable {X:Cx}{pins:List (Addr×Obj)}{σ:St}{H:Hp}{s:Shared}{a:Addr}{kvs:List (aG×V)}{k:aG}{u:Value}{A:Around}{E:Value->Shared->Prop}
def FI {Q:Value->Shared->Prop}(I:Inv X pins σ H s)(e:Rd H a (.dK kvs))(h:∀t b,Inv X pins σ H b->Q (.int kvs.length t) b):wpAny (model X.prog X.w) A (call (.builtin "len") [.ref a]) Q E s:=by
 obtain ⟨z,c,f,bD,d⟩:=hJ I.aw e
 refine call_len_dict c d (by rw [<-bD.length];rw [OF] at z;omega) ?_
 rw [<-bD.length]
 exact h _ _ (I.tok _)
end
def yU (i:Expr):Prop:=∀ov iv,subscripted i false ov iv=operate [ov,iv] (getItem ov iv)
def Dp{id:String}
  (q:typeLookup (.type T) "__getitem__"=pure (some (.builtin id))) (t:yU b)
  (h:wpAny (model a w) A (eval c j) (λo f=>wpAny (model a w) A (eval b j) (λi d=>d.TypeIs o T/\wpAny (model a w) A (getItem o i) Q E d) E f) E s):
  wpAny (model a w) A (eval (.Subscript c b n) j) Q E s:=by
 refine Subscript_ (Mh h (λo f l=>Mh l (λi d e=>?_) λ_ _ x=>x) λ_ _ x=>x)
 obtain ⟨p,e⟩:=e
 unfold subscriptTail
 refine KI ?_
 rw [getitemInPython_of_ne p.not_modules]
 refine KI (wpAny_specialOf p q ?_)
 have k:wpAny (model a w) A (subscripted b false o i) (λr g=>wpAny (model a w) A (letTemporaryGo c o r>>=λ_=>pure r) Q E g) E d:=by
  rw [t o i]
  exact wpAny_operating (Mh e (λr g m=>KI (wpAny_letTemporaryGo (K5 m))) λ_ _ x=>x)
 first
  |exact K5 (KI k)
  |exact KI (K5 (KI k))
  |exact KI k
def JH(I:Inv X c h H s)(g:cN H a y o):s.TypeIs (.ref a) "dict":=by
 rcases g with ⟨d,k,e,_,_⟩|⟨d,k,b,e,_,_,_⟩
 .obtain ⟨_,_,i,_,f⟩:=hJ I.aw e
  exact f.typeIs
 .obtain ⟨_,_,j,_,f⟩:=ju I.aw e
  exact f.typeIs
def sX (td ty:TE):TE:=λσ H Q=>td σ H λx H1=>ty σ H1 λy H2=>∃a v,x=.ref a/\cN H2 a y (some v)/\Q v H2
def oO (ty td:TE):TE:=λσ H Q=>ty σ H λy H1=>td σ H1 λx H2=>∃a o,x=.ref a/\cN H2 a y o/\Q (.bl o.isSome) H2
def pH (ty td:TE):TE:=λσ H Q=>ty σ H λy H1=>td σ H1 λx H2=>∃a o,x=.ref a/\cN H2 a y o/\Q (.bl (!o.isSome)) H2
def pz (td ty tv:TE):TS:=λD σ H=>tv σ H λv H1=>td σ H1 λx H2=>ty σ H2 λy H3=>∃a H4,x=.ref a/\f6 H3 a y v H4/\D.nx σ H4
section
variable {X:Cx}{o i e value:Expr}{pos pos' tpos:Pos}{td ty tv:TE}
def tj (j:X.A.units+1<cLine)(k:PE X o td)(l:PE X i ty)(m:yU i):PE X (.Subscript o i pos) (sX td ty):=by
 intro b s d H Q I h
 refine Dp PySem.F.slot_dict_getitem.lookup m (aQ (k b s d H _ I h) λu n ⟨x,p,q,r,t⟩=>aQ (l b n d p _ q t) λG J ⟨y,w,f,z,a,v,B,g,C⟩=>?_)
 subst B
 obtain rfl:u=Value.ref a:=r
 exact ⟨JH f g,Ct j f g z λL M E c=>⟨v,w,E,c,C⟩⟩
def lH (d:X.A.units+1<cLine)(f:PE X i ty)(j:PE X o td):PC X .In i o (oO ty td):=by
 intro b s c H Q I h
 refine aQ (f b s c H _ I h) λC k ⟨y,l,m,n,p⟩=>aQ (j b k c l _ m p) λu E ⟨x,q,r,t,a,v,w,g,z⟩=>?_
 subst w
 obtain rfl:u=Value.ref a:=t
 exact ER d r g n λG B=>⟨.bl v.isSome,q,B,rfl,z⟩
def pE (d:X.A.units+1<cLine)(f:PE X i ty)(j:PE X o td):PC X .NotIn i o (pH ty td):=by
 intro b s c H Q I h
 refine aQ (f b s c H _ I h) λC k ⟨y,l,m,n,p⟩=>aQ (j b k c l _ m p) λu E ⟨x,q,r,t,a,v,w,g,z⟩=>?_
 subst w
 obtain rfl:u=Value.ref a:=t
 exact Dh d r g n λG B=>⟨.bl (!v.isSome),q,B,rfl,z⟩
def ly (d:X.A.units+1<cLine)(f:PE X o td)(j:PE X i ty)(k:PE X value tv)(l:swapsWith value (some (.Subscript o i pos')) pos.line X.env=pure false):
  PS X (.Assign [.Subscript o i pos'] value pos) (pz td ty tv):=by
 intro b s c H D I h
 refine wpAny_Assign_Subscript (aQ (k b s c H _ I h) λr m ⟨v,n,p,q,t⟩=>aQ (f b m c n _ p t) λu w ⟨x,z,B,C,E⟩=>aQ (j b w c z _ B E) λQ T ⟨y,U,G,J,a,L,M,g,N⟩=>?_) l
 subst M
 obtain rfl:u=Value.ref a:=C
 exact Hk d G g J q λY O=>⟨c,L,O,N⟩
end
def FD(h:Heap)(a:sysModules<h.objs.size):bP P w H (h.push {cls:=.type "dict",data:=.dict #[]}) h.objs.size (.dK []):=
 ⟨Ll _,L0.mpr (LN (Ls a)),[],.nil,Heap.DictOf.new h⟩
def Jg(h:Heap)(a:sysModules<h.objs.size):bP P w H (h.push {cls:=.type "dict",data:=.dict #[]}) h.objs.size (.dT []):=
 ⟨Ll _,L0.mpr (LN (Ls a)),[],.nil,_, #[],0,Lc _ rfl,⟨rfl,rfl,rfl⟩,rfl,rfl,NI⟩
def vH:TE:=λ_ H Q=>∀p,H p=none->Q (.ref p) (upd H p (.dK []))
def wx:TE:=λ_ H Q=>∀p,H p=none->Q (.ref p) (upd H p (.dT []))
section
variable {X:Cx}{pos:Pos}
def so:PE X (.Dict [] [] pos) vH:=λb s c H Q I h=>
 wpAny_Dict_empty ⟨.ref s.heap.objs.size,_,I.laid (a:=s.heap.objs.size) (o:=.dK []) (t':=s.toks) (λ_ _ q=>KO _ q) (KR _) (FD s.heap I.qX),rfl,h _ (I.aw.fresh (KR _))⟩
def oQ:PE X (.Dict [] [] pos) wx:=λb s c H Q I h=>
 wpAny_Dict_empty ⟨.ref s.heap.objs.size,_,I.laid (a:=s.heap.objs.size) (o:=.dT []) (t':=s.toks) (λ_ _ q=>KO _ q) (KR _) (Jg s.heap I.qX),rfl,h _ (I.aw.fresh (KR _))⟩
end
def bT (kvs more:List (aG×V)):List (aG×V):=more.foldl (λacc kv=>bX acc kv.1 kv.2) kvs
def KV.merge:∀{a:List (aG×V)} {b:List (aG×Value)} {kvs:List (aG×V)} {vs:List (aG×Value)},KV a b->KV kvs vs->KV (bT kvs a) (merged vs b):=by
 intro a b kvs vs r
 unfold KV at r
 induction r generalizing kvs vs with
 |nil=>intro q;exact q
 |@cons p q f g h t c=>
  intro d
  have e:KV (bX kvs p.1 p.2) (stored vs q.1 q.2):=by
   have:=d.put p.1 h.2
   rw [<-h.1];exact this
  exact c e
def uf:∀(b a:List (aG×V)),(bT a b).length<=a.length+b.length
 |[],a=>by show a.length<=a.length+0;omega
 |p::r,a=>by
  have c:=uf r (bX a p.1 p.2)
  have d:=mx a p.1 p.2
  show (bT (bX a p.1 p.2) r).length<=_
  rw [Lr];omega
structure M2 (X:Cx)(o:Expr)(m:Str)(apos:Pos)(e f:Expr)(cpos:Pos):Prop where
 base:attributeBase o m X.env (eval o X.env)=eval o X.env
 fc:((backTo cpos (starEach [e,f] X.env)).all (fun x=> !x.1)&&(backToKw cpos (keywordEach [] X.env)).all (fun x=>x.1.isSome)
  &&decide (([e,f]:List Expr).length+([]:List Keyword).length+(if ([]:List Keyword).isEmpty then 0 else 1)<30))=true
 line:(apos.endLine==cpos.line)=true
 trees:backTo cpos (starEach [e,f] X.env)=[(false,eval e X.env),(false,eval f X.env)]
def qK (H:Hp)(a:Addr):Prop:=(∃kvs,Rd H a (.dK kvs))\/∃kvs,Rd H a (.dT kvs)
def uM(I:Inv X f l H s)(d:qK H a):
  s.TypeIs (.ref a) "dict"/\(∀b,Value.ref a=.ref b->∃c,s.heap.get? b=some c/\c.dict=none)/\(a==sysModules)=false:=by
 rcases d with ⟨h,e⟩|⟨h,e⟩
 .obtain ⟨_,i,m,_,g⟩:=hJ I.aw e
  refine ⟨g.typeIs,λb q=>?_,i⟩
  cases q
  obtain ⟨c,_,_,j,k,_⟩:=g
  exact ⟨c,j,k.2.1⟩
 .obtain ⟨_,i,n,_,g⟩:=ju I.aw e
  refine ⟨g.typeIs,λb q=>?_,i⟩
  cases q
  obtain ⟨c,_,_,j,k,_⟩:=g
  exact ⟨c,j,k.2.1⟩
section
variable {X:Cx}{pins:List (Addr×Obj)}{σ:St}{H:Hp}{s:Shared}{a:Addr}{y d:V}{u r:Value}{o:Option V}{A:Around}{E:Value->Shared->Prop}
def FJ {Q:Value->Shared->Prop}(t:A.units+1<cLine)(I:Inv X pins σ H s)(g:cN H a y o)(m:RelV y u)(n:RelV d r)(h:∀p q,Inv X pins σ H q->RelV (o.getD d) p->Q p q):
  wpAny (model X.prog X.w) A (call (.builtin "dict.get") [.ref a,u,r]) Q E s:=by
 rcases g with ⟨f,k,e,i,l⟩|⟨f,k,b,e,i,v,l⟩
 .subst i
  obtain ⟨z,j,B,bD,c⟩:=hJ I.aw e
  refine M5 NV c.typeIs O4 (OY _ _ _) (meets_dict_get_default (dq X.prog X.w) a (j8 m) j r) ⟨_,c.mapOf,h _ _ (I.tok _) ?_⟩
  rw [l]
  exact (bD.val k).getD n
 .subst i
  cases (show u=Value.ref b from m)
  obtain ⟨z,j,x,bD,c⟩:=ju I.aw e
  refine M5 NV c.typeIs O4 (OY _ _ _) (meetsH_dict_get_default (tupleKind (dq X.prog X.w)) a b j r) ⟨Mn t,k,x,kl I.aw v,c,h _ _ (I.tok _) ?_⟩
  rw [l]
  exact (bD.val k).getD n
end
def oK (td ty tx:TE):TE:=λσ H Q=>td σ H λx H1=>∃a,x=.ref a/\qK H1 a/\ty σ H1 λy H2=>tx σ H2 λz H3=>∃o,cN H3 a y o/\Q (o.getD z) H3
section
variable {X:Cx}{o e f:Expr}{apos cpos:Pos}{td ty tx:TE}
def tL (k:X.A.units+1<cLine)(l:PE X o td)(n:PE X e ty)(p:PE X f tx)(m:M2 X o "get" apos e f cpos):PE X (.Call (.Attribute o "get" apos) [e,f] [] cpos) (oK td ty tx):=by
 intro b s c H Q I h
 refine wpAny_Call_method m.base m.fc m.line NJ NV PySem.F.type_dict_get (aQ (l b s c H _ I h) λu q ⟨x,r,j,t,a,v,d,w⟩=>?_)
 subst v
 obtain rfl:u=Value.ref a:=t
 obtain ⟨B,C,_⟩:=uM j d
 refine ⟨B,C,?_⟩
 rw [m.trees]
 refine Mz rfl (N6 (M4 (aQ (n b q c r _ j w) λiv E ⟨y,G,J,L,M⟩=>
  M4 (aQ (p b E c G _ J M) λfv s3 ⟨z,N,O,T,ov,g,U⟩=>OH ?_))))
 exact FJ k O g L T λw' s4 Y i=>⟨_,N,Y,i,U⟩
end
section
variable {X:Cx}{pins:List (Addr×Obj)}{σ:St}{H:Hp}{s:Shared}{a:Addr}{kvs:List (aG×V)}{A:Around}{E:Value->Shared->Prop}
end
section
variable {X:Cx}{pins:List (Addr×Obj)}{σ:St}{H:Hp}{s:Shared}{a:Addr}{y:V}{u:Value}{A:Around}{E:Value->Shared->Prop}
end
end L2
namespace Ao
open PySem PySem.W PySem.Calls PyProof.Rows
def Db:∀(c:List Int) (d:List Value),WellAll P h d (c.map WData.int)->IntsAre d c:=by
 intro c
 induction c with
 |nil=>
  intro d w
  rw [Nq] at w
  cases w
  exact .nil
 |cons n c e=>
  intro d w
  rw [LB] at w
  cases w with
  |cons a b=>
   cases a
   exact .cons _ _ (e _ b)
def FX{l:OpenLaw}(s:l.most=some n)
  (e:l.row.toRowW.claim.pre args=true) (k:WellAll P h c args):
  ∃a o b,c=[Value.ref a]/\args=[WData.list (b.map WData.int)]/\h.get? a=some {cls:=.type "list",data:=.seq o.toArray}/\IntsAre o b/\b.length<=n:=by
 have m:WShape.hasAll [] args [.list .int]=true:=(pre_splitW e).1
 have p:l.pre.holds [] {args:=args}=true:=(pre_splitW e).2
 obtain ⟨d,r,rfl,t,u⟩:=hasAllW_cons m
 obtain rfl:=hasAllW_nil u
 obtain ⟨A,rfl,v⟩:=hasW_list t
 obtain ⟨b,rfl⟩:=items_int v
 have f:b.length<=n:=by
  unfold OpenLaw.pre at p
  have i:(WTm.not (.lt (.lit (.int (n:Int))) (.len (.arg 0)))).holds [] {args:=[.list (b.map .int)]}=true:=by
   have i:=(holds_andW p).1
   rw [s] at i
   exact i
  have j:=condW_of i (w_not (w_lt w_lit (w_len_list (w_arg rfl))))
  rw [KP] at j
  refine LC λq=>?_
  have w:(n:Int)<((b.length:Nat):Int):=by omega
  first
   |(rw [Ln w] at j;exact absurd j Z5)
   |(simp at j;omega)
 cases k with
 |cons x y=>
  cases y
  cases x with
  |list z g=>exact ⟨_,_,b,rfl,rfl,z,Db b _ g,f⟩
def Cz (l:OpenLaw)(args:List WData):l.row.toRowW.claim.post args (.bool true) args=true:=
 postW_of (r:=l.row.toRowW) (X:=(true==true))
  (show WShape.has [] (.bool true) .bool=true by first|rfl|decide|simp [WShape.has,WShape.arms,WShape.armsAll])
  (show (WTm.eq .res (.lit (.bool true))).value [] {args:=args,res:=some (.bool true),after:=args}=some (.bool (true==true)) from w_eq_bool (w_res rfl) w_lit) rfl
def CG{l:OpenLaw}{H:World->Heap->Prop}{d:DefRec}
  (N:l.most=some n) (x:d.params.defaults=[])
  (call:∀(w:World) (e b:Shared) (s y:Str->Option Value) (j:Addr) (o:Obj) (z t g:Value) (a:Addr) (i:List Value) (u:List Int),
   Ground q c [] E w e s y b.heap->H w b.heap->
   b.heap.get? j=some o->o.data=.func (docDef d.name d.params d.body d.scope z t g)->b.heap.CodeRec t d.name->s d.name=some (.ref j)->
   b.heap.get? a=some {cls:=.type "list",data:=.seq i.toArray}->IntsAre i u->u.length<=n->b.gens= #[]->
   codeAny (model l.prog w) callerA (.call (.ref j) ⟨[.ref a],[]⟩) (λr v=>r=.ok (.ret (.bool true))/\OldK b.heap v.heap/\v.os=b.os/\AllBare v.gens) b):
  WalkO q c E H l.row.toRowW d [] (λf i=>PySem.call f i):=by
 intro w e b s y G Y j o z t g O kV Q T A I B U J L as k M ac C af
 obtain rfl:O=.none:=Dflts.none I x
 obtain rfl:kV=.none:=Dflts.noKw I
 obtain ⟨a,i,u,rfl,rfl,m,h,p⟩:=FX N k C
 refine enter_call (NL (call w e b s y j o z t g a i u G Y Q (fd_plain T) A B m h p U) λr v hq=>?_)
 obtain ⟨rfl,h2,h3,h4⟩:=hq
 exact ⟨.inl ⟨.bool true,.bool true,[],rfl,λ_=>rfl,.bool true,Cz l _,λ_=>⟨List.Pairwise.nil,λ_ hm=>(nomatch hm)⟩⟩,h2,h3,h4⟩
section
variable {prog:Program}{w:World}{A:Around}{E:Value->Shared->Prop}{s:Shared}{K:Frag}
end
end Ao
namespace L2
open PySem PySem.Spec PyProof.Rows
def Ah:∀{a:List Value} {b:List Int},IntsAre a b->a9 (b.map V.int) a
 |_,_,.nil=>.nil
 |_,_,.cons n t h=>.cons ⟨t,rfl⟩ (Ah h)
def wS (H:Hp):Prop:=∀b,H b=none\/∃o xs,H b=some (.cK o (.lst xs))
def D3{K:PySem.W.Frag}{c:Shared}{p:List Value}
  (KX:K.In c.heap) (B:c.heap.Ns mainGlobals y) (g:c.heap.Ns builtinsNs Q) (U:∀x:Str,x≠"__name__"->Q x=bootBuiltins x) (C:c.heap.NoLimit) (hg:c.gens= #[])
  (O:c.heap.get? a=some {cls:=.type "list",data:=.seq p.toArray}) (hi:IntsAre p A) (hl:A.length<=sizeLine) (hr:cI k callerA)
  (F:∀base:Heap,K.In base->base.Ns mainGlobals y->bq P w K y base CX k T fd [x] sp) (t:∀(s:Shared) (u:Value),BindsTo s fd ⟨[u],[]⟩ [(x,u)])
  (Y:∀H:Hp,wS H->aO K H a (A.map V.int)->sp [.ref a] H (λv _=>v=.bl true) λ_ _ _=>False)
  (ac:∀H e i,CX [] H c (λ_ _ _=>False) e i->False):
  codeAny (model P w) callerA (.call (.ref T) ⟨[.ref a],[]⟩) (λr i=>r=.ok (.ret (.bool true))/\OldK c.heap i.heap/\i.os=c.os/\AllBare i.gens) c:=by
 have rv:=Ah hi
 have E:=hi.length
 have l:∀H:Hp,wS H->aO K H a (A.map V.int)->cT P w H c.heap->(∀b,H b≠none->b=a)->(H a≠none->K.lookup a=none)->
   codeAny (model P w) callerA (.call (.ref T) ⟨[.ref a],[]⟩) (λr i=>r=.ok (.ret (.bool true))/\OldK c.heap i.heap/\i.os=c.os/\AllBare i.gens) c:=by
  intro H hO hS aw hA hK
  have f:∀{b:Addr} {o:Obj},c.heap.get? b=some o->H b=none->(j6 c.heap H).get? b=some o:=λe n=>CB e n
  have af:∀{b:Addr} {o:Obj} {G:Array DictEntry} {I:Nat},c.heap.get? b=some o->o.data=.dict G I->H b=none:=λ{b o G I} e d=>by
   cases q:H b with
   |none=>rfl
   |some u=>
    have e':b=a:=hA b (by rw [q];simp)
    subst e'
    rw [O] at e;cases e
    have d':Data.seq p.toArray _=Data.dict G I:=d
    cases d'
  have j:∀{b:Addr} {m:Str->Option Value},c.heap.Ns b m->(j6 c.heap H).Ns b m:=λ{b m} ⟨o,G,I,e,d,r⟩=>⟨o,G,I,f e (af e d),d,r⟩
  have J:K.In (j6 c.heap H):=λb o e=>f (KX b o e) (by
   cases q:H b with
   |none=>rfl
   |some u=>
    have e':b=a:=hA b (by rw [q];simp)
    subst e'
    rw [hK (by rw [q];simp)] at e;cases e)
  have hM:Mod K y (j6 c.heap H):=⟨J,j B,⟨Q,j g,U⟩,let ⟨mc,h1,h2⟩:=C;⟨mc,j h1,h2⟩⟩
  have e0:mU P w K y (j6 c.heap H) callerA [] c H:=⟨rfl,hM,λb o e=>GD e,Pz (J3 _ _),trivial,λb g=>absurd (show b∈([]:List Addr) from g) Z8,aw,.of_eq hg⟩
  refine NL ((F _ J (j B)).run callerA [] c H ⟨[.ref a],[]⟩ [.ref a] [.ref a] _ _ hr e0 (t c (.ref a)) (.cons rfl .nil) (Y H hO hS)) λr i h=>?_
  cases r with
  |error e=>exact (ac H e i h).elim
  |ok fl=>
   cases fl with
   |next=>exact False.elim h
   |brk=>exact False.elim h
   |cont=>exact False.elim h
   |ret u=>
    obtain ⟨v,H',os,L,un,M,r',q⟩:=h
    have q':v=.bl true:=q
    subst q'
    obtain rfl:u=Value.bool true:=r'
    refine ⟨rfl,OldK.of_keep λb o e=>?_,os,L⟩
    cases q:H b with
    |none=>exact un.keep b o e q (by intro z;exact absurd (show b∈([]:List Addr) from z) Z8) Z8
    |some u=>
     rcases hO b with z|⟨ob,xs,z⟩
     .rw [q] at z;cases z
     .have z2:=un.hZ b ob _ z
      obtain ⟨e1,_⟩:=aw b _ z
      obtain ⟨e2,_⟩:=M b _ z2
      rw [e] at e1;cases e1
      exact e2
 cases hk:K.lookup a with
 |some o=>
  have e:=KX a o hk
  rw [O] at e
  cases e
  refine l (λ_=>none) (λ_=>.inl rfl) (.inr ⟨_,p.toArray,_,hk,rfl,rfl,rfl,by rw [Lb,E];exact hl,by simpa using rv⟩) (λb u z=>by have N:(none:Option HO)=some u:=z;cases N) (λb z=>absurd rfl z) λz=>absurd rfl z
 |none=>
  refine l (λb=>if b=a then some (.cK {cls:=.type "list",data:=.seq p.toArray} (.lst (A.map V.int))) else none) (λb=>?_) (.inl (.inr ⟨{cls:=.type "list",data:=.seq p.toArray},K4 rfl⟩)) (λb u z=>?_) (λb z=>?_) λ_=>hk
  .by_cases g:b=a
   .exact .inr ⟨_,_,K4 g⟩
   .exact .inl (KS g)
  .by_cases g:b=a
   .have N:=(K4 g).symm.trans z
    cases N
    subst g
    exact ⟨O,by rw [KP];exact hl,p,_,rv,O⟩
   .have N:=(KS g).symm.trans z
    cases N
  .by_cases g:b=a
   .exact g
   .exact absurd (KS g) z
end L2
namespace L2
open PySem PySem.Spec PyProof.Rows
def Hs{l:PySem.W.OpenLaw}{L:World->Heap->Prop}{d:DefRec}{K:Params->PySem.W.Frag}{CX:World->gY}{sp:World->Sp}
  (U:l.most=some n) (z:n<=sizeLine) (A:d.params.defaults=[]) (hr:cI k callerA)
  (hY:∀(w:World) (h:Heap),L w h->(K w.params).In h)
  (F:∀(w:World) (m:Str->Option Value) (t:Addr) (h:Heap),(K w.params).In h->h.Ns mainGlobals m->m d.name=some (.ref t)->
   ∃B:FuncData,(∀(s:Shared) (u:Value),BindsTo s B ⟨[u],[]⟩ [(x,u)])/\
    ∀base:Heap,(K w.params).In base->base.Ns mainGlobals m->bq l.prog w (K w.params) m base (CX w) k t B [x] (sp w))
  (C:∀(w:World) (H:Hp) (a:Addr) (y:List Int),y.length<=n->wS H->aO (K w.params) H a (y.map V.int)->sp w [.ref a] H (λv _=>v=.bl true) λ_ _ _=>False)
  (E:∀(w:World) (H:Hp) (s:Shared) (e:Value) (I:Shared),CX w [] H s (λ_ _ _=>False) e I->False):
  PySem.W.WalkO q i Q L l.row.toRowW d [] (λf M=>PySem.call f M):=by
 refine Ao.CG U A λw N p m mb t o pm cd ac a M y G Y ho hd af J r j c hg=>?_
 have O:=hY w _ Y
 obtain ⟨B,hb,hF⟩:=F w m t _ O G.T.g J
 exact D3 O G.T.g G.T.b G.T.builtins G.T.nolimit hg r j (Lk c z) hr hF hb (λH hO hS=>C w H a y c hO hS) λH e I=>E w H p e I
end L2
namespace L2
open PySem PySem.Spec PyProof.Rows
def dS (s:Stmt):Arguments:=match s with
 |.FunctionDef _ a _ _ _ _ _ _ _ _=>a
 |_=>{posonlyargs:=[],args:=[],vararg:=none,kwonlyargs:=[],kw_defaults:=[],kwarg:=none,defaults:=[]}
def dG (s:Stmt):List Stmt:=match s with
 |.FunctionDef _ _ b _ _ _ _ _ _ _=>b
 |_=>[]
def be (s:Stmt):Scope:=match s with
 |.FunctionDef _ _ _ _ _ _ sc _ _ _=>sc
 |_=>{kind:=.function,names:=[],isGenerator:=false,isCoroutine:=false}
abbrev bI:gY:=λ_ _ _ _ _ _=>False
abbrev E0:XK:=λ_ _ _=>False
def tm:my bI X E0:=λ_ _ _ _ _ _ _ h=>h.elim
structure aH (K:PySem.W.Frag)(x qual:Str)(st:Stmt)(f:Addr)(fd:FuncData):Prop where
 ex:∃(oc:Value) (od:Option Addr) (kV doc pm:Value) (an:Option Addr) (cdv ct:Value) (osl:Array (Option Value)),
  fd=PySem.W.fnOf x qual (dS st) (dG st) (be st) .none kV doc pm an cdv ct/\K.lookup f=some ⟨oc,od,.func fd,osl⟩/\PySem.W.codeIn K cdv qual=true
 kp:PySem.W.keepIn K (.ref f)=true
section
variable {P:Program}{w:World}{K:PySem.W.Frag}{mg:Str->Option Value}{base:Heap}
def aH.ok{st:Stmt}{g:Sp}(F:aH K x b st f m)(S:b9 N e (be st))(i:∀vs H Q E,g vs H Q E->vs.length=e.length)
  (d:∀(c:Value) (A:Around) (a:List Env) (s:Shared) (H:Hp) (vs:List V) (Q:VK) (E:XK),cI k (A.deeper (envOfC b (be st) s.heap.objs.size f c))->g vs H Q E->
   ∃t,gu (mh bI P w K mg base N b (be st) f c A a s H E).oF (dG st) t/\t {nx:=λ_ n=>Q .av n,rt:=Q} (start N vs) H):bq P w K mg base bI (k+1) f m e g:=by
 obtain ⟨v,y,kV,o,z,B,c,C,p,rfl,r,j⟩:=F.ex
 refine JC r j S i λA a s H vs Q E u l=>?_
 obtain ⟨t,h,q⟩:=d c A a s H vs Q E u l
 exact ⟨t,h.oF,q⟩
def aH.binds{st:Stmt}{d:List Str}(F:aH K x a st f k)
  (h:∀(kV b e:Value) (g:Option Addr) (c i:Value) (j:List Value),j.length=d.length->bindArgs (PySem.W.fnOf x a (dS st) (dG st) (be st) .none kV b e g c i) ⟨j,[]⟩=pure (d.zip j)):Binds K k d []:=by
 obtain ⟨n,o,kV,b,e,g,c,i,l,rfl,p,m⟩:=F.ex
 exact .all (h kV b e g c i)
def wP{st:Stmt}{kV:Value}(l:K.lookup f=some ⟨j,m,.func (PySem.W.fnOf x a (dS st) (dG st) (be st) .none kV d h g b i),e⟩)
  (c:PySem.W.codeIn K b a=true) (k:PySem.W.keepIn K (.ref f)=true):aH K x a st f (PySem.W.fnOf x a (dS st) (dG st) (be st) .none kV d h g b i):=⟨⟨j,m,kV,d,h,g,b,i,e,rfl,l,c⟩,k⟩
end
def fO(a:cI k A):A.units+1<cLine:=M6 (Nat.add_le_add_left (by decide:1<=64) _) a.units
def cr(h:n<=1000):n<sizeLine:=M6 h Z5
section
variable {X:Cx}
def pv(i:Nat)(c:X.N[i]?=some x:=by rfl)(d:oB X.env.scope x:=by first|exact Or.inl rfl|exact Or.inr (Or.inl rfl)|exact Or.inr (Or.inr rfl))(e:(x==("__debug__":Str))=false:=by decide)
  (b:(x==("__classdict__":Str))=false:=by decide):PE X (.Name x a) (aR i):=Ac c d e b
end
def ab (H H':Hp):Prop:=∀b o,H b=some o->H' b=some o
def ab.refl (H:Hp):ab H H:=λ_ _ h=>h
def ab.trans(a:ab H d)(b:ab d e):ab H e:=λc o h=>b c o (a c o h)
section
variable {κ:Type} [DecidableEq κ]
end
end L2
namespace PySem
section
variable {env:Env}
def Ko (names:List (Str×NameKind)):∀(cs:List (Str×Addr)),(∀n,(n,NameKind.free)∈names->∃c,env.cells.lookup n=some c)->
  ∃cl,(forIn names cs (λ(x:Str×NameKind) (r:List (Str×Addr))=>if (x.2==NameKind.free)=true then (do let c<-cellOf env x.1;pure (ForInStep.yield ((x.1,c)::r))) else pure (ForInStep.yield r)):Sem (List (Str×Addr)))=pure cl/\
   (∀n c,cl.lookup n=some c->env.cells.lookup n=some c\/cs.lookup n=some c)/\(∀n,((n,NameKind.free)∈names\/∃c,cs.lookup n=some c)->∃c,cl.lookup n=some c):=by
 induction names with
 |nil=>intro cs _;exact ⟨cs,rfl,λn c h=>.inr h,λn h=>h.elim (λz=>nomatch z) id⟩
 |cons x r ih=>
  intro cs h
  obtain ⟨n,k⟩:=x
  have hr:∀n,(n,NameKind.free)∈r->∃c,env.cells.lookup n=some c:=λm hm=>h m (KG _ hm)
  by_cases hk:k=.free
  .subst hk
   obtain ⟨c,hc⟩:=h n KN
   obtain ⟨cl,e,h1,h2⟩:=ih ((n,c)::cs) hr
   refine ⟨cl,?_,λm d hd=>?_,λm hm=>?_⟩
   .rw [Oc]
    simp only [NY,Nz]
    have q:cellOf env n=pure c:=by unfold cellOf;rw [hc]
    rw [q]
    exact e
   .rcases h1 m d hd with z|z
    .exact .inl z
    .rw [L8] at z
     by_cases hmn:m=n
     .subst hmn
      simp only [NY] at z
      exact .inl (hc.trans z)
     .have:(m==n)=false:=by simpa using hmn
      rw [this] at z
      exact .inr z
   .refine h2 m ?_
    rcases hm with z|⟨d,z⟩
    .rcases KY.mp z with z|z
     .obtain ⟨rfl,_⟩:=PJ z
      exact .inr ⟨c,by simp [L8]⟩
     .exact .inl z
    .right
     rw [L8]
     cases (m==n)
     .exact ⟨d,z⟩
     .exact ⟨c,rfl⟩
  .have hb:(k==NameKind.free)=false:=by simpa using hk
   obtain ⟨cl,e,h1,h2⟩:=ih cs hr
   refine ⟨cl,?_,h1,λm hm=>h2 m ?_⟩
   .rw [Oc]
    simp only [hb,Ox,OW]
    exact e
   .rcases hm with z|z
    .rcases KY.mp z with z|z
     .exact absurd (PJ z).2.symm hk
     .exact .inl z
    .exact .inr z
def AI {scope:Scope}(h:∀n,(n,NameKind.free)∈scope.names->∃c,env.cells.lookup n=some c):
  ∃a,closureFor scope env=pure a/\(∀n c,a.lookup n=some c->env.cells.lookup n=some c)/\(∀n,(n,NameKind.free)∈scope.names->∃c,a.lookup n=some c):=by
 obtain ⟨a,e,b,d⟩:=Ko scope.names [] h
 refine ⟨a,?_,λn c f=>(b n c f).elim id λz=>(by simp at z),λn g=>d n (.inl g)⟩
 simp only [closureFor]
 have q:=LL (λt=>t>>=λr=>(pure r:Sem (List (Str×Addr)))) e
 exact q
end
section
variable {prog:Program}{w:World}{A:Around}{R:Result->Shared->Prop}{s:Shared}
def CI {elt target iter:Expr}{ifs:List Expr}{scope:Scope}{pos:Pos}{it acc:Value}{env:Env}(I:Nat->Shared->Prop)
  (turn:∀n s,I n s->wpAny (model prog w) A (pyNext it) (λr s₁=>match r with
   |none=>R (.ok .next) s₁
   |some v=>wpAny (model prog w) A (letOwnedTupleGo target it v) (λ_ s₁'=>wpAny (model prog w) A (assign target env v) (λ_ s₂=>
     wpAny (model prog w) A (forIn ifs true λc r=>if r=true then do let ok<-isTrue c env (eval c env);pure (ForInStep.yield ok) else pure (ForInStep.yield r)) (λok s₃=>
      if ok=true then wpAny (model prog w) A (eval elt env) (λx s₄=>
       wpAny (model prog w) A (call (.builtin "list.append") [acc,x]) (λ_ s₅=>∃m,m<n/\I m s₅) (λ_ _=>False) s₄) (λ_ _=>False) s₃
      else∃m,m<n/\I m s₃) (λ_ _=>False) s₂) (λ_ _=>False) s₁') (λ_ _=>False) s₁) (λ_ _=>False) s)
  (n:Nat) (h:I n s):
  codeAny (model prog w) A (.compLoop (.ListComp elt [⟨target,iter,ifs,0⟩] scope pos) 0 it acc env) R s:=by
 refine codeAny_loop rfl I (λn s hI=>?_) n h
 show wpAny _ A ((compTurn (.ListComp elt [⟨target,iter,ifs,0⟩] scope pos) 0 it acc env).onRaise (λx=>do noteFrame x env;theTreesLotGoes x)) _ _ s
 refine wpAny_noted ?_
 rw [compTurn_list]
 refine KI (OM (KI (Mh (turn n s hI) (λr s₁ h₁=>?_) λ_ _ h'=>h'.elim)))
 cases r with
 |none=>exact K5 h₁
 |some v=>
  refine KI (Mh h₁ (λ_ s₁' h₁'=>?_) λ_ _ h'=>h'.elim)
  refine KI (Mh h₁' (λ_ s₂ h₂=>KI (Mh h₂ (λok s₃ h₃=>?_) λ_ _ h'=>h'.elim)) λ_ _ h'=>h'.elim)
  cases ok with
  |false=>exact K5 ⟨rfl,h₃⟩
  |true=>
   exact KI (KI (Mh h₃ (λx s₄ h₄=>KI (Mh h₄ (λ_ s₅ h₅=>K5 (K5 ⟨rfl,h₅⟩)) λ_ _ h'=>h'.elim)) λ_ _ h'=>h'.elim))
end
end PySem
namespace L2
open PySem PySem.Spec PyProof.Rows
def mem_of_lookup:∀{l:List (Str×NameKind)} {x:Str} {k:NameKind},l.lookup x=some k->(x,k)∈l
 |[],_,_,h=>by simp at h
 |(n,j)::r,x,k,h=>by
  rw [L8] at h
  by_cases e:x=n
  .subst e
   simp only [NY] at h
   cases h
   exact KN
  .have:(x==n)=false:=by simpa using e
   rw [this] at h
   exact KG _ (mem_of_lookup h)
def yr {a:Env}:∀{b:List (Str×NameKind)} {x:Str},b.lookup x=some .free->
  (b.map λ(n,k)=>if (k==NameKind.free&&a.scope.kind==.function&&a.kindOf n==some .cell) then (n,NameKind.cell) else (n,k)).lookup x=some .cell\/
  (b.map λ(n,k)=>if (k==NameKind.free&&a.scope.kind==.function&&a.kindOf n==some .cell) then (n,NameKind.cell) else (n,k)).lookup x=some .free
 |[],_,h=>by simp at h
 |(n,k)::r,x,h=>by
  have e:=@yr a r x
  show List.lookup x ((if (k==NameKind.free&&a.scope.kind==.function&&a.kindOf n==some .cell)=true then (n,NameKind.cell) else (n,k))::_)=_\/List.lookup x ((if (k==NameKind.free&&a.scope.kind==.function&&a.kindOf n==some .cell)=true then (n,NameKind.cell) else (n,k))::_)=_
  cases c:x==n with
  |true=>
   simp only [L8,c] at h
   cases h
   by_cases d:(NameKind.free==NameKind.free&&a.scope.kind==.function&&a.kindOf n==some .cell)=true
   .rw [K4 d];simp only [L8,c];exact .inl trivial
   .rw [KS d];simp only [L8,c];exact .inr trivial
  |false=>
   simp only [L8,c] at h
   by_cases d:(k==NameKind.free&&a.scope.kind==.function&&a.kindOf n==some .cell)=true
   .rw [K4 d];simp only [L8,c];exact e h
   .rw [KS d];simp only [L8,c];exact e h
def BP{a:Scope}(c:∀y∈a.names,y.2≠.cell)(i:k=.cell\/k=.free)(h:(relabel a b).names.lookup x=some k):(x,NameKind.free)∈a.names:=by
 obtain ⟨⟨n,j⟩,f,e⟩:=Lg.mp (mem_of_lookup h)
 by_cases d:(j==NameKind.free&&b.scope.kind==.function&&b.kindOf n==some .cell)=true
 .have g:(n,NameKind.cell)=(x,k):=by simpa only [d,Nz] using e
  have l:j=.free:=by
   simp only [LP] at d
   exact NE.mp d.1.1
  subst l
  cases g
  exact f
 .have g:(n,j)=(x,k):=by
   have:=e
   simp only [d] at this
   exact this
  cases g
  rcases i with rfl|rfl
  .exact absurd rfl (c _ f)
  .exact f
section
variable {X:Cx}
def bG (X:Cx)(N':List Str)(scope:Scope)(cl:List (Str×Addr))(C:Addr)(fp:List Addr)(s:Shared)(H:Hp):Cx:=
 {X with N:=N',s₀:=s,H₀:=H,env:=compEnvC scope cl C X.env,outer:=X.stack,stack:=X.stack,ex:=fp,fn:=λ_=>false,pn:=[],xe:=λ_ _=>False}
def mQ (X:Cx)(ifs:List Expr)(t:TT):Prop:=
 ∀(pins:List (Addr×Obj)) (s:Shared) (σ:St) (H:Hp) (Q:Bool->Hp->Prop),Inv X pins σ H s->t σ H Q->
  wpAny (model X.prog X.w) X.A (forIn ifs true λc r=>if r=true then do let ok<-isTrue c X.env (eval c X.env);pure (ForInStep.yield ok) else pure (ForInStep.yield r)) (TP X pins σ Q) X.xe s
def ka:TT:=λ_ H Q=>Q true H
def jm:mQ X [] ka:=λ_ _ _ H _ I h=>wpAny_tests_nil ⟨H,I,h⟩
def gF(h:PT X c t):mQ X [c] t:=λa s b H Q I d=>wpAny_tests_one (h a s b H Q I d)
def A6 (J:It)(D:Addr)(τ₀:St)(g:TG)(tt:TT)(te:TE)(Q:VK)(H:Hp):Prop:=
 ∃W:Nat->Nat->St->Hp->Prop,(∃m,W 0 m τ₀ (upd H D (.lst [])))/\∀i m τ H,W i m τ H->
  (J.stop i H/\Q (.ref D) H)\/
  (J.go i H/\∃N:St->Hp->Prop,(∀τ' H',N τ' H'->∃m',m'<m/\W (i+1) m' τ' H')/\
   ∀x H',J.nk i H x H'->g x τ H' λτ2 H2=>tt τ2 H2 λb H3=>if b=true then te τ2 H3 λv H4=>∃ys,H4 D=some (.lst ys)/\ys.length<sizeLine/\N τ2 (upd H4 D (.lst (ys++[v]))) else N τ2 H3)
def ij (wi:TI)(caps:St->St)(g:TG)(tt:TT)(te:TE):TE:=λσ H Q=>wi σ H λJ H1=>∀D,H1 D=none->A6 J D (caps σ) g tt te Q H1
variable {tg iter elt:Expr}{ifs:List Expr}{scope:Scope}{pos:Pos}{N':List Str}{caps:St->St}{wi:TI}{g:TG}{tt:TT}{te:TE}
def Aj {pins:List (Addr×Obj)}{σ:St}{H2:Hp}{s2:Shared}{J:It}{fp:List Addr}{it:Addr}{tn:Nat->Heap->Prop}{cl:List (Str×Addr)}{Q:VK}{RR:Value->Addr->Result->Shared->Prop}
  (hc:X.calm=true) (hkind:scope.kind=.function) (hcell:∀y∈scope.names,y.2≠.cell)
  (hcap:∀σ:St,σ.length=X.N.length->(caps σ).length=N'.length/\∀(i:Nat) (x:Str) (v:V),N'[i]?=some x->(caps σ)[i]?=some (some v)->scope.names.lookup x=some .free/\∃j:Nat,X.N[j]?=some x/\σ[j]?=some (some v))
  (hfree:∀n,(n,NameKind.free)∈scope.names->X.env.kindOf n=some .cell\/X.env.kindOf n=some .free)
  (hcl1:∀n c,cl.lookup n=some c->X.env.cells.lookup n=some c) (hcl2:∀n,(n,NameKind.free)∈scope.names->∃c,cl.lookup n=some c)
  (hg:∀C s H,PG (bG X N' scope cl C fp s H) tg g) (hts:∀C s H,mQ (bG X N' scope cl C fp s H) ifs tt) (hel:∀C s H,PE (bG X N' scope cl C fp s H) elt te)
  (I2:Inv X pins σ H2 s2) (T:iJ X.prog X.w X.K tg J fp it tn) (st2:tn 0 s2.heap) (f2:∀b∈fp,ib X pins H2 b)
  (k2:∀D,H2 D=none->A6 J D (caps σ) g tt te Q H2)
  (hRR:∀D C s' H' m,Inv X pins σ H' s'->s'.heap.Ns C m->s2.heap.objs.size<=C->H' C=none->Q (.ref D) H'->RR (.ref D) C (.ok .next) s'):
  wpAny (model X.prog X.w) X.A (newList []) (λacc s₃=>wpAny (model X.prog X.w) X.A (newFunctionEnv scope X.env.globals cl [] X.env.qual none .none (some X.env)) (λcenv s₄=>
   codeAny (model X.prog X.w) X.A (.compStart (.ListComp elt [⟨tg,iter,ifs,0⟩] scope pos) 0 (.ref it) acc {cenv with scope:=relabel scope X.env}) (RR acc cenv.locals) s₄) X.xe s₃) X.xe s2:=by
 refine Mj (wpAny_newFunctionEnv hcell (by intro y hy;simp at hy) (λh₁ hns₁ hsb₁=>?_) hkind)
 dsimp only at hns₁ hsb₁⊢
 generalize hH2:s2.heap.push {cls:=.type "list",dict:=none,data:=.seq ([]:List Value).toArray}=HH at hns₁ hsb₁⊢
 have hC:HH.objs.size=s2.heap.objs.size+1:=by rw [<-hH2,Md]
 have hDC:s2.heap.objs.size≠HH.objs.size:=by rw [hC];exact Ls (MW _)
 have hCle:s2.heap.objs.size<=HH.objs.size:=by rw [hC];exact Nat.le_succ _
 have below:∀b,b<s2.heap.objs.size->b≠HH.objs.size/\b≠s2.heap.objs.size:=λb hb=>⟨by rw [hC];exact Ls (NN hb),Ls hb⟩
 have old:∀b o,s2.heap.get? b=some o->h₁.get? b=some o:=λb o e=>hsb₁.extBut b o (below b (Lf e)).1 (KO _ (hH2▸KO _ e))
 have hacc:h₁.get? s2.heap.objs.size=some {cls:=.type "list",data:=.seq ([]:List Value).toArray 0}:=hsb₁.extBut _ _ hDC (KO _ (hH2▸Lc _ rfl))
 have hDn:H2 s2.heap.objs.size=none:=I2.aw.fresh (KR _)
 have hCn:H2 HH.objs.size=none:=I2.aw.fresh hCle
 have fpC:ib X pins H2 HH.objs.size:=I2.gz hCle hCn
 have fplt:∀b∈fp,b<s2.heap.objs.size:=λb hb=>by
  obtain ⟨o,e,_⟩:=T.obj 0 _ st2 b hb
  exact Lf e
 have nstk:∀b∈fp,b∉gW X.stack:=λb hb z=>by
  obtain ⟨_,f1,f2',_⟩:=f2 b hb
  rcases KY.mp (I2.vK b z) with e|e
  .exact f1 e
  .exact f2' e
 obtain ⟨W,⟨m0,w0⟩,turn⟩:=k2 s2.heap.objs.size hDn
 have capok:=hcap σ I2.len
 have ok:(bG X N' scope cl HH.objs.size fp s2 H2).Ok:=
  {mod:=I2.ok.mod
   kind:=hkind
   glob:=I2.ok.glob
   blt:=I2.ok.blt
   above:=hCle
   inj:=λx y c a b=>I2.ok.inj x y c (hcl1 x c a) (hcl1 y c b)
   has:=λx h=>hcl2 x (by
    rcases h with h|h
    .exact BP hcell (.inl rfl) h
    .exact BP hcell (.inr rfl) h)
   ox:=λx c h=>(nomatch h)
   hd:=I2.ok.hd
   frames:=I2.ok.frames
   oI:=.inl rfl
   vT:=λb hb=>⟨(below b (fplt b hb)).1,λx c e=>(f2 b hb).2.2.2.2.1 x c (hcl1 x c e)⟩
   bs:=I2.bs
   jT:=Lk I2.ok.jT I2.sz
   nP:=λb o e hb=>by
    rcases (f2 b hb).2.2.2.1 with z|z
    .exact I2.ok.nP b o e z
    .exact absurd (Lw (Lf (I2.ok.bs b o e).1) z) (Mc _)
   pf:=nstk
   gM:=I2.stack
   kT:=I2.zg}
 have I4:Inv (bG X N' scope cl HH.objs.size fp s2 H2) [] (caps σ) (upd H2 s2.heap.objs.size (.lst [])) {s2 with heap:=h₁,toks:=s2.toks+([]:List (Str×Value)).length}:=by
  refine ⟨ok,rfl,I2.bare,Un.laid old (KR _) hDn,⟨_,hns₁,λi x v e1 e2 e3=>?_⟩,λx c e=>?_,?_,λx c e=>?_,(λp hp=>(nomatch hp)),?_,capok.1⟩
  .obtain ⟨lf,j,e4,e5⟩:=capok.2 i x v e1 e2
   have kx:=hfree x (mem_of_lookup lf)
   have vis:oB X.env.scope x:=by rcases kx with k|k;exact .inr (.inl k);exact .inr (.inr k)
   obtain ⟨m,hn,hl⟩:=I2.loc
   obtain ⟨u,r,l⟩:=hl j x v e4 e5 vis
   refine ⟨u,r,.inr ⟨yr lf,?_⟩⟩
   obtain ⟨c,hcx⟩:=hcl2 x (mem_of_lookup lf)
   have hcx':=hcl1 x c hcx
   refine ⟨c,hcx,?_⟩
   rcases l with ⟨k,_⟩|⟨_,c',ec,⟨o,ho,hd⟩⟩
   .rcases kx with k'|k'<;>(rw [k] at k';cases k')
   .rw [hcx'] at ec;cases ec
    exact ⟨o,old _ o ho,hd⟩
  .obtain ⟨v,o,ho,hd⟩:=I2.cell x c (hcl1 x c e)
   exact ⟨v,o,old _ o ho,hd⟩
  .show upd H2 s2.heap.objs.size (.lst []) HH.objs.size=none
   rw [aC (LN hDC)];exact hCn
  .obtain ⟨v,o,ho,hd⟩:=I2.cell x c (hcl1 x c e)
   rw [aC (Ls (Lf ho))]
   exact I2.gH x c (hcl1 x c e)
  .exact I2.aw.laid old (KR _) ⟨Ll _,[],0,.nil,hacc⟩
 have st4:tn 0 h₁:=T.keep _ _ _ st2 λb _ o e=>old b o e
 have stat:∀{H':Hp},(∀b∈fp,H' b=none)->∀b∈fp,ib (bG X N' scope cl HH.objs.size fp s2 H2) [] H' b:=λhn b hb=>
  ⟨hn b hb,(below b (fplt b hb)).1,nstk b hb,.inl hb,λx c e=>(f2 b hb).2.2.2.2.1 x c (hcl1 x c e),(λp hp=>(nomatch hp))⟩
 have loop:∀s₃:Shared,s₃={s2 with heap:=h₁,toks:=s2.toks+([]:List (Str×Value)).length}->
   codeAny (model X.prog X.w) X.A (.compLoop (.ListComp elt [⟨tg,iter,ifs,0⟩] scope pos) 0 (.ref it) (.ref s2.heap.objs.size) (compEnvC scope cl HH.objs.size X.env)) (RR (.ref s2.heap.objs.size) HH.objs.size) s₃:=by
  rintro s₃ rfl
  refine CI (λn s'=>∃i τ H',Inv (bG X N' scope cl HH.objs.size fp s2 H2) [] τ H' s'/\tn i s'.heap/\(∀b∈fp,H' b=none)/\W i n τ H') ?_ m0
   ⟨0,caps σ,_,I4,st4,λb hb=>by rw [aC (below b (fplt b hb)).2];exact (f2 b hb).1,w0⟩
  rintro n s5 ⟨i,τ,H5,I5,st5,fr5,w5⟩
  rcases turn i n τ H5 w5 with ⟨stop,q⟩|⟨go,N,hN,step⟩
  .refine aQ (T.done (bG X N' scope cl HH.objs.size fp s2 H2) rfl rfl rfl hc i [] s5 τ H5 (λ_ _=>False) I5 (stat fr5) st5 stop) λr s6 ⟨hr,I6⟩=>?_
   subst hr
   obtain ⟨m,hn,_⟩:=I6.loc
   refine hRR _ _ s6 H5 m (I2.JN (ch:=fp) I6.os I6.base I6.aw I6.bare λb hb=>⟨(f2 b hb).2.2.2.1,(f2 b hb).2.1,(f2 b hb).2.2.2.2.1,(f2 b hb).2.2.2.2.2⟩) hn hCle I6.free q
  .refine aQ (T.item (bG X N' scope cl HH.objs.size fp s2 H2) rfl rfl rfl hc i [] s5 τ H5 (λ_ _=>False) I5 (stat fr5) st5 go) λr s6 ⟨u,hr,h6⟩=>?_
   subst hr
   refine aQ h6 λ_ s7 ⟨x,H7,I7,r7,y7,st7,fr7⟩=>?_
   have I7':=I7.pinned (stat fr7) (T.obj _ _ st7)
   have again:∀{τ':St} {H':Hp} {s':Shared},Inv (bG X N' scope cl HH.objs.size fp s2 H2) ([]++pJ fp s7.heap) τ' H' s'->N τ' H'->
     ∃m,m<n/\∃i τ H',Inv (bG X N' scope cl HH.objs.size fp s2 H2) [] τ H' s'/\tn i s'.heap/\(∀b∈fp,H' b=none)/\W i m τ H':=λ{τ' H' s'} I' n'=>by
    obtain ⟨m',hm,w'⟩:=hN τ' H' n'
    refine ⟨m',hm,i+1,τ',H',I'.qf,T.keep _ _ _ st7 λb hb o e=>(I'.pin (b,o) (KW _ (KW _ (sR hb e)))).1,λb hb=>?_,w'⟩
    obtain ⟨o,e,d⟩:=T.obj _ _ st7 b hb
    exact (I'.pin (b,o) (KW _ (KW _ (sR hb e)))).2.1
   refine aQ (hg HH.objs.size s2 H2 _ s7 τ H7 x u _ I7' r7 (step x H7 y7)) λ_ s8 ⟨τ8,H8,I8,q8⟩=>?_
   refine aQ (hts HH.objs.size s2 H2 _ s8 τ8 H8 _ I8 q8) λokk s9 ⟨H9,I9,q9⟩=>?_
   cases okk with
   |false=>
    rw [KS K0] at q9⊢
    exact again I9 q9
   |true=>
    rw [K4 rfl] at q9⊢
    refine aQ (hel HH.objs.size s2 H2 _ s9 τ8 H9 _ I9 q9) λy s10 ⟨v,H10,I10,r10,ys,hD,hz,n10⟩=>?_
    refine aQ (zI (X:=bG X N' scope cl HH.objs.size fp s2 H2) _ s10 τ8 H10 (.ref s2.heap.objs.size) [v] (.ref s2.heap.objs.size) [y] (λ_ H'=>N τ8 H') I10 rfl (.cons r10 .nil) ⟨_,ys,v,rfl,rfl,hD,hz,n10⟩) λ_ s11 ⟨_,H11,I11,_,n11⟩=>?_
    exact again I11 n11
 exact codeAny_compStart_list (loop _ rfl) (T.self X.A 0 _ _ _ st4 (loop _ rfl))
def IR (hc:X.calm=true)(a:scope.kind=.function)(p:∀y∈scope.names,y.2≠.cell)(d:∀y∈scope.names,y.2=.local->scope.names.lookup y.1=some .local)
  (c:∀n,(n,NameKind.free)∈scope.names->X.env.kindOf n=some .cell\/X.env.kindOf n=some .free)
  (u:∀r:St,r.length=X.N.length->(caps r).length=N'.length/\∀(i:Nat) (x:Str) (v:V),N'[i]?=some x->(caps r)[i]?=some (some v)->scope.names.lookup x=some .free/\∃j:Nat,X.N[j]?=some x/\r[j]?=some (some v))
  (hi:PI X tg iter wi) (hg:∀f C k s H,PG (bG X N' scope f C k s H) tg g) (E:∀f C k s H,mQ (bG X N' scope f C k s H) ifs tt) (G:∀f C k s H,PE (bG X N' scope f C k s H) elt te)
  (hs:∀x,foldedSetIterable iter X.env x=pure x:=by intro _;rfl):PE X (.ListComp elt [⟨tg,iter,ifs,0⟩] scope pos) (ij wi caps g tt te):=by
 intro l s r H Q I h
 rw [eval_ListComp]
 obtain ⟨f,t,z,B⟩:=AI (env:=X.env) (scope:=scope) (λn L=>I.ok.has n (c n L))
 refine wpAny_comprehension_free (use:=none) rfl hs t a d (aQ (hi l s r H _ I h) λv s1 h1=>aQ h1 λac s2 h2=>?_)
 obtain ⟨it,k,tn,J,H2,rfl,Y,T,M,f2,k2⟩:=h2
 refine Aj (RR:=λO C=>compPost (model X.prog X.w) X.A X.xe none (EP X l r Q) O C) hc a p u c z B (λC s H=>hg f C k s H) (λC s H=>E f C k s H) (λC s H=>G f C k s H) Y T M f2 k2 ?_
 intro D C s' H' m I' L U hC q
 obtain ⟨f0,f1,af,f3,f4,f5⟩:=Y.gz U hC
 exact ⟨m,L,λh' sb=>⟨.ref D,H',I'.turned (t':=s'.toks) (λb o hb e=>(sb.2 b hb).trans e) f0 f1 f3 f4 f5,rfl,q⟩⟩
def HK{r:Pos}{i:Nat}(O:swapsWith (.ListComp elt [⟨tg,iter,ifs,0⟩] scope pos) (some (.Name y z)) r.line X.env=pure true)
  (hN:X.N.Nodup) (U:X.N[i]?=some y) (hy:Loc X.env.scope y)
  (hc:X.calm=true) (c:scope.kind=.function) (t:∀y∈scope.names,y.2≠.cell) (k:∀y∈scope.names,y.2=.local->scope.names.lookup y.1=some .local)
  (d:∀n,(n,NameKind.free)∈scope.names->X.env.kindOf n=some .cell\/X.env.kindOf n=some .free)
  (G:∀B:St,B.length=X.N.length->(caps B).length=N'.length/\∀(i:Nat) (x:Str) (v:V),N'[i]?=some x->(caps B)[i]?=some (some v)->scope.names.lookup x=some .free/\∃j:Nat,X.N[j]?=some x/\B[j]?=some (some v))
  (hi:PI X tg iter wi) (hg:∀l C p s H,PG (bG X N' scope l C p s H) tg g) (Y:∀l C p s H,mQ (bG X N' scope l C p s H) ifs tt) (ac:∀l C p s H,PE (bG X N' scope l C p s H) elt te)
  (hs:∀x,foldedSetIterable iter X.env x=pure x:=by intro _;rfl) (hf:X.fn y=true\/X.env.scope.names.lookup y=some .local:=by first|exact .inl rfl|exact .inr rfl|assumption):
  PS X (.Assign [.Name y z] (.ListComp elt [⟨tg,iter,ifs,0⟩] scope pos) r) (dW (ij wi caps g tt te) (ci i)):=by
 intro f s B H D I h
 rw [exec_Assign_Name_used _ _ _ _ O]
 refine KI (OM (KI ?_))
 obtain ⟨l,u,L,M⟩:=AI (env:=X.env) (scope:=scope) (λn hn=>I.ok.has n (d n hn))
 show wpAny _ X.A (do let _<-comprehension (.ListComp elt [⟨tg,iter,ifs,0⟩] scope pos) scope X.env _ (newList []) false (eval iter X.env) (some (assign (.Name y z) X.env))) _ _ s
 refine KI (Mh (wpAny_comprehension_free (use:=some (assign (.Name y z) X.env)) (Q:=λ_ s'=>SP X f D .next s') rfl hs u c k
  (aQ (hi f s B H _ I h) λv s1 h1=>aQ h1 λa1 s2 h2=>?_)) (λ_ s' hq=>K5 (K5 hq)) λ_ _ e=>e)
 obtain ⟨it,p,tn,J,H2,rfl,I2,T,af,f2,k2⟩:=h2
 refine Aj (RR:=λaj C=>compPost (model X.prog X.w) X.A X.xe (some (assign (.Name y z) X.env)) (λ_ s'=>SP X f D .next s') aj C) hc c t G d L M (λC s H=>hg l C p s H) (λC s H=>Y l C p s H) (λC s H=>ac l C p s H) I2 T af f2 k2 ?_
 intro E C s' H' m I' hn am hC q
 obtain ⟨f0,f1,a2,f3,f4,f5⟩:=I2.gz am hC
 show wpAny _ X.A (assign (.Name y z) X.env (.ref E)) _ _ _
 refine wpAny_assign_Name (yg I' hN U hy (v:=.ref E) rfl (λan ao ⟨a,sb,ha⟩=>?_) hf)
 have as:C≠a:=by
  rcases ha with rfl|ha
  .exact f1
  .exact LN (f4 y a ha)
 exact ⟨m,hn.sameBut sb as,λh' a0=>⟨_,H',ao.turned (t':=an.toks) (λb o hb e=>(a0.2 b hb).trans e) f0 f1 f3 f4 f5,q⟩⟩
end
end L2
namespace FL
open PySem L2
inductive D where
 |av|bl (b:Bool)|int (i:Int)|str (x:Str)|tup (l:List D)|lst (l:List D)
mutual
def D.beq:D->D->Bool
 |.av,.av=>true
 |.bl a,.bl b=>a==b
 |.int a,.int b=>a==b
 |.str a,.str b=>decide (a=b)
 |.tup a,.tup b=>D.ol a b
 |.lst a,.lst b=>D.ol a b
 |_,_=>false
def D.ol:List D->List D->Bool
 |[],[]=>true
 |a::r,b::t=>D.beq a b&&D.ol r t
 |_,_=>false
end
mutual
theorem D.beq_iff:∀a b:D,D.beq a b=true↔a=b
 |.av,b=>by cases b<;>simp [D.beq]
 |.bl a,b=>by cases b<;>simp [D.beq]
 |.int a,b=>by cases b<;>simp [D.beq]
 |.str a,b=>by cases b<;>simp [D.beq]
 |.tup a,b=>by cases b<;>simp [D.beq,D.uJ a]
 |.lst a,b=>by cases b<;>simp [D.beq,D.uJ a]
theorem D.uJ:∀a b:List D,D.ol a b=true↔a=b
 |[],b=>by cases b<;>simp [D.ol]
 |a::r,b=>by cases b<;>simp [D.ol,D.beq_iff a,D.uJ r]
end
instance:DecidableEq D:=fun a b=>decidable_of_iff _ (D.beq_iff a b)
mutual
inductive al (H:Hp):V->D->Prop
 |av:al H .av .av
 |bl (b:Bool):al H (.bl b) (.bl b)
 |int (i:Int):al H (.int i) (.int i)
 |str (x:Str):al H (.str x) (.str x)
 |tup {a:Addr} {vs:List V} {l:List D}:H a=some (.tup vs)->aD H vs l->al H (.ref a) (.tup l)
 |lst {a:Addr} {vs:List V} {l:List D}:H a=some (.lst vs)->aD H vs l->al H (.ref a) (.lst l)
inductive aD (H:Hp):List V->List D->Prop
 |nil:aD H [] []
 |cons {v:V} {d:D} {vs:List V} {ds:List D}:al H v d->aD H vs ds->aD H (v::vs) (d::ds)
end
mutual
theorem al.mono {H H':Hp}(e:ab H H'):∀{v:V} {d:D},al H v d->al H' v d
 |_,_,.av=>.av
 |_,_,.bl b=>.bl b
 |_,_,.int b=>.int b
 |_,_,.str b=>.str b
 |_,_,.tup h r=>.tup (e _ _ h) (aD.mono e r)
 |_,_,.lst h r=>.lst (e _ _ h) (aD.mono e r)
theorem aD.mono {H H':Hp}(e:ab H H'):∀{v:List V} {d:List D},aD H v d->aD H' v d
 |_,_,.nil=>.nil
 |_,_,.cons h r=>.cons (al.mono e h) (aD.mono e r)
end
def aD.length:∀{a:List V} {b:List D},aD H a b->a.length=b.length
 |_,_,.nil=>rfl
 |_,_,.cons _ r=>LL (· +1) r.length
def aD.get:∀{a:List V} {b:List D} {i:Nat} {d:D},aD H a b->b[i]?=some d->∃v,a[i]?=some v/\al H v d
 |_,_,_,_,.nil,e=>by simp at e
 |_,_,0,_,.cons h _,e=>by simp at e;subst e;exact ⟨_,rfl,h⟩
 |_,_,i+1,d,.cons _ r,e=>by
  obtain ⟨v,c,f⟩:=aD.get (i:=i) (d:=d) r (by simpa using e)
  exact ⟨v,by simpa using c,f⟩
def aD.iw:∀{a:List V} {b:List D} {i:Nat} {v:V},aD H a b->a[i]?=some v->∃d,b[i]?=some d/\al H v d
 |_,_,_,_,.nil,e=>by simp at e
 |_,_,0,_,.cons h _,e=>by simp at e;subst e;exact ⟨_,rfl,h⟩
 |_,_,i+1,d,.cons _ r,e=>by
  obtain ⟨v,c,f⟩:=aD.iw (i:=i) (v:=d) r (by simpa using e)
  exact ⟨v,by simpa using c,f⟩
def aD.append:∀{a b:List V} {c d:List D},aD H a c->aD H b d->aD H (a++b) (c++d)
 |_,_,_,_,.nil,s=>s
 |_,_,_,_,.cons h r,s=>.cons h (r.append s)
def aD.snoc(r:aD H a b)(h:al H v d):aD H (a++[v]) (b++[d]):=r.append (.cons h .nil)
def aD.take:∀{a:List V} {b:List D} (n:Nat),aD H a b->aD H (a.take n) (b.take n)
 |_,_,0,_=>.nil
 |_,_,_+1,.nil=>.nil
 |_,_,n+1,.cons h r=>.cons h (r.take n)
def aD.drop:∀{a:List V} {b:List D} (n:Nat),aD H a b->aD H (a.drop n) (b.drop n)
 |_,_,0,r=>r
 |_,_,_+1,.nil=>.nil
 |_,_,n+1,.cons _ r=>r.drop n
def aD.ints:∀a:List Int,aD H (a.map V.int) (a.map D.int)
 |[]=>.nil
 |n::r=>.cons (.int n) (aD.ints r)
def al.dP(h:al H v (.int i)):v=.int i:=by cases h;rfl
def al.ro(h:al H v (.str x)):v=.str x:=by cases h;rfl
def al.ia(h:al H v (.bl b)):v=.bl b:=by cases h;rfl
def al.e9(h:al H v (.tup l)):∃a b,v=.ref a/\H a=some (.tup b)/\aD H b l:=by cases h with|tup h r=>exact ⟨_,_,rfl,h,r⟩
def al.eA(h:al H v (.lst l)):∃a b,v=.ref a/\H a=some (.lst b)/\aD H b l:=by cases h with|lst h r=>exact ⟨_,_,rfl,h,r⟩
mutual
theorem al.inj {H:Hp}:∀{v:V} {d e:D},al H v d->al H v e->d=e
 |_,_,_,.av,h=>by cases h;rfl
 |_,_,_,.bl _,h=>by cases h;rfl
 |_,_,_,.int _,h=>by cases h;rfl
 |_,_,_,.str _,h=>by cases h;rfl
 |_,_,_,.tup h r,q=>by
  cases q with
  |tup h' r'=>rw [h] at h';cases h';rw [aD.inj r r']
  |lst h' r'=>rw [h] at h';cases h'
 |_,_,_,.lst h r,q=>by
  cases q with
  |lst h' r'=>rw [h] at h';cases h';rw [aD.inj r r']
  |tup h' r'=>rw [h] at h';cases h'
theorem aD.inj {H:Hp}:∀{v:List V} {d e:List D},aD H v d->aD H v e->d=e
 |_,_,_,.nil,h=>by cases h;rfl
 |_,_,_,.cons h r,q=>by cases q with|cons h' r'=>rw [al.inj h h',aD.inj r r']
end
def but (H:Hp)(M:List Addr):Hp:=λb=>if b∈M then none else H b
def IP (H:Hp):but H []=H:=by funext b;simp [but]
def bh{M:List Addr}(h:b∉M):but H M b=H b:=by simp [but,h]
def ax(h:but H M b=some o):b∉M/\H b=some o:=by
 unfold but at h
 split at h
 .cases h
 .exact ⟨‹_›,h⟩
def rO (H:Hp)(M:List Addr):ab (but H M) H:=λb o h=>(ax h).2
def _root_.L2.ab.but(e:ab H a)(M:List Addr):ab (but H M) (but a M):=λb o h=>by
 obtain ⟨c,d⟩:=ax h
 rw [bh c];exact e b o d
def dH {H:Hp}{M:List Addr}{a:Addr}{o:HO}(h:a∈M):but (upd H a o) M=but H M:=by
 funext b
 unfold FL.but
 by_cases hb:b∈M
 .rw [K4 hb,K4 hb]
 .rw [KS hb,KS hb,aC (λe:b=a=>hb (by rw [e];exact h))]
def zE {H:Hp}{M:List Addr}{a:Addr}{o:HO}(h:a∉M):but (upd H a o) M=upd (but H M) a o:=by
 funext b
 by_cases hb:b∈M
 .rw [aC (λe:b=a=>h (by rw [<-e];exact hb))]
  simp [FL.but,hb]
 .rw [bh hb]
  by_cases e:b=a
  .subst e;rw [aK,aK]
  .rw [aC e,aC e,bh hb]
def d6{M M':List Addr}(h:∀a∈M,a∈M'):ab (but H M') (but H M):=λb o e=>by
 obtain ⟨c,d⟩:=ax e
 rw [bh λz=>c (h b z)];exact d
def cG{H:Hp}(h:H p=none)(o:HO):ab H (upd H p o):=λb u q=>by rw [aC (de q h)];exact q
def au (M:List Addr)(H:Hp):Prop:=∀a∈M,H a≠none
def au.nil:au [] H:=λ_ h=>nomatch h
def au.same(l:au M H)(e:ab H b):au M b:=λa c z=>by
 cases q:H a with
 |none=>exact l a c q
 |some o=>rw [e a o q] at z;cases z
def au.cons {M:List Addr}{H:Hp}{a:Addr}{o:HO}(l:au M H)(h:H a=some o):au (a::M) H:=λb c=>by
 rcases KY.mp c with e|e
 .rw [e,h];exact λz=>nomatch z
 .exact l b e
def au.fresh(l:au M H)(h:H p=none):p∉M:=λz=>l p z h
def au.upd {M:List Addr}{H:Hp}{a:Addr}{o:HO}(l:au M H):au M (L2.upd H a o):=λb hb z=>by
 by_cases e:b=a
 .subst e;rw [aK] at z;cases z
 .rw [aC e] at z;exact l b hb z
def ou(l:au M H)(h:H p=none)(r:aD (but H M) a b):al (but (upd H p (.tup a)) M) (.ref p) (.tup b):=by
 rw [zE (l.fresh h)]
 exact .tup aK (r.mono (cG (by rw [bh (l.fresh h)];exact h) _))
def nZ(l:au M H)(h:H p=none)(r:aD (but H M) a b):al (but (upd H p (.lst a)) M) (.ref p) (.lst b):=by
 rw [zE (l.fresh h)]
 exact .lst aK (r.mono (cG (by rw [bh (l.fresh h)];exact h) _))
def mf{H:Hp}{M:List Addr}(e:a∉M)(h:H a=some (.lst c))(r:aD (but H (a::M)) c d):al (but H M) (.ref a) (.lst d):=
 .lst (by rw [bh e];exact h) (r.mono (d6 λb f=>KG _ f))
def qr{H:Hp}(h:H a=none)(r:al (but H M) v d):al (but (upd H a o) (a::M)) v d:=by
 rw [dH (KN)]
 refine r.mono λb u e=>?_
 obtain ⟨f,c⟩:=ax e
 rw [bh]
 .exact c
 .intro z
  rcases KY.mp z with rfl|z
  .rw [h] at c;cases c
  .exact f z
def qv{H:Hp}(h:H a=none):∀{b:List V} {c:List D},aD (but H M) b c->aD (but (upd H a o) (a::M)) b c
 |_,_,.nil=>.nil
 |_,_,.cons q r=>.cons (qr h q) (qv h r)
def ae (te:TE)(G:Hp)(σ:St)(d:D):Prop:=
 ∀M H,ab G (but H M)->au M H->∀Q:VK,(∀v H',ab H H'->al (but H' M) v d->Q v H')->te σ H Q
def dI (ta:TA)(G:Hp)(σ:St)(ds:List D):Prop:=
 ∀M H,ab G (but H M)->au M H->∀Q:List V->Hp->Prop,(∀vs H',ab H H'->aD (but H' M) vs ds->Q vs H')->ta σ H Q
def aY (tt:TT)(G:Hp)(σ:St)(b:Bool):Prop:=
 ∀M H,ab G (but H M)->au M H->∀Q:Bool->Hp->Prop,(∀H',ab H H'->Q b H')->tt σ H Q
def ae.at{Q:VK}(h:ae te (but H M) b d)(l:au M H)(k:∀v a,ab H a->al (but a M) v d->Q v a):te b H Q:=h M H (ab.refl _) l Q k
def ae.eq(h:ae a G b d)(e:d=c):ae a G b c:=e▸h
def aY.eq(h:aY a G b d)(e:d=c):aY a G b c:=e▸h
section
variable {G:Hp}{σ:St}{ta tb tc:TE}{tt tu:TT}{t:TA}{d d1 d2:D}{ds:List D}{K:PySem.W.Frag}
def cE{i:Nat}(e:σ[i]?=some (some v))(r:al G v d):ae (aR i) G σ d:=λM H s l Q k=>⟨v,e,k v H (ab.refl _) (r.mono s)⟩
def vN(r:∀H,al H v d):ae (tC v) G σ d:=λM H s l Q k=>k _ H (ab.refl _) (r _)
def ar:ae (tC (.int i)) G σ (.int i):=vN λ_=>.int i
def aF:ae (tC (.str x)) G σ (.str x):=vN λ_=>.str x
def mR:ae (tC (.bl b)) G σ (.bl b):=vN λ_=>.bl b
def iP {r:R2}(e:∀M H x y,au M H->al (but H M) x d1->al (but H M) y d2->∀Q:VK,(∀v b,ab H b->al (but b M) v d->Q v b)->r x y H Q)(f:ae ta G σ d1)(g:ae tb G σ d2):ae (bz r ta tb) G σ d:=
 λM H s l Q k=>f M H s l _ λx h a i=>g M h (s.trans (a.but M)) (l.same a) _ λy j c m=>
  e M j x y (l.same (a.trans c)) (i.mono (c.but M)) m Q λv n o p=>k v n (a.trans (c.trans o)) p
def pK{g:Int->Int->V}(a:∀b,al b (g i j) d)(c:ae ta G σ (.int i))(e:ae tb G σ (.int j)):ae (bz (fZ g) ta tb) G σ d:=
 iP (λM H x y l f h Q k=>⟨i,j,f.dP,h.dP,k _ H (ab.refl _) (a _)⟩) c e
def tR{C:Int->Int->Prop}{g:Int->Int->V}(a:C i j)(b:∀c,al c (g i j) d)(e:ae ta G σ (.int i))(f:ae tb G σ (.int j)):ae (bz (rI C g) ta tb) G σ d:=
 iP (λM H x y l h m Q k=>⟨i,j,h.dP,m.dP,a,k _ H (ab.refl _) (b _)⟩) e f
def jy(a:ae ta G σ (.int i))(b:ae tb G σ (.int j)):ae (bz (fZ λi j=>.int (i+j)) ta tb) G σ (.int (i+j)):=pK (λ_=>.int _) a b
def D7(a:ae ta G σ (.int i))(b:ae tb G σ (.int j)):ae (bz (fZ λi j=>.int (i-j)) ta tb) G σ (.int (i-j)):=pK (λ_=>.int _) a b
def yV(a:lU i j)(b:ae ta G σ (.int i))(c:ae tb G σ (.int j)):ae (bz (rI lU λi j=>.int (i*j)) ta tb) G σ (.int (i*j)):=tR a (λ_=>.int _) b c
def d7(a:0<j)(b:ae ta G σ (.int i))(c:ae tb G σ (.int j)):ae (bz (rI (λ_ j=>0<j) λi j=>.int (i%j)) ta tb) G σ (.int (i%j)):=tR (C:=λ_ j=>0<j) a (λ_=>.int _) b c
def fJ(a:va i j)(b:ae ta G σ (.int i))(c:ae tb G σ (.int j)):ae (bz (rI va λi j=>.int (i/j)) ta tb) G σ (.int (i/j)):=tR a (λ_=>.int _) b c
def Km(a:uH i j)(b:ae ta G σ (.int i))(c:ae tb G σ (.int j)):ae (bz (rI uH λi j=>.int (i^j.toNat)) ta tb) G σ (.int (i^j.toNat)):=tR a (λ_=>.int _) b c
def jL(a:ae ta G σ (.int i))(b:ae tb G σ (.int j)):ae (bz (fZ λi j=>.bl (decide (i<j))) ta tb) G σ (.bl (decide (i<j))):=pK (λ_=>.bl _) a b
def p7(a:ae ta G σ (.int i))(b:ae tb G σ (.int j)):ae (bz (fZ λi j=>.bl (decide (j<i))) ta tb) G σ (.bl (decide (j<i))):=pK (λ_=>.bl _) a b
def tD(a:ae ta G σ (.int i))(b:ae tb G σ (.int j)):ae (bz (fZ λi j=>.bl (decide (j<=i))) ta tb) G σ (.bl (decide (j<=i))):=pK (λ_=>.bl _) a b
def oq(a:ae ta G σ (.int i)):ae (z7 (rU λi=>.int (-i)) ta) G σ (.int (-i)):=
 λM H s l Q k=>a M H s l _ λx b c e=>⟨i,e.dP,k _ b c (.int _)⟩
def D.sc:D->Bool
 |.int _=>true|.str _=>true|_=>false
def xW{d:D}(f:al H x d)(a:al c y e)(g:d.sc=true)(b:e.sc=true):vn x y=true/\decide (x=y)=decide (d=e):=by
 cases f with
 |int i=>
  cases a with
  |int j=>exact ⟨rfl,by simp⟩
  |str j=>exact ⟨rfl,by simp⟩
  |_=>exact absurd b (by simp [D.sc])
 |str i=>
  cases a with
  |int j=>exact ⟨rfl,by simp⟩
  |str j=>exact ⟨rfl,by simp⟩
  |_=>exact absurd b (by simp [D.sc])
 |_=>exact absurd g (by simp [D.sc])
def ag:dI bv G σ []:=λM H s l Q k=>k [] H (ab.refl _) .nil
def aa (c:ae ta G σ d)(e:dI t G σ ds):dI (bb ta t) G σ (d::ds):=
 λM H s l Q k=>c M H s l _ λx f a g=>e M f (s.trans (a.but M)) (l.same a) _ λj h b i=>k _ h (a.trans b) (.cons (g.mono (b.but M)) i)
def aM (h:dI t G σ ds)(hz:ds.length<=sizeLine:=by exact My (cr Z8)):ae (m8 t) G σ (.tup ds):=
 λM H s l Q k=>h M H s l _ λe f a b=>⟨by rw [b.length];exact hz,λp c=>k _ _ (a.trans (cG c _)) (ou (l.same a) c b)⟩
def eO (h:dI t G σ ds)(hz:ds.length<=sizeLine:=by exact My (cr Z8)):ae (jt t) G σ (.lst ds):=
 λM H s l Q k=>h M H s l _ λe f a b=>⟨by rw [b.length];exact hz,λp c=>k _ _ (a.trans (cG c _)) (nZ (l.same a) c b)⟩
def z0{ds:List D}{d:D}(r:aD H a ds)(h:c7 ds i=some d):∃v,c7 a i=some v/\al H v d:=by
 unfold c7 at h⊢
 rw [r.length]
 cases e:lG ds.length i with
 |none=>rw [e] at h;cases h
 |some j=>rw [e] at h;exact r.get h
def ni {r:List V->Hp->VK->Prop}(e:∀M H b,au M H->aD (but H M) b ds->∀Q:VK,(∀v a,ab H a->al (but a M) v d->Q v a)->r b H Q)(h:dI t G σ ds):ae (cH r t) G σ d:=
 λM H s l Q k=>h M H s l _ λf g c i=>e M g f (l.same c) i Q λv j m n=>k v j (c.trans m) n
def jw{d:D}(h:aD H a [d]):∃x,a=[x]/\al H x d:=by
 cases h with|cons q r=>cases r;exact ⟨_,rfl,q⟩
def lI{d:D}(h:aD H a [d,e]):∃x y,a=[x,y]/\al H x d/\al H y e:=by
 cases h with|cons q r=>cases r with|cons b r=>cases r;exact ⟨_,_,rfl,q,b⟩
def cY(h:dI t G σ [.lst l]):ae (cH (λc H Q=>∃p b,c=[.ref p]/\(aO K H p b\/bo K H p b)/\Q (.int b.length) H) t) G σ (.int l.length):=
 ni (λM H c j e Q k=>by
  obtain ⟨x,rfl,q⟩:=jw e
  obtain ⟨a,f,rfl,g,i⟩:=q.eA
  refine ⟨a,f,rfl,.inl (aO.of (ax g).2),?_⟩
  rw [i.length]
  exact k _ H (ab.refl _) (.int _)) h
def gR(h:dI t G σ [.tup l]):ae (cH (λc H Q=>∃p b,c=[.ref p]/\(aO K H p b\/bo K H p b)/\Q (.int b.length) H) t) G σ (.int l.length):=
 ni (λM H c j e Q k=>by
  obtain ⟨x,rfl,q⟩:=jw e
  obtain ⟨a,f,rfl,g,i⟩:=q.e9
  refine ⟨a,f,rfl,.inr (bo.of (ax g).2),?_⟩
  rw [i.length]
  exact k _ H (ab.refl _) (.int _)) h
def qo(h:dI t G σ [.lst l]):
  ae (cH (λc H Q=>∃p b,c=[.ref p]/\(aO K H p b\/bo K H p b)/\∀l,H l=none->Q (.ref l) (upd H l (.lst b))) t) G σ (.lst l):=
 ni (λM H c f g Q k=>by
  obtain ⟨x,rfl,q⟩:=jw g
  obtain ⟨a,i,rfl,j,m⟩:=q.eA
  exact ⟨a,i,rfl,.inl (aO.of (ax j).2),λp e=>k _ _ (cG e _) (nZ f e m)⟩) h
def vA(h:dI t G σ [.tup l]):
  ae (cH (λc H Q=>∃p b,c=[.ref p]/\(aO K H p b\/bo K H p b)/\∀l,H l=none->Q (.ref l) (upd H l (.lst b))) t) G σ (.lst l):=
 ni (λM H c f g Q k=>by
  obtain ⟨x,rfl,q⟩:=jw g
  obtain ⟨a,i,rfl,j,m⟩:=q.e9
  exact ⟨a,i,rfl,.inr (bo.of (ax j).2),λp e=>k _ _ (cG e _) (nZ f e m)⟩) h
def rm(h:dI t G σ [.lst l]):
  ae (cH (λc H Q=>∃p b,c=[.ref p]/\((aO K H p b/\∀l,H l=none->Q (.ref l) (upd H l (.tup b)))\/(bo K H p b/\Q (.ref p) H))) t) G σ (.tup l):=
 ni (λM H c f g Q k=>by
  obtain ⟨x,rfl,q⟩:=jw g
  obtain ⟨a,i,rfl,j,m⟩:=q.eA
  exact ⟨a,i,rfl,.inl ⟨aO.of (ax j).2,λp e=>k _ _ (cG e _) (ou f e m)⟩⟩) h
def bN(h:ae ta G σ (.bl b)):aY (m4 ta) G σ b:=λM H s l Q k=>h M H s l _ λv a c e=>⟨b,e.ia,k a c⟩
def cm(h:ae ta G σ (.bl b)):aY (tB ta) G σ b:=λM H s l Q k=>h M H s l _ λv a c e=>⟨b,e.ia,k a c⟩
def dL(h:aY tt G σ b):aY (zt tt) G σ (!b):=λM H s l Q k=>h M H s l _ λa c=>k a c
def jG:aY ka G σ true:=λM H s l Q k=>k H (ab.refl _)
def jY(h:aY tt G σ b)(f:b=true->aY tu G σ c):aY (ql tt tu) G σ (b&&c):=λM H s l Q k=>h M H s l _ λe a=>by
 cases b with
 |true=>rw [K4 rfl];exact f rfl M e (s.trans (a.but M)) (l.same a) _ λg i=>k g (a.trans i)
 |false=>rw [KS K0];exact k e a
def eJ(h:aY tt G σ b)(f:b=false->aY tu G σ c):aY (xJ tt tu) G σ (b||c):=λM H s l Q k=>h M H s l _ λe a=>by
 cases b with
 |true=>rw [K4 rfl];exact k e a
 |false=>rw [KS K0];exact f rfl M e (s.trans (a.but M)) (l.same a) _ λg i=>k g (a.trans i)
def fD(h:ae ta G σ (.bl b))(f:b=true->ae tb G σ (.bl c)):ae (rh ta tb) G σ (.bl (b&&c)):=λM H s l Q k=>h M H s l _ λv e a g=>⟨b,g.ia,by
 cases b with
 |true=>rw [K4 rfl];exact f rfl M e (s.trans (a.but M)) (l.same a) _ λv i j m=>k v i (a.trans j) m
 |false=>rw [KS K0];exact k _ e a (.bl _)⟩
def IA(h:ae ta G σ (.bl b))(f:b=false->ae tb G σ (.bl c)):ae (BR ta tb) G σ (.bl (b||c)):=λM H s l Q k=>h M H s l _ λv e a g=>⟨b,g.ia,by
 cases b with
 |true=>rw [K4 rfl];exact k _ e a (.bl _)
 |false=>rw [KS K0];exact f rfl M e (s.trans (a.but M)) (l.same a) _ λv i j m=>k v i (a.trans j) m⟩
def z8(h:ae ta G σ (.bl b)):ae (xF ta) G σ (.bl (!b)):=λM H s l Q k=>h M H s l _ λv a c e=>⟨b,e.ia,k _ a c (.bl _)⟩
end
section
variable {M:List Addr}{H:Hp}{σ:St}{ta:TE}{tt:TT}{d:D}{E:Ends}
def x9{c e:TS}(l:au M H)(h:aY tt (but H M) σ b)(f:b=true->∀a,ab H a->c E σ a)(g:b=false->∀a,ab H a->e E σ a):mM tt c e E σ H:=h M H (ab.refl _) l _ λa s=>by
 cases b with
 |true=>rw [K4 rfl];exact f rfl a s
 |false=>rw [KS K0];exact g rfl a s
end
end FL
namespace PySem
open Sem (wp)
def Em:typeLookup (.type "list") "keys"=pure none:=by rw [typeLookup_type,builtinLookup_eq_fast];kernel_rfl
set_option maxHeartbeats 2000000 in
def Jw{A:Around}{s:Shared}{name:Str}{Q:Option Value->Shared->Prop}
  (t:s.heap.get? a=some o) (u:o.cls=.type "list") (f:o.data=.seq r k) (v:o.dict=none) (i:typeLookup (.type "list") name=pure none) (j:(["__module__","__name__","__qualname__","__doc__","__annotations__"]:List Str).contains name=false) (z:A.handled=none)
  (h:∀p x,(∀b o,s.heap.get? b=some o->p.get? b=some o)->Q none {s with heap:=p,toks:=x}) (q:name.length+100<=sizeLine:=by size_fits):
  wpAny (model l w) A (getAttr? (.ref a) name) Q E s:=by
 obtain ⟨c,B,C,G⟩:=o
 simp only at u f v
 subst u f v
 obtain ⟨H,g,d,x,os⟩:=s
 have y:∀m,(⟨H,g,d,m,os⟩:Shared).TypeIs (.ref a) "list":=λ_=>⟨_,t,rfl⟩
 have I:=sub_AttributeError
 have J:=Nw.lookup
 have L:=Nw.bind (.ref a)
 have M:=am_list_getattr_none
 unfold getAttr? getAttrBy? getAttrBy
 repeat (any_goals (first|assumption|exact y _|((with_reducible show wpAny _ _ (call (Value.builtin "list.__getattribute__") _ _) _ _ _);refine Py Nw (y _) am_entry_list_getattribute (F.args_list_getattribute_2 _ _) (meets_getattribute_miss_list a r k G name _ i j q) ⟨t,z,λp m e n=>?_⟩)|wp_step))
 obtain ⟨N,O,T⟩:=n.there
 show wpAny _ _ (getattributeRaised _ _ _ _ _ _ _) _ _ _
 unfold getattributeRaised
 repeat (any_goals (first|assumption|wp_step))
 exact h _ _ n.of.keeps
namespace F
def BS:entryFor table "dict.update.loop"=some Builtin.«dict.update.loop»:=entryFor_of_tree (by kernel_rfl)
def rW:plainId "dict.update.loop"=true:=by decide+kernel
end F
section
variable {prog:Program}{w:World}{K:Type} [DecidableEq K] {knd:KeyKind prog w K}{A:Around}{R:Result->Shared->Prop}{s:Shared}
def u0 (knd:KeyKind prog w K)(h:Heap)(u:Value)(p:K×Value):Prop:=∃b kv,u=.ref b/\h.IsTuple b #[kv,p.2]/\knd.is p.1 kv=true
def DF{A:Around}{s:Shared}{Q:List Value->Shared->Prop}(d:s.heap.IsTuple b a)(e:Q a.toList s):wpAny (model prog w) A (Builtin.Dict.pairItems (.ref b)) Q E s:=by
 obtain ⟨o,c,f,n,g⟩:=d
 unfold Builtin.Dict.pairItems
 refine KI (Om (show s.TypeIs (.ref b) "tuple" from ⟨o,c,f⟩) ?_)
 rw [K4 Z5]
 refine KI ?_
 unfold seqItems?
 refine KI (wpAny_load c ?_)
 rw [g]
 exact K5 (K5 e)
def yd{items:Array Value}(hA:A.handled=none):∀(ca:List (K×Value)) (i:Nat) (s:Shared) (z:List (K×Value)),items.size=i+ca.length->
  (∀j p,ca[j]?=some p->∃u,items[i+j]?=some u/\u0 knd s.heap u p)->s.heap.IsListIter k l i->s.heap.IsList l items->s.heap.DictOf knd d z->z.length+ca.length<=sizeLine->
  (∀C tk,C.DictOf knd d (merged z ca)->(∀b o,b≠d->b≠k->s.heap.get? b=some o->C.get? b=some o)->R (.ok (.ret B)) {s with heap:=C,toks:=tk})->
  codeAny (model prog w) A (.builtin "dict.update.loop" ⟨[.ref d,.ref k,rawInt i,B],[]⟩) R s
 |[],i,s,z,E,hp,h,J,G,hz,hR=>by
  refine NB F.BS ?_
  rw [Ni F.rW _]
  show wpAny _ A.in1 (pyNext (.ref k)>>=_) _ _ s
  have v:d≠k:=by
   rintro rfl
   obtain ⟨o,f,U,g⟩:=h
   obtain ⟨L,H,I,c,m,a,_⟩:=G
   rw [f] at c;cases c;rw [g] at a;cases a
  refine KI (wpAny_pyNext_list_end hA h J (by simp at E⊢;omega) λC ext=>?_)
  show wpAny _ A.in1 (Builtin.Dict.addKeywords d []>>=λ_=>ret B) _ _ _
  refine KI (K5 (K5 (hR C s.toks ?_ λb o _ hb e=>ext b o hb e)))
  obtain ⟨o,H,I,f,r⟩:=G
  exact ⟨o,H,I,ext _ _ v f,r⟩
 |p::ca,i,s,z,E,hp,h,J,G,hz,hR=>by
  refine NB F.BS ?_
  rw [Ni F.rW _]
  show wpAny _ A.in1 (pyNext (.ref k)>>=_) _ _ s
  obtain ⟨u,hu,b,kv,rfl,M,hk⟩:=hp 0 p rfl
  have v:d≠k:=by
   rintro rfl
   obtain ⟨o,f,U,g⟩:=h
   obtain ⟨L,H,I,c,m,a,_⟩:=G
   rw [f] at c;cases c;rw [g] at a;cases a
  have ac:l≠k:=by
   rintro rfl
   obtain ⟨o,f,U,g⟩:=h
   obtain ⟨L,c,m,n,a⟩:=J
   rw [f] at c;cases c;rw [g] at a;cases a
  have af:l≠d:=by
   rintro rfl
   obtain ⟨o,H,I,f,U,g,_⟩:=G
   obtain ⟨L,c,m,n,a⟩:=J
   rw [f] at c;cases c;rw [g] at a;cases a
  have N:∀{b:Addr} {xs:Array Value},s.heap.IsTuple b xs->b≠d/\b≠k:=λ{b xs} ht=>by
   obtain ⟨o,f,U,n,g⟩:=ht
   refine ⟨?_,?_⟩
   .rintro rfl
    obtain ⟨L,H,I,c,m,a,_⟩:=G
    rw [f] at c;cases c;rw [g] at a;cases a
   .rintro rfl
    obtain ⟨L,c,m,a⟩:=h
    rw [f] at c;cases c;rw [g] at a;cases a
  refine KI (wpAny_pyNext_list_item h J (x:=.ref b) (by simpa using hu) λY O t=>?_)
  have aj:Y.IsTuple b #[kv,p.2]:=by
   obtain ⟨o,f,r⟩:=M
   exact ⟨o,(t.2 b (N ⟨o,f,r⟩).2).trans f,r⟩
  have wJ:Y.DictOf knd d z:=by
   obtain ⟨o,H,I,f,r⟩:=G
   exact ⟨o,H,I,(t.2 d v).trans f,r⟩
  refine KI (Mp (KI (Nj (DF (s:={s with heap:=Y}) aj ?_))))
  show wpAny _ A.in1 (holding [kv,p.2] (dictSet d kv p.2)) _ _ _
  refine Mp (wpAny_dictSet_pairs (s:={s with heap:=Y}) (hsz:=by simp at hz;omega) hk wJ λh2 eU y=>?_)
  have Q:h2.IsListIter k l (i+1):=by
   obtain ⟨o,f,r⟩:=O
   exact ⟨o,(y.2 k (LN v)).trans f,r⟩
  have am:h2.IsList l items:=by
   obtain ⟨o,f,r⟩:=J
   exact ⟨o,(y.2 l af).trans ((t.2 l ac).trans f),r⟩
  have an:(rawInt i:Value)=rawInt i:=rfl
  refine K5 ⟨Nx F.rW _,?_⟩
  have e1:((i:Int)+1)=((i+1:Nat):Int):=by omega
  rw [e1]
  refine yd hA ca (i+1) _ (stored z p.1 p.2) (by simp at E;omega) (λj q hq=>?_) Q am eU ?_ λC tk ao kp=>?_
  .obtain ⟨u',as,b',a0,rfl,T,a1⟩:=hp (j+1) q (by simpa using hq)
   refine ⟨.ref b',by rw [<-as];congr 1;omega,b',a0,rfl,?_,a1⟩
   obtain ⟨n1,n2⟩:=N T
   obtain ⟨o,f,r⟩:=T
   exact ⟨o,(y.2 b' n1).trans ((t.2 b' n2).trans f),r⟩
  .have:=stored_length_le z p.1 p.2
   simp at hz;omega
  .exact hR C tk ao λb o n1 n2 e=>kp b o n1 n2 ((y.2 b n1).trans ((t.2 b n2).trans e))
end
end PySem
namespace PySem
section
variable {prog:Program}{w:World}{K:Type} [DecidableEq K] {knd:KeyKind prog w K}{A:Around}{E:Value->Shared->Prop}{s:Shared}
def IU{ca:List (K×Value)}{Q:Value->Shared->Prop}(L:A.handled=none)
  (v:s.heap.get? l=some o) (x:o.cls=.type "list") (B:o.dict=none) (d:o.data=.seq a n) (N:a.size=ca.length)
  (O:∀(j:Nat) p,ca[j]?=some p->∃u,a[j]?=some u/\u0 knd s.heap u p) (T:ca.length<=sizeLine)
  (h:∀i C,i.DictOf knd s.heap.objs.size (merged [] ca)->(∀b o,s.heap.get? b=some o->i.get? b=some o)->Q (.ref s.heap.objs.size) {s with heap:=i,toks:=C}):
  wpAny (model prog w) A (call (.type "dict") [.ref l]) Q E s:=by
 refine callType_codes (Q₁:=λk g=>k=.ref s.heap.objs.size/\g={s with heap:=s.heap.push {cls:=.type "dict",data:=.dict #[]}}) F.kt_called_dict (F.kt_typeCall_dict_1 _) F.entry_dict_init (kt_code_dict_new _ ⟨rfl,rfl⟩) ?_
 rintro k g ⟨rfl,rfl⟩
 have f:(s.heap.push {cls:=.type "dict",data:=.dict #[]}).DictOf knd s.heap.objs.size []:=Heap.DictOf.new s.heap
 have m:∀b o,s.heap.get? b=some o->(s.heap.push {cls:=.type "dict",data:=.dict #[]}).get? b=some o:=λb o e=>KO _ e
 generalize U:s.heap.objs.size=D at*
 generalize hH:s.heap.push {cls:=.type "dict",data:=.dict #[]}=M at*
 refine ⟨f.typeIs,F.args_dict_init_2 _ _,?_⟩
 unfold Builtin.«dict.__init__»
 refine KI ?_
 unfold Builtin.Dict.selfAndRest
 refine KI (wpAny_notOrdered_dict f.typeIs ?_)
 show wpAny _ _ (pure (D,[Value.ref l])) _ _ _
 refine K5 ?_
 show wpAny _ _ (Builtin.Dict.updateFrom "dict.__init__" D (.ref l) [] .none) _ _ _
 unfold Builtin.Dict.updateFrom
 refine KI (Om (show ({s with heap:=M}:Shared).TypeIs (.ref l) "list" from ⟨o,m _ _ v,x⟩) ?_)
 rw [K4 Z5]
 refine KI (Jw (s:={s with heap:=M}) (m _ _ v) x d B Em Z5 L λy q z=>?_)
 refine KI (NF ?_)
 refine KI (Mt (s:={s with heap:=y,toks:=q}) (l:=l) (items:=a) ⟨o,z _ _ (m _ _ v),x,n,d⟩ ?_)
 have G:∀b c,s.heap.get? b=some c->(y.push {cls:=.type "list_iterator",data:=.fields #[.ref l,.int 0 0]}).get? b=some c:=λb c e=>KO _ (z b c (m b c e))
 have eU:(y.push {cls:=.type "list_iterator",data:=.fields #[.ref l,.int 0 0]}).DictOf knd D []:=by
  obtain ⟨Y,es,ep,H,r⟩:=f
  exact ⟨Y,es,ep,KO _ (z _ _ H),r⟩
 refine K5 ⟨Nx F.rW _,?_⟩
 refine yd (A:=A.in1) (knd:=knd) (l:=l) (items:=a) (R:=wants (λr t=>r=.none/\Q (.ref D) t) E) L ca 0 {s with heap:=y.push {cls:=.type "list_iterator",data:=.fields #[.ref l,.int 0 0]},toks:=q} [] Z6 (λj p hj=>?_) ⟨_,Lc _ rfl,rfl,rfl⟩ ⟨o,G _ _ v,x,n,d⟩ eU (by simpa using T) λi C I kp=>?_
 .obtain ⟨u,hu,b,kv,rfl,⟨c,J,r⟩,hk⟩:=O j p hj
  exact ⟨.ref b,by simpa using hu,b,kv,rfl,⟨c,G _ _ J,r⟩,hk⟩
 .refine ⟨rfl,h i C I λb c e=>kp b c ?_ ?_ (G b c e)⟩
  .exact Ls (by rw [<-U];exact Lf e)
  .exact Ls (Lf (z b c (m b c e)))
end
end PySem
namespace FL
open PySem L2
mutual
def cn:D->D->Bool
 |.int _,.int _=>true
 |.int _,.str _=>true
 |.str _,.int _=>true
 |.str _,.str _=>true
 |.tup a,.tup b=>f7 a b
 |.lst a,.lst b=>f7 a b
 |_,_=>false
def f7:List D->List D->Bool
 |a::r,b::t=>cn a b&&f7 r t
 |_,_=>true
end
mutual
def D.cS:D->Nat
 |.tup l=>D.fq l+1
 |.lst l=>D.fq l+1
 |_=>0
def D.fq:List D->Nat
 |[]=>0
 |a::r=>max (D.cS a) (D.fq r)
end
def pU:∀{l:List D} {j:Nat} {d:D},l[j]?=some d->d.cS<=D.fq l
 |[],_,_,h=>by simp at h
 |a::r,0,d,h=>by simp at h;subst h;exact Nat.le_max_left _ _
 |a::r,j+1,d,h=>by
  have:=pU (l:=r) (j:=j) (d:=d) (by simpa using h)
  exact Lk this (Nat.le_max_right _ _)
def pZ:∀{l m:List D} {j:Nat} {d e:D},f7 l m=true->l[j]?=some d->m[j]?=some e->cn d e=true
 |[],_,_,_,_,_,h,_=>by simp at h
 |_::_,[],_,_,_,_,_,h=>by simp at h
 |a::r,b::t,0,d,e,h,c,f=>by
  simp at c f;subst c;subst f
  rw [f7,LP] at h
  exact h.1
 |a::r,b::t,j+1,d,e,h,c,f=>by
  rw [f7,LP] at h
  exact pZ (l:=r) (m:=t) (j:=j) h.2 (by simpa using c) (by simpa using f)
def rY {l m:List D}:((List.range (min l.length m.length)).all (λj=>decide (l[j]?=m[j]?))&&l.length==m.length)=decide (l=m):=by
 rw [LD,LP,Nk,NE,NG]
 constructor
 .rintro ⟨a,c⟩
  refine MN λj=>?_
  by_cases b:j<min l.length m.length
  .exact Le (a j (Pm.mpr b))
  .rw [LI Z6,LI Z6]
 .rintro rfl
  exact ⟨λj _=>by simp,rfl⟩
def i9{P:Program}{w:World}{K:PySem.W.Frag}{j:Nat}(r:a9 a b)(h:b[j]?=some u):∃x,a[j]?=some x/\RelV x u:=by
 have f:=r.length
 obtain ⟨g,_⟩:=KJ.mp h
 have c:a[j]?=some (a[j]'Z6):=KL Z6
 obtain ⟨i,d,e⟩:=r.get c
 rw [h] at d;cases d
 exact ⟨_,c,e⟩
open SeqAt in
def ub{s:Shared}(ok:cT P w H s.heap)(hG:ab G H):∀(n:Nat) {d e:D} {x y:V} {u z:Value} {A:Around},d.cS<=n->al G x d->al G y e->RelV x u->RelV y z->cn d e=true->A.units+n<cLine->
  EqAt A s u z (decide (d=e)):=by
 intro n
 induction n with
 |zero=>
  intro d e x y u z A T rx v B p g hu
  cases rx with
  |int i=>
   obtain ⟨t,rfl⟩:=B
   cases v with
   |int j=>
    obtain ⟨h,rfl⟩:=p
    have q:decide (D.int i=D.int j)=(i==j):=by rw [LD];simp
    rw [q];exact EqAt.int_int i t j h
   |str j=>
    obtain ⟨h,rfl⟩:=p
    have q:decide (D.int i=D.str j)=false:=by simp
    rw [q];exact EqAt.int_str i t j h
   |_=>exact absurd g (by simp [cn])
  |str i=>
   obtain ⟨t,rfl⟩:=B
   cases v with
   |int j=>
    obtain ⟨h,rfl⟩:=p
    have q:decide (D.str i=D.int j)=false:=by simp
    rw [q];exact EqAt.str_int i t j h
   |str j=>
    obtain ⟨h,rfl⟩:=p
    have q:decide (D.str i=D.str j)=(i==j):=by rw [LD];simp
    rw [q];exact EqAt.str_str i t j h
   |_=>exact absurd g (by simp [cn])
  |av=>exact absurd g (by simp [cn])
  |bl _=>exact absurd g (by simp [cn])
  |tup _ _=>simp [D.cS] at T
  |lst _ _=>simp [D.cS] at T
 |succ n ih=>
  intro d e x y u z A T rx v B p g hu
  cases rx with
  |int i=>
   obtain ⟨t,rfl⟩:=B
   cases v with
   |int j=>
    obtain ⟨h,rfl⟩:=p
    have q:decide (D.int i=D.int j)=(i==j):=by rw [LD];simp
    rw [q];exact EqAt.int_int i t j h
   |str j=>
    obtain ⟨h,rfl⟩:=p
    have q:decide (D.int i=D.str j)=false:=by simp
    rw [q];exact EqAt.int_str i t j h
   |_=>exact absurd g (by simp [cn])
  |str i=>
   obtain ⟨t,rfl⟩:=B
   cases v with
   |int j=>
    obtain ⟨h,rfl⟩:=p
    have q:decide (D.str i=D.int j)=false:=by simp
    rw [q];exact EqAt.str_int i t j h
   |str j=>
    obtain ⟨h,rfl⟩:=p
    have q:decide (D.str i=D.str j)=(i==j):=by rw [LD];simp
    rw [q];exact EqAt.str_str i t j h
   |_=>exact absurd g (by simp [cn])
  |av=>exact absurd g (by simp [cn])
  |bl _=>exact absurd g (by simp [cn])
  |@tup a vs l U C=>
   cases B
   cases v with
   |@tup b ws m E I=>
    cases p
    rw [cn] at g
    by_cases o:a=b
    .subst o
     rw [U] at E;cases E
     rw [aD.inj C I,Ln rfl]
     exact EqAt.same _
    .obtain ⟨_,f,Y,p1⟩:=(show bP P w H s.heap a (.tup vs) from ok a _ (hG _ _ U))
     obtain ⟨_,c,r2,p2⟩:=(show bP P w H s.heap b (.tup ws) from ok b _ (hG _ _ E))
     have n1:f.toArray.size=l.length:=by rw [Lb,<-Y.length,C.length]
     have n2:c.toArray.size=m.length:=by rw [Lb,<-r2.length,I.length]
     have q:decide (D.tup l=D.tup m)=((List.range (min f.toArray.size c.toArray.size)).all (λj=>decide (l[j]?=m[j]?))&&f.toArray.size==c.toArray.size):=by
      rw [n1,n2,rY,LD];simp
     rw [q]
     refine EqAt.of_refs o (RcAt.tuples p1 p2 Z6 λj h1 h2=>?_)
     obtain ⟨x',hx,J⟩:=i9 (P:=P) (w:=w) (K:=[]) Y (j:=j) (u:=f.toArray[j]) Z8
     obtain ⟨y',hy,L⟩:=i9 (P:=P) (w:=w) (K:=[]) r2 (j:=j) (u:=c.toArray[j]) Z8
     obtain ⟨d',k,M⟩:=C.iw hx
     obtain ⟨e',r,N⟩:=I.iw hy
     have q2:decide (l[j]?=m[j]?)=decide (d'=e'):=by rw [k,r,LD];simp
     rw [q2]
     have O:d'.cS<=n:=by
      have:=pU k
      simp only [D.cS] at T
      omega
     exact ih O M N J L (pZ g k r) (by show A.units+1+n<cLine;omega)
   |_=>exact absurd g (by simp [cn])
  |@lst a vs l U C=>
   cases B
   cases v with
   |@lst b ws m E I=>
    cases p
    rw [cn] at g
    by_cases o:a=b
    .subst o
     rw [U] at E;cases E
     rw [aD.inj C I,Ln rfl]
     exact EqAt.same _
    .obtain ⟨_,f,k1,Y,p1⟩:=(show bP P w H s.heap a (.lst vs) from ok a _ (hG _ _ U))
     obtain ⟨_,c,k2,r2,p2⟩:=(show bP P w H s.heap b (.lst ws) from ok b _ (hG _ _ E))
     have n1:f.toArray.size=l.length:=by rw [Lb,<-Y.length,C.length]
     have n2:c.toArray.size=m.length:=by rw [Lb,<-r2.length,I.length]
     by_cases Q:l.length=m.length
     .have q:decide (D.lst l=D.lst m)=((List.range f.toArray.size).all (λj=>decide (l[j]?=m[j]?))):=by
       have:=rY (l:=l) (m:=m)
       rw [n1]
       have e1:min l.length m.length=l.length:=by omega
       rw [e1] at this
       have e2:(l.length==m.length)=true:=by simpa using Q
       rw [e2,OP] at this
       rw [this,LD];simp
      rw [q]
      refine EqAt.of_refs o (RcAt.lists ⟨_,p1,rfl,_,rfl⟩ ⟨_,p2,rfl,_,rfl⟩ Z6 Z6 λj h1 h2=>?_)
      obtain ⟨x',hx,J⟩:=i9 (P:=P) (w:=w) (K:=[]) Y (j:=j) (u:=f.toArray[j]) Z8
      obtain ⟨y',hy,L⟩:=i9 (P:=P) (w:=w) (K:=[]) r2 (j:=j) (u:=c.toArray[j]) Z8
      obtain ⟨d',k,M⟩:=C.iw hx
      obtain ⟨e',r,N⟩:=I.iw hy
      have q2:decide (l[j]?=m[j]?)=decide (d'=e'):=by rw [k,r,LD];simp
      rw [q2]
      have O:d'.cS<=n:=by
       have:=pU k
       simp only [D.cS] at T
       omega
      exact ih O M N J L (pZ g k r) (by show A.units+1+n<cLine;omega)
     .have q:decide (D.lst l=D.lst m)=false:=by
       rw [OZ]
       intro z;cases z;exact Q rfl
      rw [q]
      exact EqAt.of_refs o (RcAt.lists_lengths ⟨_,p1,rfl,_,rfl⟩ ⟨_,p2,rfl,_,rfl⟩ (by rw [n1,n2];simpa using Q) Z6)
   |_=>exact absurd g (by simp [cn])
section
variable {X:Cx}
open SeqAt
def xx (x y:V)(H:Hp)(d e:D):Prop:=∃M,al (but H M) x d/\al (but H M) y e/\cn d e=true/\d.cS<=40
def sQ:R2:=λx y H Q=>∃d e,xx x y H d e/\Q (.bl (decide (d=e))) H
def kh:R2:=λx y H Q=>∃d e,xx x y H d e/\Q (.bl (!decide (d=e))) H
def KC{A:Around}(I:Inv X f p H s)(r:al (but H M) (.ref a) d)(y:cn d d=true)(z:d.cS<=40)(B:A.units+50<cLine):
  (∃b n,s.heap.IsTuple a b/\RcAt A s (.ref a) (.ref a) true/\RcNeAt A s (.ref a) (.ref a) false/\n=b.size)\/(∃b n,s.heap.IsList a b/\RcAt A s (.ref a) (.ref a) true/\RcNeAt A s (.ref a) (.ref a) false/\n=b.size):=by
 have q:A.in1.units+45<cLine:=by show A.units+1+45<cLine;omega
 cases r with
 |@tup _ k l m t=>
  left
  obtain ⟨_,b,u,e⟩:=(show bP X.prog X.w H s.heap a (.tup k) from I.aw a _ (ax m).2)
  have g:∀j (v:j<b.toArray.size) (x:j<b.toArray.size),EqAt A.in1 s b.toArray[j] b.toArray[j] ((λ_=>true) j):=λj _ _=>EqAt.same _
  have h:=RcAt.tuples e e Z6 g
  have i:=RcNeAt.tuples e e Z6 g
  have o:((List.range (min b.toArray.size b.toArray.size)).all (λ_=>true)&&b.toArray.size==b.toArray.size)=true:=by simp
  rw [o] at h i
  exact ⟨_,_,e,h,i,rfl⟩
 |@lst _ k l m t=>
  right
  obtain ⟨_,b,C,u,e⟩:=(show bP X.prog X.w H s.heap a (.lst k) from I.aw a _ (ax m).2)
  have g:∀j (v:j<b.toArray.size) (x:j<b.toArray.size),EqAt A.in1 s b.toArray[j] b.toArray[j] ((λ_=>true) j):=λj _ _=>EqAt.same _
  have c:s.heap.IsList a b.toArray:=⟨_,e,rfl,_,rfl⟩
  have h:=RcAt.lists c c rfl Z6 g
  have i:=RcNeAt.lists c c rfl Z6 g
  have o:((List.range b.toArray.size).all (λ_=>true))=true:=by simp
  rw [o] at h i
  exact ⟨_,_,c,h,i,rfl⟩
def Bb{A:Around}(I:Inv X C σ H s)(p:al (but H M) (.ref a) d)(o:al (but H M) (.ref b) e)(B:cn d e=true)(hd:d.cS<=40)(hu:A.units+50<cLine):
  RcAt A s (.ref a) (.ref b) (decide (d=e))/\RcNeAt A s (.ref a) (.ref b) (!decide (d=e)):=by
 have ac:A.in1.units+45<cLine:=by show A.units+1+45<cLine;omega
 cases p with
 |@tup _ U l Y p=>
  cases o with
  |@tup _ ws m hb o=>
   rw [cn] at B
   obtain ⟨_,f,E,O⟩:=(show bP X.prog X.w H s.heap a (.tup U) from I.aw a _ (ax Y).2)
   obtain ⟨_,c,G,Q⟩:=(show bP X.prog X.w H s.heap b (.tup ws) from I.aw b _ (ax hb).2)
   have J:f.toArray.size=l.length:=by rw [Lb,<-E.length,p.length]
   have T:c.toArray.size=m.length:=by rw [Lb,<-G.length,o.length]
   have q:decide (D.tup l=D.tup m)=((List.range (min f.toArray.size c.toArray.size)).all (λj=>decide (l[j]?=m[j]?))&&f.toArray.size==c.toArray.size):=by
    rw [J,T,rY,LD];simp
   have L:∀j (h1:j<f.toArray.size) (h2:j<c.toArray.size),EqAt A.in1 s f.toArray[j] c.toArray[j] ((λj=>decide (l[j]?=m[j]?)) j):=λj h1 h2=>by
    obtain ⟨x',hx,r⟩:=i9 (P:=X.prog) (w:=X.w) (K:=X.K) E (j:=j) (u:=f.toArray[j]) Z8
    obtain ⟨y',hy,t⟩:=i9 (P:=X.prog) (w:=X.w) (K:=X.K) G (j:=j) (u:=c.toArray[j]) Z8
    obtain ⟨N,g,v⟩:=p.iw hx
    obtain ⟨e',h,x⟩:=o.iw hy
    have q2:decide (l[j]?=m[j]?)=decide (N=e'):=by rw [g,h,LD];simp
    show EqAt A.in1 s _ _ (decide (l[j]?=m[j]?))
    rw [q2]
    have y:N.cS<=40:=by
     have:=pU g
     simp only [D.cS] at hd
     omega
    exact ub I.aw (rO H M) 40 y v x r t (pZ B g h) Z6
   rw [q]
   exact ⟨RcAt.tuples O Q Z6 L,RcNeAt.tuples O Q Z6 L⟩
  |_=>exact absurd B (by simp [cn])
 |@lst _ U l Y p=>
  cases o with
  |@lst _ ws m hb o=>
   rw [cn] at B
   obtain ⟨_,f,k1,E,O⟩:=(show bP X.prog X.w H s.heap a (.lst U) from I.aw a _ (ax Y).2)
   obtain ⟨_,c,k2,G,Q⟩:=(show bP X.prog X.w H s.heap b (.lst ws) from I.aw b _ (ax hb).2)
   have i:s.heap.IsList a f.toArray:=⟨_,O,rfl,_,rfl⟩
   have k:s.heap.IsList b c.toArray:=⟨_,Q,rfl,_,rfl⟩
   have J:f.toArray.size=l.length:=by rw [Lb,<-E.length,p.length]
   have T:c.toArray.size=m.length:=by rw [Lb,<-G.length,o.length]
   by_cases n:l.length=m.length
   .have q:decide (D.lst l=D.lst m)=((List.range f.toArray.size).all (λj=>decide (l[j]?=m[j]?))):=by
     have:=rY (l:=l) (m:=m)
     rw [J]
     have e1:min l.length m.length=l.length:=by omega
     rw [e1] at this
     have e2:(l.length==m.length)=true:=by simpa using n
     rw [e2,OP] at this
     rw [this,LD];simp
    have L:∀j (h1:j<f.toArray.size) (h2:j<c.toArray.size),EqAt A.in1 s f.toArray[j] c.toArray[j] ((λj=>decide (l[j]?=m[j]?)) j):=λj h1 h2=>by
     obtain ⟨x',hx,r⟩:=i9 (P:=X.prog) (w:=X.w) (K:=X.K) E (j:=j) (u:=f.toArray[j]) Z8
     obtain ⟨y',hy,t⟩:=i9 (P:=X.prog) (w:=X.w) (K:=X.K) G (j:=j) (u:=c.toArray[j]) Z8
     obtain ⟨N,g,v⟩:=p.iw hx
     obtain ⟨e',h,x⟩:=o.iw hy
     have q2:decide (l[j]?=m[j]?)=decide (N=e'):=by rw [g,h,LD];simp
     show EqAt A.in1 s _ _ (decide (l[j]?=m[j]?))
     rw [q2]
     have y:N.cS<=40:=by
      have:=pU g
      simp only [D.cS] at hd
      omega
     exact ub I.aw (rO H M) 40 y v x r t (pZ B g h) Z6
    rw [q]
    exact ⟨RcAt.lists i k Z6 Z6 L,RcNeAt.lists i k Z6 Z6 L⟩
   .have q:decide (D.lst l=D.lst m)=false:=by
     rw [OZ]
     intro z;cases z;exact n rfl
    rw [q]
    exact ⟨RcAt.lists_lengths i k (by rw [J,T];simpa using n) Z6,RcNeAt.lists_lengths i k (by rw [J,T];simpa using n) Z6⟩
  |_=>exact absurd B (by simp [cn])
def yF(g:al G x d)(f:al G y e)(c:cn d e=true):(d.sc=true/\e.sc=true)\/∃a b,x=.ref a/\y=.ref b:=by
 cases g with
 |int i=>cases f<;>first|exact .inl ⟨rfl,rfl⟩|exact absurd c (by simp [cn])
 |str i=>cases f<;>first|exact .inl ⟨rfl,rfl⟩|exact absurd c (by simp [cn])
 |tup _ _=>cases f<;>first|exact .inr ⟨_,_,rfl,rfl⟩|exact absurd c (by simp [cn])
 |lst _ _=>cases f<;>first|exact .inr ⟨_,_,rfl,rfl⟩|exact absurd c (by simp [cn])
 |_=>exact absurd c (by simp [cn])
def F9 (l:X.A.units+50<cLine):cD X (compareOp .Eq) sQ:=by
 intro c s m H x y v u Q I i j h
 obtain ⟨d,e,⟨M,f,g,k,n⟩,q⟩:=h
 rcases yF f g k with ⟨o,p⟩|⟨a,b,rfl,rfl⟩
 .obtain ⟨r,t⟩:=xW f g o p
  rw [<-t] at q
  exact wZ c s m H x y v u Q I i j ⟨r,q⟩
 .cases i;cases j
  exact (Bb I f g k n l).1 _ _ _ _ ⟨.bl _,H,I,rfl,q⟩
def EC (l:X.A.units+50<cLine):cD X (compareOp .NotEq) kh:=by
 intro c s m H x y v u Q I i j h
 obtain ⟨d,e,⟨M,f,g,k,n⟩,q⟩:=h
 rcases yF f g k with ⟨o,p⟩|⟨a,b,rfl,rfl⟩
 .obtain ⟨r,t⟩:=xW f g o p
  rw [<-t] at q
  exact Br c s m H x y v u Q I i j ⟨r,q⟩
 .cases i;cases j
  exact (Bb I f g k n l).2 _ _ _ _ ⟨.bl _,H,I,rfl,q⟩
def rJ (neg:Bool):R2:=λx y H Q=>∃M d es,al (but H M) x d/\(al (but H M) y (.lst es)\/al (but H M) y (.tup es))/\(∀e∈es,cn e d=true/\e.cS<=40)/\Q (.bl (if neg then !decide (d∈es) else decide (d∈es))) H
def tU{A:Around}(I:Inv X k T H s)(U:al (but H M) x d)(Y:RelV x u)(o:aD (but H M) Q n)(p:a9 Q a)(c:∀e∈n,cn e d=true/\e.cS<=40)(hu:A.units+50<cLine):
  ∃f:Value->Bool,(∀y,y∈a.toArray->EqAt A.in1 s y u (f y))/\a.toArray.any f=decide (d∈n):=by
 classical
 refine ⟨λy=>decide (∃v e,RelV v y/\al (but H M) v e/\e=d),λy r=>?_,?_⟩
 .have C:y∈a:=by simpa using r
  obtain ⟨j,t,E⟩:=List.getElem_of_mem C
  obtain ⟨v,l,b⟩:=i9 (P:=X.prog) (w:=X.w) (K:=X.K) p (j:=j) (u:=y) (by rw [KL t,E])
  obtain ⟨e,G,g⟩:=o.iw l
  have B:e∈n:=KU G
  have q:decide (∃v e,RelV v y/\al (but H M) v e/\e=d)=decide (e=d):=by
   rw [LD,NG,NG]
   constructor
   .rintro ⟨v',e',J,L,N⟩
    rw [b.inj J] at g
    rw [al.inj g L];exact N
   .intro z;exact ⟨v,e,b,g,z⟩
  show EqAt A.in1 s y u (decide (∃v e,RelV v y/\al (but H M) v e/\e=d))
  rw [q]
  exact ub I.aw (rO H M) 40 (c e B).2 g U b Y (c e B).1 (by show A.units+1+40<cLine;omega)
 .rw [LD,Array.any_eq_true,NG]
  constructor
  .rintro ⟨j,t,h⟩
   obtain ⟨v',e',J,L,N⟩:=Le h
   obtain ⟨v,l,b⟩:=i9 (P:=X.prog) (w:=X.w) (K:=X.K) p (j:=j) (u:=a.toArray[j]) Z8
   obtain ⟨e,G,g⟩:=o.iw l
   rw [b.inj J] at g
   rw [<-N,<-al.inj g L]
   exact KU G
  .intro B
   obtain ⟨j,t,O⟩:=List.getElem_of_mem B
   have hl:=o.length
   have ac:=p.length
   obtain ⟨v,l,b⟩:=o.get (i:=j) (d:=d) (by rw [KL t,O])
   obtain ⟨y,r,ry⟩:=p.get l
   have m:j<a.toArray.size:=by simp;omega
   refine ⟨j,m,Ln ⟨v,d,?_,b,rfl⟩⟩
   have:a.toArray[j]=y:=by
    rw [KL (by simpa using m)] at r
    simpa using r
   rw [this];exact ry
def yD (o:X.A.units+50<cLine):cD X (compareOp .In) (rJ false):=by
 intro r s C H x y v u Q I t z h
 obtain ⟨M,d,E,B,c,b,q⟩:=h
 rcases c with c|c
 .obtain ⟨a,e,rfl,g,i⟩:=c.eA
  cases z
  obtain ⟨_,j,n,k,p⟩:=(show bP X.prog X.w H s.heap a (.lst e) from I.aw a _ (ax g).2)
  obtain ⟨f,l,m⟩:=tU I B t i k b o
  refine in_listAt f ⟨_,p,rfl,_,rfl⟩ l ?_
  rw [m]
  exact ⟨.bl _,H,I,rfl,q⟩
 .obtain ⟨a,e,rfl,g,i⟩:=c.e9
  cases z
  obtain ⟨_,j,k,p⟩:=(show bP X.prog X.w H s.heap a (.tup e) from I.aw a _ (ax g).2)
  obtain ⟨f,l,m⟩:=tU I B t i k b o
  refine in_tupleAt f p l ?_
  rw [m]
  exact ⟨.bl _,H,I,rfl,q⟩
def vp (o:X.A.units+50<cLine):cD X (compareOp .NotIn) (rJ true):=by
 intro r s C H x y v u Q I t z h
 obtain ⟨M,d,E,B,c,b,q⟩:=h
 rcases c with c|c
 .obtain ⟨a,e,rfl,g,i⟩:=c.eA
  cases z
  obtain ⟨_,j,n,k,p⟩:=(show bP X.prog X.w H s.heap a (.lst e) from I.aw a _ (ax g).2)
  obtain ⟨f,l,m⟩:=tU I B t i k b o
  refine notIn_listAt f ⟨_,p,rfl,_,rfl⟩ l ?_
  rw [m]
  exact ⟨.bl _,H,I,rfl,q⟩
 .obtain ⟨a,e,rfl,g,i⟩:=c.e9
  cases z
  obtain ⟨_,j,k,p⟩:=(show bP X.prog X.w H s.heap a (.tup e) from I.aw a _ (ax g).2)
  obtain ⟨f,l,m⟩:=tU I B t i k b o
  refine notIn_tupleAt f p l ?_
  rw [m]
  exact ⟨.bl _,H,I,rfl,q⟩
def Pairs (K:PySem.W.Frag)(H:Hp):List V->List (aG×V)->Prop:=Paired λv kv=>∃b,v=.ref b/\bo K H b [kV kv.1,kv.2]
def pairs_at(I:Inv X a l H s):∀{i:List V} {c:List (aG×V)} {d:List Value},Pairs X.K H i c->a9 i d->
  ∃ca:List (aG×Value),KV c ca/\∀(j:Nat) (p:aG×Value),ca[j]?=some p->∃u,d.toArray[j]?=some u/\u0 (dq X.prog X.w) s.heap u p
 |_,_,_,.nil,.nil=>⟨[],.nil,λj p h=>by simp at h⟩
 |_,_,_,.cons (b:=m) ⟨b,n,o⟩ t,.cons (b:=u) r q=>by
  subst n
  obtain rfl:u=Value.ref b:=r
  obtain ⟨ca,v,x⟩:=pairs_at I t q
  obtain ⟨k,y,p,_⟩:=I.tuple o
  obtain ⟨z,A,rfl,B,C⟩:=a9.two y
  refine ⟨(m.1,A)::ca,.cons ⟨rfl,C⟩ v,λj E e=>?_⟩
  cases j with
  |zero=>
   simp at e;subst e
   exact ⟨.ref b,by simp,b,z,rfl,p,j8 B⟩
  |succ j=>
   obtain ⟨G,f,g⟩:=x j E (by simpa using e)
   exact ⟨G,by simpa using f,g⟩
def Ig (x:X.calm=true):h9 X (.type "dict") (λj H Q=>∃a d b,j=[.ref a]/\aO X.K H a d/\Pairs X.K H d b/\∀p,H p=none->Q (.ref p) (upd H p (.dK (bT [] b)))):=by
 intro k s N H j O Q I r h
 obtain ⟨a,d,b,rfl,y,l,q⟩:=h
 obtain ⟨u,rfl,z⟩:=OU r
 cases z
 obtain ⟨A,m,⟨o,n,B,e,f,c⟩,T⟩:=I.list y
 obtain ⟨ca,t,C⟩:=pairs_at I l m
 have v:b.length=ca.length:=MC t
 have E:d.length=b.length:=MC l
 have G:=m.length
 refine IU (knd:=dq X.prog X.w) (I.ok.hd x) B e f c (by simp;omega) C Z6 λU J g L=>?_
 have M:=KV.merge (kvs:=[]) (vs:=[]) t .nil
 have i:=uf b []
 refine ⟨.ref s.heap.objs.size,_,I.laid (a:=s.heap.objs.size) (o:=.dK (bT [] b)) (t':=J) L (KR _) (tG (by simp at i;omega) (L0.mpr (LN (Ls I.qX))) M g),rfl,q _ (I.aw.fresh (KR _))⟩
end
end FL
namespace FL
open PySem L2
def Walk (wi:TI)(G:Hp)(σ:St)(ds:List D):Prop:=∀M H,ab G (but H M)->au M H->∀R:It->Hp->Prop,
 (∀J H1,ab H H1->(∀(j:Nat) d M' H',ds[j]?=some d->ab (but H1 M) (but H' M')->au M' H'->J.go j H'/\∀x H'',J.nk j H' x H''->ab H' H''/\al (but H'' M') x d)->(∀M' H',ab (but H1 M) (but H' M')->J.stop ds.length H')->R J H1)->wi σ H R
section
variable {G:Hp}{σ:St}{ta tb tl te:TE}{tt:TT}{t:TA}{d:D}{ds:List D}{K:PySem.W.Frag}{wi:TI}
def FF (h:ae tl G σ (.lst ds)):Walk (lF K tl) G σ ds:=λM H s l R k=>h M H s l _ λx o p q=>by
 obtain ⟨a,b,rfl,g,i⟩:=q.eA
 refine ⟨a,rfl,⟨b,aO.of (ax g).2⟩,k _ o p (λj d r u w c B=>?_) (λr u c=>?_)⟩
 .have f:=(ax (c _ _ g)).2
  obtain ⟨v,m,y⟩:=i.get w
  refine ⟨⟨b,v,aO.of f,m⟩,λx z ⟨e,A⟩=>?_⟩
  subst e
  have n:=A b (aO.of f)
  rw [m] at n;cases n
  exact ⟨ab.refl _,y.mono c⟩
 .have f:=(ax (c _ _ g)).2
  exact ⟨b,aO.of f,by rw [i.length];exact KR _⟩
def FN (h:ae tl G σ (.tup ds)):Walk (mO K tl) G σ ds:=λM H s l R k=>h M H s l _ λx o p q=>by
 obtain ⟨a,b,rfl,g,i⟩:=q.e9
 refine ⟨a,rfl,⟨b,bo.of (ax g).2⟩,k _ o p (λj d r u w c B=>?_) (λr u c=>?_)⟩
 .have f:=(ax (c _ _ g)).2
  obtain ⟨v,m,y⟩:=i.get w
  refine ⟨⟨b,v,bo.of f,m⟩,λx z ⟨e,A⟩=>?_⟩
  subst e
  have n:=A b (bo.of f)
  rw [m] at n;cases n
  exact ⟨ab.refl _,y.mono c⟩
 .have f:=(ax (c _ _ g)).2
  exact ⟨b,bo.of f,by rw [i.length];exact KR _⟩
def hX (lo:Int)(n j:Nat)(d:D)(h:((List.range n).map λ(k:Nat)=>D.int (lo+k))[j]?=some d):j<n/\d=.int (lo+j):=by
 rw [KZ] at h
 cases e:(List.range n)[j]? with
 |none=>rw [e] at h;cases h
 |some q=>
  rw [e] at h
  obtain ⟨a,b⟩:=KJ.mp e
  simp at a b
  subst b
  exact ⟨a,(K8 h).symm⟩
def BX {n:Nat}(r:n<2^62)(h:dI t G σ [.int n]):Walk (wT t) G σ ((List.range n).map λ(k:Nat)=>D.int (0+k)):=λM H s l R k=>h M H s l _ λu a b c=>by
 obtain ⟨x,rfl,f⟩:=jw c
 refine ⟨(n:Int),by rw [f.dP],by omega,by omega,?_⟩
 refine k _ a b (λj d g i m o v=>?_) (λg i o=>?_)
 .obtain ⟨w,rfl⟩:=hX 0 n j d m
  refine ⟨by show j<((n:Int)).toNat;omega,λx p ⟨e,q⟩=>?_⟩
  subst e;subst q
  exact ⟨ab.refl _,.int _⟩
 .show ((n:Int)).toNat<=_
  simp
def iW{H:Hp}{D:Addr}(h:H D=none)(s:ab H c):ab (but H M) (but c (D::M)):=λb o e=>by
 obtain ⟨f,a⟩:=ax e
 rw [bh]
 .exact s b o a
 .intro z
  rcases KY.mp z with rfl|z
  .rw [h] at a;cases a
  .exact f z
def gf{caps:St->St}{p:D->Bool}{f:D->D}(hw:Walk wi G σ ds)
  (ht:∀z v d,ab G z->d∈ds->al z v d->aY tt z ((caps σ).set i (some v)) (p d))
  (he:∀z v d,ab G z->d∈ds->p d=true->al z v d->ae te z ((caps σ).set i (some v)) (f d)) (hz:ds.length<sizeLine):
  ae (ij wi caps (ci i) tt te) G σ (.lst ((ds.filter p).map f)):=λM H s l Q k=>hw M H s l _ λJ N O U A D T=>by
 have lf:D∉M:=(l.same O).fresh T
 have Y:ab G (but N M):=s.trans (O.but M)
 refine ⟨λj m τ q=>m=ds.length-j/\j<=ds.length/\(∀v,τ.set i (some v)=(caps σ).set i (some v))/\ab N q/\∃n,q D=some (.lst n)/\aD (but q (D::M)) n (((ds.take j).filter p).map f),
  ⟨ds.length,by simp,Ll _,λ_=>rfl,cG T _,[],aK,by simpa using aD.nil⟩,?_⟩
 rintro j m τ q ⟨rfl,hj,ac,C,n,r,E⟩
 have hs:ab (but N M) (but q (D::M)):=iW T C
 have hl:au (D::M) q:=((l.same O).same C).cons r
 by_cases B:j<ds.length
 .have hd:ds[j]?=some ds[j]:=KL B
  obtain ⟨go,gy⟩:=U j _ (D::M) q hd hs hl
  refine .inr ⟨go,λI g=>(∀v,I.set i (some v)=(caps σ).set i (some v))/\ab N g/\∃n,g D=some (.lst n)/\aD (but g (D::M)) n (((ds.take (j+1)).filter p).map f),
   λI g ⟨a,b,c⟩=>⟨ds.length-(j+1),by omega,rfl,B,a,b,c⟩,λx g hy=>?_⟩
  obtain ⟨w,rx⟩:=gy x g hy
  have hm:ds[j]∈ds:=Mm B
  have sG:ab G (but g (D::M)):=Y.trans (hs.trans (w.but _))
  have L:=hl.same w
  show tt (τ.set i (some x)) g _
  rw [ac x]
  have tk:(ds.take (j+1)).filter p=(ds.take j).filter p++(if p ds[j]=true then [ds[j]] else []):=by
   rw [LG,hd,Me]
   congr 1
   by_cases y:p ds[j]=true
   .simp [y]
   .simp [y]
  refine ht _ x _ sG hm rx (D::M) g (ab.refl _) L _ λH4 u=>?_
  have h:∀v,((caps σ).set i (some x)).set i (some v)=(caps σ).set i (some v):=λv=>by rw [PB]
  by_cases y:p ds[j]=true
  .rw [K4 y]
   refine he _ x _ (sG.trans (u.but _)) hm y (rx.mono (u.but _)) (D::M) H4 (ab.refl _) (L.same u) _ λv H5 s5 r5=>?_
   have af:H5 D=some (.lst n):=s5 _ _ (u _ _ (w _ _ r))
   have aj:=E.length
   have am:(((ds.take j).filter p).map f).length<=j:=by
    rw [KP]
    have:=Lv p (ds.take j)
    rw [Lx] at this
    omega
   refine ⟨n,af,by omega,h,?_,n++[v],aK,?_⟩
   .intro b o e
    rw [aC (de e T)]
    exact s5 _ _ (u _ _ (w _ _ (C _ _ e)))
   .rw [dH KN,tk,K4 y,Lq]
    exact (E.mono (((w.trans u).trans s5).but _)).snoc r5
  .rw [KS y]
   refine ⟨h,C.trans (w.trans u),n,u _ _ (w _ _ r),?_⟩
   rw [tk,KS y,LA]
   exact E.mono ((w.trans u).but _)
 .have e:j=ds.length:=by omega
  subst e
  refine .inl ⟨A (D::M) q hs,k _ q (O.trans C) (mf lf r ?_)⟩
  rw [Lz (KR _)] at E
  exact E
def Eg {xs:List V}(k:Nat):gL xs (some (k:Int)) none=xs.drop k:=by
 unfold gL
 rw [HT.oW,HT.AE]
 by_cases h:k<=xs.length
 .rw [Od h,Lz Z8]
 .rw [NZ Z6,M7 (KR _),M7 Z6,Px]
def DG {xs:List V}(k:Nat):gL xs none (some (k:Int))=xs.take k:=by
 unfold gL
 rw [HT.oW,HT.AE,List.drop_zero,PD]
 by_cases h:k<=xs.length
 .rw [Od h]
 .rw [NZ Z6,Lz (KR _),Lz Z6]
def tf {k:Nat}{l:List D}(hk:0<k)(hl:0<l.length)(ha:ae ta G σ (.tup l)):ae (vQ (zF K) ta (sP (tC (.int (k:Int)))) xI) G σ (.tup (l.drop k)):=
 λM H s lv Q q=>ha M H s lv _ λx H1 s1 rx=>⟨(k:Int),rfl,by
  obtain ⟨a,vs,rfl,h1,h2⟩:=rx.e9
  refine ⟨a,vs,rfl,bo.of (ax h1).2,?_,λp hp=>?_⟩
  .rw [HT.oW]
   have:=h2.length
   omega
  .rw [Eg]
   exact q _ _ (s1.trans (cG hp _)) (ou (lv.same s1) hp (h2.drop k))⟩
def B3 {b:List D}(a:∀e∈b,cn e d=true/\e.cS<=40)(c:ae ta G σ d)(f:ae tb G σ (.tup b)):ae (bz (rJ false) ta tb) G σ (.bl (decide (d∈b))):=
 iP (λM H x y l g h Q k=>⟨M,d,b,g,.inr h,a,k _ H (ab.refl _) (.bl _)⟩) c f
def uW {es:List D}(a:∀e∈es,cn e d=true/\e.cS<=40)(b:ae ta G σ d)(c:ae tb G σ (.lst es)):ae (bz (rJ true) ta tb) G σ (.bl (!decide (d∈es))):=
 iP (λM H x y l f g Q k=>⟨M,d,es,f,.inl g,a,k _ H (ab.refl _) (.bl _)⟩) b c
end
def jA{g:TG}{E:Ends}(z:Walk t (but H M) r ds)(l:au M H)
  (k:∀i,ab H i->∃Pv:Nat->St->Hp->Prop,Pv 0 r i/\(∀j a b,Pv j a b->ab (but i M) (but b M)/\au M b)/\
   (∀(j:Nat) d x a b c,ds[j]?=some d->Pv j a b->ab b c->al (but c M) x d->g x a c λn v=>u {E with nx:=Pv (j+1),ct:=Pv (j+1),bk:=E.nx} n v)/\∀a b,Pv ds.length a b->E.nx a b):
  na t g u E r H:=z M H (ab.refl _) l _ λJ i A s f=>by
 obtain ⟨Pv,B,C,h,o⟩:=k i A
 refine ⟨λj m a b=>m=ds.length-j/\j<=ds.length/\Pv j a b,⟨ds.length,by simp,Ll _,B⟩,?_⟩
 rintro j m a b ⟨rfl,U,p⟩
 obtain ⟨w,G⟩:=C j a b p
 by_cases q:j<ds.length
 .have y:ds[j]?=some ds[j]:=KL q
  obtain ⟨I,L⟩:=s j _ M b y w G
  refine .inr ⟨I,Pv (j+1),λn v N=>⟨ds.length-(j+1),by omega,rfl,q,N⟩,λx c O=>?_⟩
  obtain ⟨Q,T⟩:=L x c O
  exact h j _ x a b c y p Q T
 .have e:j=ds.length:=by omega
  subst e
  exact .inl ⟨f M b w,o a b p⟩
def aX (idx:List Nat)(k:Nat):St->St:=λσ=>idx.map (λj=>(σ[j]?).join)++List.replicate k none
def nX (N N':List Str)(names:List (Str×NameKind)):List Nat->Nat->Bool
 |[],_=>true
 |j::r,i=>(match N'[i]?,N[j]? with|some x,some y=>decide (x=y)&&(names.lookup x==some .free)|_,_=>false)&&nX N N' names r (i+1)
def BJ:∀{c:List Nat} {d:Nat},nX N f a c d=true->∀(i j:Nat),c[i]?=some j->∃x,f[d+i]?=some x/\N[j]?=some x/\a.lookup x=some .free
 |[],_,_,i,j,h=>by simp at h
 |q::r,d,g,i,j,h=>by
  rw [nX,LP] at g
  cases i with
  |zero=>
   simp at h;subst h
   have b:=g.1
   cases e:f[d]? with
   |none=>rw [e] at b;cases b
   |some x=>
    cases l:N[q]? with
    |none=>rw [e,l] at b;cases b
    |some y=>
     rw [e,l] at b
     simp only [LP,OJ,NE] at b
     obtain ⟨rfl,k⟩:=b
     exact ⟨x,by simpa using e,rfl,k⟩
  |succ i=>
   obtain ⟨x,b,k,m⟩:=BJ g.2 i j (by simpa using h)
   exact ⟨x,by rw [<-b];congr 1;omega,k,m⟩
def A7{f:List Str}{a:List Nat}(m:f.length=a.length+k)(n:nX N f b a 0=true):∀d:St,d.length=N.length->
  (aX a k d).length=f.length/\∀(i:Nat) (x:Str) (v:V),f[i]?=some x->(aX a k d)[i]?=some (some v)->b.lookup x=some .free/\∃j:Nat,N[j]?=some x/\d[j]?=some (some v):=by
 intro d o
 refine ⟨by simp [aX,m],λi x v p c=>?_⟩
 unfold aX at c
 by_cases g:i<a.length
 .rw [Lm (by simpa using g),KZ,KL g] at c
  obtain ⟨y,h,l,q⟩:=BJ n i a[i] (KL g)
  rw [M8,p] at h
  cases h
  refine ⟨q,a[i],l,?_⟩
  simp only [NA,Option.some.injEq] at c
  cases e:d[a[i]]? with
  |none=>rw [e] at c;cases c
  |some w=>rw [e] at c;simp at c;rw [c]
 .rw [Lo (by simpa using g)] at c
  obtain ⟨h,l⟩:=KJ.mp c
  simp at l
def qw (esc:Scope)(scope:Scope):Bool:=
 (scope.names.all λy=>decide (y.2≠.cell))&&(scope.names.all λy=> !(y.2==.local)||(scope.names.lookup y.1==some .local))&&(scope.names.all λy=> !(y.2==.free)||(esc.names.lookup y.1==some .cell)||(esc.names.lookup y.1==some .free))
def zU(h:qw b a=true):(∀y∈a.names,y.2≠.cell)/\(∀y∈a.names,y.2=.local->a.names.lookup y.1=some .local)/\
  ∀n,(n,NameKind.free)∈a.names->b.names.lookup n=some .cell\/b.names.lookup n=some .free:=by
 rw [qw,LP,LP,Nk,Nk,Nk] at h
 obtain ⟨⟨d,f⟩,g⟩:=h
 refine ⟨λy c=>Le (d y c),λy c e=>?_,λn i=>?_⟩
 .have:=f y c
  rw [e] at this
  simpa using this
 .have:=g _ i
  simpa using this
section
variable {X:Cx}{tg iter elt:Expr}{ifs:List Expr}{scope:Scope}{pos:Pos}{wi:TI}{g:TG}{tt:TT}{te:TE}
def fC (c:List Str)(a:List Nat)(k:Nat)(m:PI X tg iter wi)(n:∀d C e s H,PG (bG X c scope d C e s H) tg g)(f:∀d C e s H,mQ (bG X c scope d C e s H) ifs tt)(i:∀d C e s H,PE (bG X c scope d C e s H) elt te)
  (o:X.calm=true:=by rfl) (b:scope.kind=.function:=by rfl) (j:qw X.env.scope scope=true:=by rfl) (p:c.length=a.length+k:=by rfl) (l:nX X.N c scope.names a 0=true:=by rfl)
  (q:∀x,foldedSetIterable iter X.env x=pure x:=by intro _;rfl):PE X (.ListComp elt [⟨tg,iter,ifs,0⟩] scope pos) (ij wi (aX a k) g tt te):=
 let h:=zU j
 IR o b h.1 h.2.1 h.2.2 (A7 p l) m n f i q
def nq{a:Pos}{i:Nat}(d:List Str)(b:List Nat)(k:Nat)(r:X.N.Nodup)(j:X.N[i]?=some y)(t:Loc X.env.scope y)(u:PI X tg iter wi)(v:∀e C f s H,PG (bG X d scope e C f s H) tg g)(l:∀e C f s H,mQ (bG X d scope e C f s H) ifs tt)(m:∀e C f s H,PE (bG X d scope e C f s H) elt te)
  (n:swapsWith (.ListComp elt [⟨tg,iter,ifs,0⟩] scope pos) (some (.Name y q)) a.line X.env=pure true:=by rfl)
  (w:X.calm=true:=by rfl) (c:scope.kind=.function:=by rfl) (o:qw X.env.scope scope=true:=by rfl) (z:d.length=b.length+k:=by rfl) (p:nX X.N d scope.names b 0=true:=by rfl)
  (A:∀x,foldedSetIterable iter X.env x=pure x:=by intro _;rfl) (B:X.fn y=true\/X.env.scope.names.lookup y=some .local:=by first|exact .inl rfl|exact .inr rfl|assumption):
  PS X (.Assign [.Name y q] (.ListComp elt [⟨tg,iter,ifs,0⟩] scope pos) a) (dW (ij wi (aX b k) g tt te) (ci i)):=
 let h:=zU o
 HK n r j t w c h.1 h.2.1 h.2.2 (A7 z p) u v l m A B
end
end FL
namespace FL
open PySem L2
def D.pp:D->String
 |.av=>"NoneType"|.bl _=>"bool"|.int _=>"int"|.str _=>"str"|.tup _=>"tuple"|.lst _=>"list"
def Jo{K:PySem.W.Frag}(r:al (but H M) x d):gm K H x (.type d.pp):=by
 cases r with
 |av=>exact .av
 |bl b=>exact .bl b
 |int b=>exact .int b
 |str b=>exact .str b
 |tup h _=>exact .tup (ax h).2
 |lst h _=>exact .lst (ax h).2
def iS (K:PySem.W.Frag):List V->Hp->VK->Prop:=λxs H Q=>∃x n t b,xs=[x,.ty n]/\gm K H x t/\PySem.W.kitOne K t (.type n)=some b/\Q (.bl b) H
def Et:h9 X (.builtin "isinstance") (iS X.K):=by
 intro c s g H i j Q I r h
 obtain ⟨x,n,t,b,rfl,d,e,q⟩:=h
 obtain ⟨u,w,rfl,f,a⟩:=vals2 r
 cases a
 exact EG I f d e λk=>⟨.bl b,H,I.tok _,rfl,q⟩
def F8 (K:PySem.W.Frag)(a b:String):PySem.W.kitOne K (.type a) (.type b)=PySem.W.kitOne [] (.type a) (.type b):=rfl
section
variable {G:Hp}{σ:St}{ta:TE}{d:D}{K:PySem.W.Frag}
def mF(h:ae ta G σ d)(a:PySem.W.kitOne [] (.type d.pp) (.type n)=some b):ae (cH (iS K) (bb ta (bb (tC (.ty n)) bv))) G σ (.bl b):=
 λM H s l Q k=>h M H s l _ λx c e f=>⟨x,n,_,b,rfl,Jo f,by rw [F8];exact a,k _ c e (.bl b)⟩
def yb:D->Bool
 |.int _=>true|.bl _=>true|_=>false
def vL:D->Bool
 |.bl _=>true|_=>false
def sK:D->Bool
 |.str _=>true|_=>false
def zr:D->Bool
 |.tup _=>true|_=>false
def Bo:D->Bool
 |.lst _=>true|_=>false
def lL (h:ae ta G σ d):ae (cH (iS K) (bb ta (bb (tC (.ty "int")) bv))) G σ (.bl (yb d)):=by
 cases d with
 |bl _=>exact mF h rfl
 |int _=>exact mF h rfl
 |_=>exact mF h rfl
def uS (h:ae ta G σ d):ae (cH (iS K) (bb ta (bb (tC (.ty "bool")) bv))) G σ (.bl (vL d)):=by
 cases d<;>exact mF h rfl
def iK (h:ae ta G σ d):ae (cH (iS K) (bb ta (bb (tC (.ty "str")) bv))) G σ (.bl (sK d)):=by
 cases d<;>exact mF h rfl
def mW (h:ae ta G σ d):ae (cH (iS K) (bb ta (bb (tC (.ty "tuple")) bv))) G σ (.bl (zr d)):=by
 cases d<;>exact mF h rfl
def qI (h:ae ta G σ d):ae (cH (iS K) (bb ta (bb (tC (.ty "list")) bv))) G σ (.bl (Bo d)):=by
 cases d<;>exact mF h rfl
end
end FL
namespace FL
open PySem L2
structure a5 (P:Program)(w:World)(K:PySem.W.Frag)(mg:Str->Option Value)(base:Heap)(n:Nat)(x:Str)(ps:List Str)(sp:Sp):Prop where
 ex:∃f fd,bq P w K mg base bI n f fd ps sp/\Binds K fd ps []/\PySem.W.keepIn K (.ref f)=true/\mg x=some (.ref f)
def bQ{X:Cx}(h:a5 X.prog X.w X.K X.mg X.base n x l j)(o:cI m X.A)(q:PA X (e::a) t)(d:n<=m:=by decide)
  (r:Gl X x:=by rfl) (g:(x==("__debug__":Str))=false:=by decide) (s:starEach (e::a) X.env=(false,eval e X.env)::starEach a X.env:=by rfl) (i:(backTo c (starEach a X.env)).any (·.1)=false:=by rfl):
  PE X (.Call (.Name x p) (e::a) [] c) (iH j [] E0 t):=by
 obtain ⟨f,v,F,b,k,u⟩:=h.ex
 exact JD (F.mono d) o r u k b .nil tm q g s i
structure Bl (mg:Str->Option Value):Prop where
 len:mg "len"=none
 isinstance:mg "isinstance"=none
 range:mg "range"=none
 int:mg "int"=none
 str:mg "str"=none
 bool:mg "bool"=none
 list:mg "list"=none
 tuple:mg "tuple"=none
 dict:mg "dict"=none
 zip:mg "zip"=none
 enumerate:mg "enumerate"=none
 all:mg "all"=none
 reversed:mg "reversed"=none
section
variable {X:Cx}{e:Expr}{es:List Expr}{t:TA}{te:TE}{tg iter:Expr}{p pos:Pos}
def F7(h:PI X tg iter c)(f:PI X tg iter d):PI X tg iter (λb H R=>c b H R\/d b H R):=by
 intro a s b H R I q
 rcases q with q|q
 .exact h a s b H R I q
 .exact f a s b H R I q
def cF (h:PE X iter te):PI X tg iter (λa H R=>lF X.K te a H R\/mO X.K te a H R):=F7 (ID h) (Dq h)
def cg (B:Bl X.mg)(h:PE X e te)(c:Gl X "len":=by rfl)(b:starEach [e] X.env=(false,eval e X.env)::starEach [] X.env:=by rfl):PE X (.Call (.Name "len" p) [e] [] pos) (cH (λd H Q=>∃p a,d=[.ref p]/\(aO X.K H p a\/bo X.K H p a)/\Q (.int a.length) H) (bb te bv)):=
 p6 Ke c B.len PySem.boot_len (ah h ap b) (he:=b)
def ee(B:Bl X.mg)(h:PE X e te)(f:X.mg x=none)(g:bootBuiltins x=some (.type n))(i:Gl X "isinstance":=by rfl)(c:Gl X x:=by rfl)(j:x≠"__name__":=by decide)(k:(x==("__debug__":Str))=false:=by decide)
  (d:starEach [e,.Name x a] X.env=(false,eval e X.env)::starEach [.Name x a] X.env:=by rfl) (b:starEach [.Name x a] X.env=(false,eval (.Name x a) X.env)::starEach [] X.env:=by rfl):
  PE X (.Call (.Name "isinstance" p) [e,.Name x a] [] pos) (cH (iS X.K) (bb te (bb (tC (.ty n)) bv))):=
 p6 Et i B.isinstance Oe (ah h (ah (ue (v:=.ty n) c f g rfl j k) ap b) d) (he:=d) (hpl:=by rw [b];rfl)
def sk (B:Bl X.mg)(h:PE X e te)(c:Gl X "tuple":=by rfl)(b:starEach [e] X.env=(false,eval e X.env)::starEach [] X.env:=by rfl):PE X (.Call (.Name "tuple" p) [e] [] pos)
  (cH (λd H Q=>∃p a,d=[.ref p]/\((aO X.K H p a/\∀l,H l=none->Q (.ref l) (upd H l (.tup a)))\/(bo X.K H p a/\Q (.ref p) H))) (bb te bv)):=
 px JE c B.tuple L4 (ah h ap b) (he:=b)
def nC (B:Bl X.mg)(h:PE X e te)(c:Gl X "list":=by rfl)(b:starEach [e] X.env=(false,eval e X.env)::starEach [] X.env:=by rfl):PE X (.Call (.Name "list" p) [e] [] pos)
  (cH (λd H Q=>∃p a,d=[.ref p]/\(aO X.K H p a\/bo X.K H p a)/\∀l,H l=none->Q (.ref l) (upd H l (.lst a))) (bb te bv)):=
 px Hw c B.list L9 (ah h ap b) (he:=b)
def wD (B:Bl X.mg)(h:PE X e te)(f:X.calm=true:=by rfl)(g:Gl X "dict":=by rfl)(c:starEach [e] X.env=(false,eval e X.env)::starEach [] X.env:=by rfl):PE X (.Call (.Name "dict" p) [e] [] pos)
  (cH (λi H Q=>∃a d b,i=[.ref a]/\aO X.K H a d/\Pairs X.K H d b/\∀p,H p=none->Q (.ref p) (upd H p (.dK (bT [] b)))) (bb te bv)):=
 px (Ig f) g B.dict O6 (ah h ap c) (he:=c)
def aT(f:PE X a c)(g:PE X b d)(h:qC b:=by intro _ _;rfl):PE X (.Subscript a b pos) (bz (eF X.K) c d):=D6 Gd f g h
def fG (a:X.A.units+50<cLine):cD X (compareOp .Eq) (λx y H Q=>sQ x y H Q\/qW x y H Q):=(F9 a).or wZ
def eo (a:X.A.units+50<cLine):cD X (compareOp .NotEq) (λx y H Q=>kh x y H Q\/kf x y H Q):=(EC a).or Br
def jx{b d:Pos}(l:PE X o j)(h:PE X e te)(k:starEach [e] X.env=(false,eval e X.env)::starEach [] X.env:=by rfl)(f:attributeBase o "append" X.env (eval o X.env)=eval o X.env:=by rfl)
  (i:((backTo a (starEach [e] X.env)).all (λx=> !x.1)&&(backToKw a (keywordEach [] X.env)).all (λx=>x.1.isSome)&&decide ([e].length+([]:List Keyword).length+(if ([]:List Keyword).isEmpty then 0 else 1)<30))=true:=by rfl)
  (g:(b.endLine==a.line)=true:=by rfl) (c:(backTo a (starEach [] X.env)).any (·.1)=false:=by rfl) (m:swapsWith (.Call (.Attribute o "append" b) [e] [] a) none d.line X.env=pure false:=by rfl):
  PS X (.Expr (.Call (.Attribute o "append" b) [e] [] a) d) (lw (lJ X.K "list" nK j (bb te bv))):=
 ky (oT LU PySem.F.slot_list_append PySem.F.type_list_append zI l (ah h ap k) f i g k c) m
end
section
variable {X:Cx}{N':List Str}{scope:Scope}{cl:List (Str×Addr)}{C:Addr}{fp:List Addr}{s:Shared}{H:Hp}{e a b:Expr}{te ta tb:TE}{p pos:Pos}
def j9 (c:PE (bG X N' scope cl C fp s H) a ta)(d:PE (bG X N' scope cl C fp s H) b tb)(f:qC b:=by intro _ _;rfl):PE (bG X N' scope cl C fp s H) (.Subscript a b pos) (bz (eF X.K) ta tb):=aT c d f
def ux(f:X.calm=true)(h:pG (bG X N' scope cl C fp s H) c t)(g:(assignEach c (bG X N' scope cl C fp s H).env).length=n:=by rfl)(d:(assignEach c (bG X N' scope cl C fp s H).env).findIdx? (·.1)=none:=by rfl):
  PG (bG X N' scope cl C fp s H) (.Tuple c k pos) (mY X.K n t):=kn (X:=bG X N' scope cl C fp s H) f h g d
end
section
variable {G:Hp}{σ:St}{ta tb te:TE}{d:D}{ds:List D}{K:PySem.W.Frag}
def bR(h:c7 ds i=some d)(e:ae ta G σ (.lst ds))(f:ae tb G σ (.int i)):ae (bz (eF K) ta tb) G σ d:=
 λM H s l Q k=>e M H s l _ λx g b j=>f M g (s.trans (b.but M)) (l.same b) _ λy m c n=>by
  obtain ⟨a,o,rfl,p,q⟩:=(j.mono (c.but M)).eA
  obtain ⟨v,r,t⟩:=z0 q h
  exact .inl ⟨a,o,i,v,rfl,n.dP,aO.of (ax p).2,r,k v m (b.trans c) t⟩
def bV(h:c7 ds i=some d)(e:ae ta G σ (.tup ds))(f:ae tb G σ (.int i)):ae (bz (eF K) ta tb) G σ d:=
 λM H s l Q k=>e M H s l _ λx g b j=>f M g (s.trans (b.but M)) (l.same b) _ λy m c n=>by
  obtain ⟨a,o,rfl,p,q⟩:=(j.mono (c.but M)).e9
  obtain ⟨v,r,t⟩:=z0 q h
  exact .inr (.inl ⟨a,o,i,v,rfl,n.dP,bo.of (ax p).2,r,k v m (b.trans c) t⟩)
def jD(a:cn d1 d2=true)(b:d1.cS<=40)(c:ae ta G σ d1)(e:ae tb G σ d2):ae (bz (λx y H Q=>sQ x y H Q\/qW x y H Q) ta tb) G σ (.bl (decide (d1=d2))):=
 iP (λM H x y l f g Q k=>.inl ⟨d1,d2,⟨M,f,g,a,b⟩,k _ H (ab.refl _) (.bl _)⟩) c e
def jP(a:cn d1 d2=true)(b:d1.cS<=40)(c:ae ta G σ d1)(e:ae tb G σ d2):ae (bz (λx y H Q=>kh x y H Q\/kf x y H Q) ta tb) G σ (.bl (!decide (d1=d2))):=
 iP (λM H x y l f g Q k=>.inl ⟨d1,d2,⟨M,f,g,a,b⟩,k _ H (ab.refl _) (.bl _)⟩) c e
def vg(c:ae ta G σ (.bl a))(f:ae tb G σ (.bl b)):ae (bz (λx y H Q=>kh x y H Q\/kf x y H Q) ta tb) G σ (.bl (!decide (a=b))):=
 iP (λM H x y l g h Q k=>.inr (by
  rw [g.ia,h.ia]
  refine ⟨rfl,?_⟩
  have e:decide (V.bl a=V.bl b)=decide (a=b):=by simp
  rw [e]
  exact k _ H (ab.refl _) (.bl _))) c f
def lD(a:ae ta G σ (.int i))(b:ae tb G σ (.int j)):ae (bz (λx y H Q=>sQ x y H Q\/qW x y H Q) ta tb) G σ (.bl (decide (i=j))):=
 (jD rfl (Ll _) a b).eq Z8
def im(a:ae ta G σ (.int i))(b:ae tb G σ (.int j)):ae (bz (λx y H Q=>kh x y H Q\/kf x y H Q) ta tb) G σ (.bl (!decide (i=j))):=
 (jP rfl (Ll _) a b).eq Z8
def fy (h:ae te G σ (.lst ds)):Walk (λσ H R=>lF K te σ H R\/mO K te σ H R) G σ ds:=λM H s l R k=>.inl (FF h M H s l R k)
def gO (h:ae te G σ (.tup ds)):Walk (λσ H R=>lF K te σ H R\/mO K te σ H R) G σ ds:=λM H s l R k=>.inr (FN h M H s l R k)
def EH{E:Ends}{i:Nat}(l:au M H)(e:σ[i]?=some (some (.ref a)))(f:H a=some (.lst b))(g:b.length<sizeLine)(h:ae te (but H M) σ d)
  (k:∀v c,ab H c->al (but c M) v d->E.nx σ (upd c a (.lst (b++[v])))):lw (lJ K "list" nK (aR i) (bb te bv)) E σ H:=
 ⟨.ref a,e,(show gj K "list" (.ref a) H from .inl ⟨rfl,b,aO.of f⟩),h.at l λv c s r=>⟨a,b,v,rfl,rfl,s _ _ f,g,k v c s r⟩⟩
end
def jI(b:0<=i)(h:l[i.toNat]?=some x):c7 l i=some x:=by
 have:i=((i.toNat:Nat):Int):=by omega
 rw [this]
 exact su h
end FL
namespace FL
open PySem L2
abbrev Dn:=List (Option D)
structure aA (G:Hp)(σ:St)(δ:Dn):Prop where
 len:σ.length=δ.length
 get:∀(i:Nat) (d:D),δ[i]?=some (some d)->∃v,σ[i]?=some (some v)/\al G v d
def aA.mono(h:aA G f g)(e:ab G c):aA c f g:=⟨h.len,λi d q=>let ⟨v,a,b⟩:=h.get i d q;⟨v,a,b.mono e⟩⟩
def aA.same(h:aA (but H M) b c)(e:ab H a):aA (but a M) b c:=h.mono (e.but M)
def aA.set(h:aA G b a)(i:Nat)(r:al G v d):aA G (b.set i (some v)) (a.set i (some d)):=by
 refine ⟨by simp [h.len],λj e q=>?_⟩
 have g:=h.len
 by_cases c:i=j
 .subst c
  by_cases f:i<a.length
  .rw [K6 f] at q
   cases q
   exact ⟨v,K6 Z6,r⟩
  .rw [LI (by simpa using LC f)] at q;cases q
 .rw [KQ c] at q⊢
  exact h.get j e q
def aA.off(h:aA G b a)(i:Nat)(o:Option V):aA G (b.set i o) (a.set i none):=by
 refine ⟨by simp [h.len],λj e q=>?_⟩
 by_cases c:i=j
 .subst c
  by_cases d:i<a.length
  .rw [K6 d] at q;cases q
  .rw [LI (by simpa using LC d)] at q;cases q
 .rw [KQ c] at q⊢
  exact h.get j e q
def aA.weak{a:Dn}(h:aA G c b)(e:a.length=b.length)(w:∀(i:Nat) (d:D),a[i]?=some (some d)->b[i]?=some (some d)):aA G c a:=
 ⟨h.len.trans e.symm,λi d q=>h.get i d (w i d q)⟩
section
variable {G:Hp}{σ:St}{δ:Dn}{d:D}{b:Bool}{M:List Addr}{H:Hp}{ta:TE}{tt:TT}{E:Ends}
def aI {i:Nat}(h:aA G σ δ)(e:δ[i]?=some (some d)):ae (aR i) G σ d:=let ⟨v,a,r⟩:=h.get i d e;cE a r
def BC(l:au M H)(e:aA (but H M) σ δ)(h:ae ta (but H M) σ d)(k:∀c a,ab H a->au M a->aA (but a M) c (δ.set i (some d))->E.nx c a):dW ta (ci i) E σ H:=
 h.at l λv a s r=>k _ a s (l.same s) ((e.same s).set i r)
def eG (l:au M H)(h:ae ta (but H M) σ d)(k:∀v a,ab H a->al (but a M) v d->E.rt v a):pS ta E σ H:=h.at l k
def gX {c f:TS}(l:au M H)(g:aA (but H M) σ δ)(h:aY tt (but H M) σ b)(i:b=true->∀a,ab H a->au M a->aA (but a M) σ δ->c E σ a)(j:b=false->∀a,ab H a->au M a->aA (but a M) σ δ->f E σ a):mM tt c f E σ H:=
 x9 l h (λe a s=>i e a s (l.same s) (g.same s)) (λe a s=>j e a s (l.same s) (g.same s))
end
def aA.drop(h:aA G b a)(i:Nat):aA G b (a.set i none):=
 h.weak Z8 λj d q=>by
  by_cases c:i=j
  .subst c
   by_cases e:i<a.length
   .rw [K6 e] at q;cases q
   .rw [LI (by simpa using LC e)] at q;cases q
  .rw [KQ c] at q;exact q
def nx{E:Ends}(h:E.nx a H):qE E a H:=h
def gZ {G:Hp}{vs:List V}{ds:List D}(h:aD G vs ds)(N:List Str):aA G (L2.start N vs) (ds.map some++List.replicate (N.length-ds.length) none):=by
 refine ⟨by simp [L2.start,h.length],λi d q=>?_⟩
 have hl:=h.length
 unfold L2.start
 by_cases hi:i<ds.length
 .rw [Lm (by simpa using hi),KZ] at q
  cases e:ds[i]? with
  |none=>rw [e] at q;cases q
  |some d'=>
   rw [e] at q
   cases q
   obtain ⟨v,h1,h2⟩:=h.get e
   exact ⟨v,by rw [Lm (by simpa using (by omega:i<vs.length)),KZ,h1];rfl,h2⟩
 .rw [Lo (by simpa using LC hi)] at q
  obtain ⟨h1,h2⟩:=KJ.mp q
  simp at h2
def eD(a:cI k A):A.units+50<cLine:=by have:=a.units;omega
def eT {a b:D}(d:a.sc=true)(c:b.sc=true):cn a b=true/\a.cS<=40:=by
 cases a with
 |int i=>cases b<;>first|exact ⟨rfl,Ll _⟩|exact absurd c (by simp [D.sc])
 |str i=>cases b<;>first|exact ⟨rfl,Ll _⟩|exact absurd c (by simp [D.sc])
 |_=>exact absurd d (by simp [D.sc])
def rl (K:PySem.W.Frag):Sp:=λvs H Q _=>∃(a:Addr) (ns:List Int),vs=[.ref a]/\aO K H a (ns.map V.int)/\ns.length<=63/\∀H',Q (.bl true) H'
def GN {a:List Int}(h:a.length<=63):gL (a.map V.int) none (some 500)=a.map V.int:=by
 have:=DG (xs:=a.map V.int) 500
 rw [Lz (by simp;omega)] at this
 exact this
def Fi {H:Hp}{p:Addr}{ns:List Int}(N:List Str)(a:Addr)(n:Nat)(hN:N.length=n+1):aA (but (upd H p (.lst (ns.map V.int))) []) ((L2.start N [.ref a]).set 0 (some (.ref p))) (some (.lst (ns.map D.int))::List.replicate n none):=by
 have h0:aA (but (upd H p (.lst (ns.map V.int))) []) (L2.start N [.ref a]) (none::List.replicate n none):=by
  refine ⟨by simp [L2.start,hN],λi d q=>?_⟩
  obtain ⟨h1,h2⟩:=KJ.mp q
  have:(none::List.replicate n none:Dn)=List.replicate (n+1) none:=rfl
  rw [List.getElem_of_eq this] at h2
  simp at h2
 have r:al (but (upd H p (.lst (ns.map V.int))) []) (.ref p) (.lst (ns.map D.int)):=.lst (by rw [IP];exact aK) (aD.ints ns)
 exact h0.set 0 r
def lK (l:List D)(k:Int):D:=if k<l.length then l.getD k.toNat .av else .int 0
def Gb (a:List Int)(k:Nat):lK (a.map D.int) k=.int (a.getD k 0):=by
 unfold lK
 by_cases h:k<a.length
 .rw [K4 (by simpa using h)]
  simp [List.getD,h]
 .rw [KS (by simpa using h)]
  have:a.getD k 0=0:=by simp [List.getD,LI (LC h)]
  rw [this]
end FL
namespace PySem
structure mI (prog:Program)(w:World)(i l:Addr)(St:Nat->Heap->Prop)(item:Nat->Option Value):Prop where
 here:∀k h,St k h->∃o vs,h.get? i=some o/\o.data=.fields vs
 keep:∀k h h',St k h->(∀o,h.get? i=some o->h'.get? i=some o)->(∀o,h.get? l=some o->h'.get? l=some o)->St k h'
 one:∀(A:Around) (E:Value->Shared->Prop) (k:Nat) (s:Shared) (x:Value) (Q:Value->Shared->Prop),St k s.heap->item k=some x->(∀h',St (k+1) h'->Heap.SameBut i s.heap h'->Q x {s with heap:=h'})->wpAny (model prog w) A (Builtin.SmallTypes.nextOf (.ref i)) Q E s
 over:∀(A:Around) (E:Value->Shared->Prop) (k:Nat) (s:Shared) (Q:Value->Shared->Prop),A.handled=none->St k s.heap->item k=none->(∀h' e,Heap.ExtBut i s.heap h'->(∃o,h'.get? e=some o/\o.cls=.type "StopIteration")->E (.ref e) {s with heap:=h'})->wpAny (model prog w) A (Builtin.SmallTypes.nextOf (.ref i)) Q E s
section
variable {prog:Program}{w:World}{A:Around}{E:Value->Shared->Prop}{s:Shared}
def HB{Q:Value->Shared->Prop}(b:s.heap.IsTupleIter c l i)(j:s.heap.IsTuple l a)(k:a[i]?=some x)
  (m:∀f,f.IsTupleIter c l (i+1)->Heap.SameBut c s.heap f->Q x {s with heap:=f}):wpAny (model prog w) A (Builtin.SmallTypes.nextOf (.ref c)) Q E s:=by
 obtain ⟨o,e,n,d⟩:=id b
 obtain ⟨p,g,_,q,h⟩:=j
 unfold Builtin.SmallTypes.nextOf
 refine KI (L1 (name:=Str.ofString "__next__") b.typeIs MF (MX MF b.typeIs Oo ?_ (Of _)))
 show wpAny _ _ (field (.ref c) 0>>=_) _ _ s
 refine KI (LV e d (x:=.ref l) rfl ?_)
 show wpAny _ _ (if (Value.ref l==Value.none)=true then _ else _) _ _ s
 rw [KS (show¬((Value.ref l==Value.none)=true) from K0)]
 show wpAny _ _ (field (.ref c) 1>>=_) _ _ s
 refine KI (LV e d (x:=.int i 0) rfl ?_)
 show wpAny _ _ (seqItems? (.ref l)>>=_) _ _ s
 refine KI (LX g h ?_)
 simp only [MM,k]
 refine KI (wpAny_setField e d Z8 (K5 ⟨x,rfl,K5 (m _ ⟨_,Nf _ e (Obj.isFreed_of_fields (Obj.data_mapFields d _)),(Obj.cls_mapFields ..).trans n,?_⟩ (MV ..))⟩))
 rw [Obj.data_mapFields d]
 simp [rawInt]
def GQ(n:A.handled=none)(c:s.heap.IsTupleIter d l i)(p:s.heap.IsTuple l b)(q:b[i]?=none)
  (r:∀f e,Heap.ExtBut d s.heap f->(∃o,f.get? e=some o/\o.cls=.type "StopIteration")->E (.ref e) {s with heap:=f}):wpAny (model prog w) A (Builtin.SmallTypes.nextOf (.ref d)) Q E s:=by
 obtain ⟨o,g,t,h⟩:=id c
 obtain ⟨u,j,_,v,k⟩:=p
 unfold Builtin.SmallTypes.nextOf
 refine KI (L1 (name:=Str.ofString "__next__") c.typeIs MF (MX MF c.typeIs Oo ?_ (Of _)))
 show wpAny _ _ (field (.ref d) 0>>=_) _ _ s
 refine KI (LV g h (x:=.ref l) rfl ?_)
 show wpAny _ _ (if (Value.ref l==Value.none)=true then _ else _) _ _ s
 rw [KS (show¬((Value.ref l==Value.none)=true) from K0)]
 show wpAny _ _ (field (.ref d) 1>>=_) _ _ s
 refine KI (LV g h (x:=.int i 0) rfl ?_)
 show wpAny _ _ (seqItems? (.ref l)>>=_) _ _ s
 refine KI (LX j k ?_)
 simp only [MM,q]
 refine KI (NF (KI (wpAny_setField g h Z8 ?_)))
 show wpAny _ _ (newExc (.type "StopIteration") []>>=_) _ _ _
 refine KI ?_
 simp only [newExc,newTuple]
 refine KI (Mj ?_ (by size_fits))
 refine KI (m:=firstArgMember _ _) (Po (a:=Value.none) (by first|rfl|(simp only [firstArgMember];rfl)) ?_)
 refine Mj ?_ (by size_fits)
 simp only [raiseNew]
 refine KI (wpAny_handled ?_)
 first|rw [show A.in1.handled=none from n]|rw [n]
 exact KI (K5 (wpAny_throw (r _ _ (((MV ..).extBut.push _).push _) ⟨_,Lc _ rfl,rfl⟩)))
def uu {i l:Addr}{xs:Array Value}:mI prog w i l (λk h=>h.IsTupleIter i l k/\h.IsTuple l xs/\l≠i) (λk=>xs[k]?) where
 here:=λk h ⟨⟨o,e,_,d⟩,_⟩=>⟨o,_,e,d⟩
 keep:=λk h h' ⟨⟨o,e,r⟩,⟨o2,e2,r2⟩,n⟩ k1 k2=>⟨⟨o,k1 _ e,r⟩,⟨o2,k2 _ e2,r2⟩,n⟩
 one:=λA E k s x Q ⟨h1,h2,n⟩ hx hq=>HB h1 h2 hx λh' a b=>hq h' ⟨a,h2.extBut b.extBut n,n⟩ b
 over:=λA E k s Q hh ⟨h1,h2,n⟩ hx hq=>GQ hh h1 h2 hx λh' e a b=>hq h' e a b
variable {z TI TO i1 i2 l1 l2:Addr}{S1 S2:Nat->Heap->Prop}{it1 it2:Nat->Option Value}
structure lj (prog:Program)(w:World)(S1 S2:Nat->Heap->Prop)(z TI TO i1 i2 l1 l2:Addr)(f0:Value)(k:Nat)(h:Heap):Prop where
 zip:IsZip h z TI TO f0
 ins:IsPair h TI (.ref i1) (.ref i2)
 out:∃a b,IsPair h TO a b
 one:S1 k h
 two:S2 k h
def CP{Q:Value->Shared->Prop}(M:mI prog w i1 l1 S1 it1)(N:mI prog w i2 l2 S2 it2)(D:ZipApart z TI TO i1 i2 l1 l2)(Z:lj prog w S1 S2 z TI TO i1 i2 l1 l2 .none k s.heap)(hx:it1 k=some x)(hy:it2 k=some y)
  (hQ:∀O,lj prog w S1 S2 z TI TO i1 i2 l1 l2 (rawInt s.heap.objs.size) (k+1) O->IsPair O s.heap.objs.size x y->(∀c o,c≠z->c≠TO->c≠i1->c≠i2->s.heap.get? c=some o->O.get? c=some o)->Q (.ref s.heap.objs.size) {s with heap:=O}):
  wpAny (model prog w) A (Builtin.«zip.__next__» ⟨[.ref z],[]⟩) (λY s'=>∃v,Y=.done (.ret v)/\Q v s') E s:=by
 obtain ⟨C,G,⟨a,b,ac⟩,h1,h2⟩:=Z
 show wpAny _ _ (field (.ref z) 2>>=_) _ _ _
 refine KI (LV C rfl (x:=.bool false) rfl ?_)
 show wpAny _ _ (field (.ref z) 3>>=_) _ _ _
 refine KI (LV C rfl (x:=.ref TI) rfl (KI (LX G rfl ?_)))
 show wpAny _ _ (Builtin.SmallTypes.ownedTupleIsFree (.ref z)>>=_) _ _ _
 unfold Builtin.SmallTypes.ownedTupleIsFree
 refine KI (KI (LV C rfl (x:=.none) rfl (K5 ?_)))
 simp only [Nz]
 refine KI (NF (KI (LV C rfl (x:=.ref TO) rfl (KI (M9 C Z8 λha l m=>?_)))))
 replace l:IsZip ha z TI TO .ellipsis:=l
 refine KI ?_
 simp only [OK,List.zipIdx_nil,Oc,List.forIn_nil]
 refine KI (KI (wpAny_onRaise ?_))
 show wpAny _ _ (Builtin.SmallTypes.nextOf (.ref i1)>>=_) _ _ _
 have af:S1 k ha:=M.keep _ _ _ h1 (λo e=>m.extBut _ _ D.i1z e) (λo e=>m.extBut _ _ D.l1z e)
 refine KI (M.one _ _ k {s with heap:=ha} x _ af hx λhb aj u=>K5 ?_)
 have i:IsPair hb TO a b:=u.extBut _ _ D.TOi1 (m.extBut _ _ D.TOz ac)
 refine KI (LX i rfl (KI (wpAny_updateSeq_pair i λhc g n=>?_)))
 replace g:IsPair hc TO x b:=g
 refine KI (Nh (K5 (KI (KI (wpAny_onRaise ?_)))))
 show wpAny _ _ (Builtin.SmallTypes.nextOf (.ref i2)>>=_) _ _ _
 have am:S2 k hc:=N.keep _ _ _ h2 (λo e=>n.extBut _ _ D.TOi2.symm (u.extBut _ _ D.i12.symm (m.extBut _ _ D.i2z e))) (λo e=>n.extBut _ _ D.l2TO (u.extBut _ _ D.l2i1 (m.extBut _ _ D.l2z e)))
 refine KI (N.one _ _ k {s with heap:=hc} y _ am hy λhd an B=>K5 ?_)
 have j:IsPair hd TO x b:=B.extBut _ _ D.TOi2 g
 refine KI (LX j rfl (KI (wpAny_updateSeq_pair j λd f p=>?_)))
 replace f:IsPair d TO x y:=f
 refine KI (Nh (K5 (K5 (KI (LX f rfl (KI (wpAny_newTuple ?_)))))))
 have H:d.objs.size=s.heap.objs.size:=by rw [p.1,B.1,n.1,u.1,m.1]
 have I:IsZip d z TI TO .ellipsis:=p.extBut _ _ D.TOz.symm (B.extBut _ _ D.i2z.symm (n.extBut _ _ D.TOz.symm (u.extBut _ _ D.i1z.symm l)))
 have J:∀c o,c≠z->c≠TO->c≠i1->c≠i2->s.heap.get? c=some o->d.get? c=some o:=λc o q T c3 c4 e=>p.extBut _ _ T (B.extBut _ _ c4 (n.extBut _ _ T (u.extBut _ _ c3 (m.extBut _ _ q e))))
 have ao:S1 (k+1) d:=M.keep _ _ _ aj (λo e=>p.extBut _ _ D.TOi1.symm (B.extBut _ _ D.i12 (n.extBut _ _ D.TOi1.symm e))) (λo e=>p.extBut _ _ D.l1TO (B.extBut _ _ D.l1i2 (n.extBut _ _ D.l1TO e)))
 have as:S2 (k+1) d:=N.keep _ _ _ an (λo e=>p.extBut _ _ D.TOi2.symm e) (λo e=>p.extBut _ _ D.l2TO e)
 show wpAny _ _ (Builtin.SmallTypes.ownedTupleHandOut (.ref z) (.ref d.objs.size)>>=_) _ _ _
 unfold Builtin.SmallTypes.ownedTupleHandOut
 have a0:IsZip (d.push {cls:=.type "tuple",data:=.seq #[x,y]}) z TI TO .ellipsis:=KO _ I
 refine KI (KI (M9 a0 Z8 λhg r sg=>?_))
 replace r:IsZip hg z TI TO (rawInt d.objs.size):=r
 refine M9 r Z8 λU h si=>?_
 replace h:IsZip U z TI TO (rawInt d.objs.size):=h
 have t:∀c o,c≠z->d.get? c=some o->U.get? c=some o:=λc o q e=>si.extBut _ _ q (sg.extBut _ _ q (KO _ e))
 have L:d.objs.size≠z:=M3 (Lf I)
 have hT:IsPair U d.objs.size x y:=si.extBut _ _ L (sg.extBut _ _ L (Lc _ rfl))
 rw [H] at h hT
 refine K5 ⟨_,rfl,?_⟩
 show Q (.ref d.objs.size) _
 rw [H]
 exact hQ U ⟨h,t _ _ D.TIz (J _ _ D.TIz D.TITO D.TIi1 D.TIi2 G),⟨_,_,t _ _ D.TOz f⟩,M.keep _ _ _ ao (λo e=>t _ o D.i1z e) (λo e=>t _ o D.l1z e),N.keep _ _ _ as (λo e=>t _ o D.i2z e) (λo e=>t _ o D.l2z e)⟩ hT λc o q T c3 c4 e=>t c o q (J c o q T c3 c4 e)
def JZ(B:A.handled=none)(t:mI prog w i1 l1 S1 it1)(D:ZipApart z TI TO i1 i2 l1 l2)(Z:lj prog w S1 S2 z TI TO i1 i2 l1 l2 .none k s.heap)(C:it1 k=none)
  (G:∀j e,(∀c o,c≠z->c≠i1->s.heap.get? c=some o->j.get? c=some o)->(∃o,j.get? e=some o/\o.cls=.type "StopIteration")->E (.ref e) {s with heap:=j}):
  wpAny (model prog w) A (Builtin.«zip.__next__» ⟨[.ref z],[]⟩) Q E s:=by
 obtain ⟨g,l,⟨a,b,H⟩,I,O⟩:=Z
 show wpAny _ _ (field (.ref z) 2>>=_) _ _ _
 refine KI (LV g rfl (x:=.bool false) rfl ?_)
 show wpAny _ _ (field (.ref z) 3>>=_) _ _ _
 refine KI (LV g rfl (x:=.ref TI) rfl (KI (LX l rfl ?_)))
 show wpAny _ _ (Builtin.SmallTypes.ownedTupleIsFree (.ref z)>>=_) _ _ _
 unfold Builtin.SmallTypes.ownedTupleIsFree
 refine KI (KI (LV g rfl (x:=.none) rfl (K5 ?_)))
 simp only [Nz]
 refine KI (NF (KI (LV g rfl (x:=.ref TO) rfl (KI (M9 g Z8 λm d n=>?_)))))
 replace d:IsZip m z TI TO .ellipsis:=d
 refine KI ?_
 simp only [OK,List.zipIdx_nil,Oc,List.forIn_nil]
 refine KI (KI (wpAny_onRaise ?_))
 show wpAny _ _ (Builtin.SmallTypes.nextOf (.ref i1)>>=_) _ _ _
 have p:S1 k m:=t.keep _ _ _ I (λo e=>n.extBut _ _ D.i1z e) (λo e=>n.extBut _ _ D.l1z e)
 refine KI (t.over _ _ k {s with heap:=m} _ B p C λJ e u ⟨L,f,h⟩=>?_)
 have i:IsZip J z TI TO .ellipsis:=u _ _ D.i1z.symm d
 have r:e≠z:=λq=>by subst q;rw [i] at f;cases f;simp at h
 exact M9 i Z8 λM _ v=>G M e (λc o y N q=>v.extBut _ _ y (u _ _ N (n.extBut _ _ y q))) ⟨L,v.extBut _ _ r f,h⟩
def JK{Q:Option Value->Shared->Prop}(f:mI prog w i1 l1 S1 it1)(g:mI prog w i2 l2 S2 it2)(D:ZipApart z TI TO i1 i2 l1 l2)(Z:lj prog w S1 S2 z TI TO i1 i2 l1 l2 .none k s.heap)(h:it1 k=some x)(i:it2 k=some y)
  (j:∀d,lj prog w S1 S2 z TI TO i1 i2 l1 l2 (rawInt s.heap.objs.size) (k+1) d->IsPair d s.heap.objs.size x y->(∀c o,c≠z->c≠TO->c≠i1->c≠i2->s.heap.get? c=some o->d.get? c=some o)->Q (some (.ref s.heap.objs.size)) {s with heap:=d}):
  wpAny (model prog w) A (pyNext (.ref z)) Q E s:=by
 have e:s.TypeIs (.ref z) "zip":=⟨_,Z.zip,rfl⟩
 unfold pyNext
 exact KI (wpAny_attempt (L1 (name:=Str.ofString "__next__") e Og (MX Og e F.entry_zip_next (CP f g D Z h i λd a b c=>K5 (j d a b c)) (F.args_zip_next_1 _))))
def Hz{Q:Option Value->Shared->Prop}(f:A.handled=none)(g:mI prog w i1 l1 S1 it1)(D:ZipApart z TI TO i1 i2 l1 l2)(Z:lj prog w S1 S2 z TI TO i1 i2 l1 l2 .none k s.heap)(h:it1 k=none)
  (i:∀a,(∀c o,c≠z->c≠i1->s.heap.get? c=some o->a.get? c=some o)->Q none {s with heap:=a}):wpAny (model prog w) A (pyNext (.ref z)) Q E s:=by
 have d:s.TypeIs (.ref z) "zip":=⟨_,Z.zip,rfl⟩
 unfold pyNext
 refine KI (wpAny_attempt (L1 (name:=Str.ofString "__next__") d Og (MX Og d F.entry_zip_next (JZ f g D Z h λa e j ⟨o,l,m⟩=>?_) (F.args_zip_next_1 _))))
 exact KI (wpAny_isInstance (T:="StopIteration") (b:=true) ⟨o,l,m⟩ isSubtype_stop (K5 (i _ j)))
end
abbrev tH (h:Heap)(a:Addr):Heap:=h.push {cls:=.type "tuple_iterator",data:=.fields #[.ref a,.int 0 0]}
abbrev sf (h:Heap)(a b:Addr):Heap:=(tH h a).push {cls:=.type "tuple_iterator",data:=.fields #[.ref b,.int 0 0]}
abbrev qB (h:Heap)(a b:Addr):Heap:=(sf h a b).push {cls:=.type "tuple",data:=.seq #[.ref h.objs.size,.ref (tH h a).objs.size]}
abbrev sy (h:Heap)(a b:Addr):Heap:=(qB h a b).push {cls:=.type "tuple",data:=.seq #[.none,.none]}
abbrev mX (h:Heap)(a b:Addr):Heap:=(sy h a b).push {cls:=.type "zip",data:=.fields #[.none,.bool false,.bool false,.ref (sf h a b).objs.size,.ref (qB h a b).objs.size]}
def Gn (a b:Addr)(c e:Array Value):Meets (Builtin.«zip.__new__» ⟨[.type "zip",.ref a,.ref b],[]⟩) (λ_ R s=>s.heap.IsTuple a c/\s.heap.IsTuple b e/\R (.ok (.ret (.ref (sy s.heap a b).objs.size))) {s with heap:=mX s.heap a b}):=
 .of_wp λf w A R s h=>by
  obtain ⟨i,g,d,j,os⟩:=s
  obtain ⟨l,m,h⟩:=h
  have k:=sub_zip
  have n:Heap.IsTuple (Shared.heap ⟨i,g,d,j,os⟩) a c:=l
  have o:Heap.IsTuple (Shared.heap ⟨i.push {cls:=.type "tuple_iterator",data:=.fields #[.ref a,.int 0 0]},g,d,j,os⟩) b e:=Heap.IsTuple.push m _
  wp_walk using NC n,NC o
  exact ⟨_,rfl,h⟩
def Hi{s:Shared}{Q:Value->Shared->Prop}(u:s.heap.IsTuple a l)(v:s.heap.IsTuple b m)
  (h:∀d n,n=s.heap.objs.size->IsZip d (n+4) (n+2) (n+3) .none->IsPair d (n+2) (.ref n) (.ref (n+1))->IsPair d (n+3) .none .none->d.IsTupleIter n a 0->d.IsTupleIter (n+1) b 0->(∀c o,s.heap.get? c=some o->d.get? c=some o)->Q (.ref (n+4)) {s with heap:=d}):
  wpAny (model e w) A (call (.type "zip") [.ref a,.ref b]) Q E s:=by
 refine callType_new F.called_zip Z5 (F.typeCall_zip_2 _ _) (F.newCall_zip_2 _ _) (λf=>F.args_object_init_3 f _ _) F.entry_zip_new (Gn a b l m) ⟨u,v,?_⟩
 have g:(tH s.heap a).objs.size=s.heap.objs.size+1:=Md ..
 have i:(sf s.heap a b).objs.size=s.heap.objs.size+2:=by rw [Md,g]
 have j:(qB s.heap a b).objs.size=s.heap.objs.size+3:=by rw [Md,i]
 have zD:(sy s.heap a b).objs.size=s.heap.objs.size+4:=by rw [Md,j]
 have k:(mX s.heap a b).get? (sy s.heap a b).objs.size=some _:=Lc _ rfl
 have p:(mX s.heap a b).get? (qB s.heap a b).objs.size=some _:=KO _ (Lc _ rfl)
 have r:(mX s.heap a b).get? (sf s.heap a b).objs.size=some _:=KO _ (KO _ (Lc _ rfl))
 have t:(mX s.heap a b).get? (tH s.heap a).objs.size=some _:=KO _ (KO _ (KO _ (Lc _ rfl)))
 have x:(mX s.heap a b).get? s.heap.objs.size=some _:=KO _ (KO _ (KO _ (KO _ (Lc _ rfl))))
 show _/\_
 rw [i,j,zD] at k
 rw [g,i] at r
 rw [j] at p
 rw [g] at t
 rw [zD]
 exact ⟨⟨_,k,rfl⟩,h _ _ rfl k r p ⟨_,x,rfl,rfl⟩ ⟨_,t,rfl,rfl⟩ λc o q=>KO _ (KO _ (KO _ (KO _ (KO _ q))))⟩
end PySem
namespace L2
open PySem PySem.Spec PyProof.Rows
section
variable {X:Cx}{pins:List (Addr×Obj)}{σ:St}{H:Hp}{s:Shared}
def Inv.wq{j:List Addr}{p:Heap}(I:Inv X pins σ H s)(t:∀b∈j,ib X pins H b)(y:s.heap.objs.size<=T)(k:∀b u,b∉j->s.heap.get? b=some u->p.get? b=some u)
  (x:bP X.prog X.w (upd H T o) p T o):Inv X pins σ (upd H T o) {s with heap:=p,toks:=t'}:=by
 have h:H T=none:=I.aw.fresh y
 have l:=I.gz y h
 have a:∀b u,H b=some u->b≠T:=λb u e=>de e h
 have i:∀b u,H b=some u->b∉j:=λb u e g=>by have:=(t b g).1;rw [e] at this;cases this
 refine I.step (g':=s.gens) (d':=s.drawn) (ch:=T::j) (λb g=>?_) (λb u _ _ d e _=>k b u (λz=>d (KG _ z)) e) (λb u _ _ d e _=>⟨u.slots,k b u (λz=>d (KG _ z)) e⟩) (λb u d e n=>?_)
  (λb u d e=>⟨u,k b u (λz=>d (KG _ z)) e⟩) (λb A e=>by rw [aC (a b _ e)];exact e) (λb q A e=>by rw [aC (a b _ e)];exact e) (λb L e=>⟨#[],by rw [aC (a b _ e),e];simp⟩) (λm C=>?_) (λb u e=>?_) I.bare
 .rcases KY.mp g with rfl|g
  .exact ⟨l.2.2.2.1,l.2.1,l.2.2.2.2.1,l.2.2.2.2.2⟩
  .have f:=t b g
   exact ⟨f.2.2.2.1,f.2.1,f.2.2.2.2.1,f.2.2.2.2.2⟩
 .rw [aC λz=>d (by rw [z];exact KN)];exact n
 .obtain ⟨B,E,G,J,r⟩:=C
  exact ⟨B,E,G,k _ B (λz=>(t _ z).2.1 rfl) J,r⟩
 .by_cases g:b=T
  .subst g;rw [aK] at e;cases e;exact x
  .rw [aC g] at e
   refine (I.aw b u e).jO (λc v d q=>k c v ?_ q) (λc q=>by rw [aC (a c _ q)];exact q) λc A q=>by rw [aC (a c _ q)];exact q
   rcases d with rfl|d
   .exact i _ _ e
   .exact i _ _ d
def Inv.wA{g:List Addr}{j:Heap}(I:Inv X pins σ H s)(h:∀b∈g,ib X pins H b)(k:∀b u,b∉g->s.heap.get? b=some u->j.get? b=some u):Inv X pins σ H {s with heap:=j,toks:=t'}:=by
 have d:∀b u,H b=some u->b∉g:=λb u e i=>by have:=(h b i).1;rw [e] at this;cases this
 refine I.step (g':=s.gens) (d':=s.drawn) (ch:=g) (λb i=>?_) (λb u _ _ a e _=>k b u a e) (λb u _ _ a e _=>⟨u.slots,k b u a e⟩) (λb u a e n=>n)
  (λb u a e=>⟨u,k b u a e⟩) (λb l e=>e) (λb q l e=>e) (λb y e=>⟨#[],by rw [e];simp⟩) (λm p=>?_) (λb u e=>?_) I.bare
 .have f:=h b i
  exact ⟨f.2.2.2.1,f.2.1,f.2.2.2.2.1,f.2.2.2.2.2⟩
 .obtain ⟨o,t,w,x,r⟩:=p
  exact ⟨o,t,w,k _ o (λz=>(h _ z).2.1 rfl) x,r⟩
 .refine (I.aw b u e).jO (λc v a q=>k c v ?_ q) (λc q=>q) λc l q=>q
  rcases a with rfl|a
  .exact d _ _ e
  .exact d _ _ a
end
def A2 (K:PySem.W.Frag)(a b:Addr):It:=
 ⟨λi H=>∃xs ys x y,bo K H a xs/\bo K H b ys/\xs[i]?=some x/\ys[i]?=some y,
  λi H v H'=>∃T x y,H T=none/\v=.ref T/\H'=upd H T (.tup [x,y])/\∀xs ys,bo K H a xs->bo K H b ys->xs[i]?=some x/\ys[i]?=some y,
  λi H=>∃xs ys,bo K H a xs/\bo K H b ys/\xs.length<=i⟩
def CM (z TI TO i1 i2 a b:Addr)(f0:Value)(i:Nat)(h:Heap):Prop:=IsZip h z TI TO f0/\IsPair h TI (.ref i1) (.ref i2)/\(∃u v,IsPair h TO u v)/\h.IsTupleIter i1 a i/\h.IsTupleIter i2 b i
def Fq {P:Program}{w:World}{K:PySem.W.Frag}{es:List Expr}{kk:Nat}{tp:Pos}{z TI TO i1 i2 a b:Addr}(D:ZipApart z TI TO i1 i2 a b)(D1:TI≠a)(D2:TI≠b):
  iJ P w K (.Tuple es kk tp) (A2 K a b) [z,TI,TO,i1,i2] z (λi h=>CM z TI TO i1 i2 a b .none i h) where
 mem:=by simp
 obj:=λi h ⟨hz,hTI,⟨u,v,hTO⟩,⟨o1,e1,_,d1⟩,⟨o2,e2,_,d2⟩⟩ q hq=>by
  simp only [KY,Lu,LO] at hq
  rcases hq with rfl|rfl|rfl|rfl|rfl
  .exact ⟨_,hz,λv z=>nomatch z⟩
  .exact ⟨_,hTI,λv z=>nomatch z⟩
  .exact ⟨_,hTO,λv z=>nomatch z⟩
  .exact ⟨_,e1,λv z=>by rw [d1] at z;cases z⟩
  .exact ⟨_,e2,λv z=>by rw [d2] at z;cases z⟩
 keep:=λi h h' ⟨hz,hTI,⟨u,v,hTO⟩,⟨o1,e1,r1⟩,⟨o2,e2,r2⟩⟩ k=>⟨k _ Z8 _ hz,k _ Z8 _ hTI,⟨u,v,k _ Z8 _ hTO⟩,⟨o1,k _ Z8 _ e1,r1⟩,⟨o2,k _ Z8 _ e2,r2⟩⟩
 item:=by
  intro X hP hw hK hc i pins s σ H E I hf st hg
  subst hP hw hK
  obtain ⟨xs,ys,x,y,hq1,hq2,hx,hy⟩:=hg
  obtain ⟨its,rv,p1,hz1⟩:=I.tuple hq1
  obtain ⟨its2,rv2,p2,hz2⟩:=I.tuple hq2
  obtain ⟨u,hu,ru⟩:=rv.get hx
  obtain ⟨v,hv,rv'⟩:=rv2.get hy
  obtain ⟨hz,hTI,hTO,h1,h2⟩:=st
  have Z:lj X.prog X.w (λk h=>h.IsTupleIter i1 a k/\h.IsTuple a its.toArray/\a≠i1) (λk h=>h.IsTupleIter i2 b k/\h.IsTuple b its2.toArray/\b≠i2) z TI TO i1 i2 a b .none i s.heap:=⟨hz,hTI,hTO,⟨h1,p1,D.l1i1⟩,⟨h2,p2,D.l2i2⟩⟩
  refine JK uu uu D Z (x:=u) (y:=v) (by simpa using hu) (by simpa using hv) λh' Z' hT kp=>?_
  refine ⟨_,rfl,?_⟩
  refine wpAny_letOwnedTupleGo_zip (s:={s with heap:=h'}) Z'.zip λh2' hz2' sb=>?_
  have hTz:s.heap.objs.size≠z:=M3 (Lf hz)
  have hT2:IsPair h2' s.heap.objs.size u v:=(sb.2 _ hTz).trans hT
  have kp2:∀c o,c∉[z,TI,TO,i1,i2]->s.heap.get? c=some o->h2'.get? c=some o:=λc o hc e=>(sb.2 c λq=>hc (by simp [q])).trans (kp c o (λq=>hc (by simp [q])) (λq=>hc (by simp [q])) (λq=>hc (by simp [q])) (λq=>hc (by simp [q])) e)
  have hTn:H s.heap.objs.size=none:=I.aw.fresh (KR _)
  refine ⟨.ref s.heap.objs.size,upd H s.heap.objs.size (.tup [x,y]),I.wq (t':=s.toks) hf (KR _) kp2 ⟨by show 2<=sizeLine;decide,[u,v],.cons ru (.cons rv' .nil),⟨_,hT2,rfl,_,rfl⟩⟩,rfl,⟨_,x,y,hTn,rfl,rfl,λxs' ys' q1 q2=>?_⟩,?_,λb' hb=>?_⟩
  .rw [I.uP q1 hq1,I.uP q2 hq2];exact ⟨hx,hy⟩
  .obtain ⟨u',v',hTO'⟩:=Z'.out
   have ii1:=Z'.one.1
   have ii2:=Z'.two.1
   exact ⟨hz2',(sb.2 _ D.TIz).trans Z'.ins,⟨u',v',(sb.2 _ D.TOz).trans hTO'⟩,ii1.extBut sb.extBut D.i1z,ii2.extBut sb.extBut D.i2z⟩
  .obtain ⟨ob,e,_⟩:∃ob,s.heap.get? b'=some ob/\True:=by
    simp only [KY,Lu,LO] at hb
    obtain ⟨u',v',hTO'⟩:=hTO
    obtain ⟨o1,e1,_⟩:=h1
    obtain ⟨o2,e2,_⟩:=h2
    rcases hb with rfl|rfl|rfl|rfl|rfl
    .exact ⟨_,hz,trivial⟩
    .exact ⟨_,hTI,trivial⟩
    .exact ⟨_,hTO',trivial⟩
    .exact ⟨_,e1,trivial⟩
    .exact ⟨_,e2,trivial⟩
   rw [aC (Ls (Lf e))]
   exact (hf b' hb).1
 done:=by
  intro X hP hw hK hc i pins s σ H E I hf st hg
  subst hP hw hK
  obtain ⟨xs,ys,hq1,hq2,hx⟩:=hg
  obtain ⟨its,rv,p1,hz1⟩:=I.tuple hq1
  obtain ⟨its2,rv2,p2,hz2⟩:=I.tuple hq2
  obtain ⟨hz,hTI,hTO,h1,h2⟩:=st
  have Z:lj X.prog X.w (λk h=>h.IsTupleIter i1 a k/\h.IsTuple a its.toArray/\a≠i1) (λk h=>h.IsTupleIter i2 b k/\h.IsTuple b its2.toArray/\b≠i2) z TI TO i1 i2 a b .none i s.heap:=⟨hz,hTI,hTO,⟨h1,p1,D.l1i1⟩,⟨h2,p2,D.l2i2⟩⟩
  have hl:=rv.length
  exact Hz (I.ok.hd hc) uu D Z (by simp;omega) λh' kp=>⟨rfl,I.wA (t':=s.toks) hf λc o hcc e=>kp c o (λq=>hcc (by simp [q])) (λq=>hcc (by simp [q])) e⟩
 self:=λA i s Q E st h=>wpAny_pyIter_zip st.1 h
section
variable {X:Cx}
def AM (K:PySem.W.Frag)(t:TA):TI:=λσ H R=>t σ H λvs H1=>∃a b,vs=[.ref a,.ref b]/\(∃xs,bo K H1 a xs)/\(∃ys,bo K H1 b ys)/\R (A2 K a b) H1
def Kx(M:X.mg "zip"=none)(j:PA X [a,b] t)(N:Gl X "zip":=by rfl)(O:starEach [a,b] X.env=[(false,eval a X.env),(false,eval b X.env)]:=by rfl)(f:starEach [b] X.env=[(false,eval b X.env)]:=by rfl):
  PI X (.Tuple G J L) (.Call (.Name "zip" p) [a,b] [] e) (AM X.K t):=by
 intro d s v H R I h
 refine Call_ (ic I N M PyProof.Rows.boot_zip (LR (aQ (j e d s v H _ I h) λus k ⟨vs,w,g,Q,T⟩=>?_) (by rw [O,f]) (by rw [f];rfl)))
 obtain ⟨a,b,rfl,⟨xs,l⟩,⟨ys,m⟩,q⟩:=T
 obtain ⟨u1,u2,rfl,o,r⟩:=a9.two Q
 cases o;cases r
 obtain ⟨U,rv,x,Y⟩:=g.tuple l
 obtain ⟨y,ac,z,af⟩:=g.tuple m
 refine Hi x z λA n u B g2 g3 g4 g5 kp=>?_
 have j:a<n:=by rw [u];exact x.lt
 have C:b<n:=by rw [u];exact z.lt
 have I2:Inv X d v w {k with heap:=A}:=g.kept (t':=k.toks) kp
 have D:ZipApart (n+4) (n+2) (n+3) n (n+1) a b:=zipApart_new j C
 refine wpAny_pyIter_zip (s:={k with heap:=A}) B ?_
 refine ⟨n+4,[n+4,n+2,n+3,n,n+1],_,_,w,rfl,I2,Fq D (M3 (Lw j (LS _ _))) (M3 (Lw C (LS _ _))),⟨B,g2,⟨_,_,g3⟩,g4,g5⟩,λc E=>?_,q⟩
 have i:k.heap.objs.size<=c:=by
  simp only [KY,Lu,LO] at E
  rw [<-u]
  rcases E with rfl|rfl|rfl|rfl|rfl
  .exact LS _ _
  .exact LS _ _
  .exact LS _ _
  .exact KR _
  .exact LS _ _
 exact g.gz i (g.aw.fresh i)
end
end L2
namespace FL
open PySem L2
def lp (xs ys:List D):List D:=List.zipWith (λx y=>.tup [x,y]) xs ys
def GF{g i:List D}{K:PySem.W.Frag}(U:g.length=i.length)(h:dI t G E [.tup g,.tup i]):Walk (AM K t) G E (lp g i):=λM H s l R k=>h M H s l _ λvs Y s1 rs=>by
 obtain ⟨v1,v2,rfl,r1,r2⟩:=lI rs
 obtain ⟨a,m,rfl,r,I⟩:=r1.e9
 obtain ⟨b,n,rfl,z,h4⟩:=r2.e9
 refine ⟨a,b,rfl,⟨m,bo.of (ax r).2⟩,⟨n,bo.of (ax z).2⟩,k _ Y s1 (λj d M' H' c f A=>?_) (λM' H' f=>?_)⟩
 .have o:=(ax (f _ _ r)).2
  have p:=(ax (f _ _ z)).2
  unfold lp at c
  rw [NW] at c
  cases q:g[j]? with
  |none=>rw [q] at c;cases c
  |some x=>
   cases B:i[j]? with
   |none=>rw [q,B] at c;cases c
   |some y=>
    rw [q,B] at c
    cases c
    obtain ⟨u,J,ru⟩:=I.get q
    obtain ⟨w,L,C⟩:=h4.get B
    refine ⟨⟨m,n,u,w,bo.of o,bo.of p,J,L⟩,λv ac ⟨T,x',y',N,e,eH,hy⟩=>?_⟩
    obtain ⟨O,Q⟩:=hy m n (bo.of o) (bo.of p)
    rw [J] at O;rw [L] at Q
    cases O;cases Q
    subst e eH
    refine ⟨cG N _,?_⟩
    exact ou A N (.cons (ru.mono f) (.cons (C.mono f) .nil))
 .have o:=(ax (f _ _ r)).2
  have p:=(ax (f _ _ z)).2
  refine ⟨m,n,bo.of o,bo.of p,?_⟩
  rw [I.length]
  simp [lp,U]
end FL
namespace L2
open PySem PySem.Spec PyProof.Rows
def yo (K:PySem.W.Frag)(a:Addr):It:=
 ⟨λi H=>∃xs x,aO K H a xs/\xs[i]?=some x,
  λi H v H'=>∃T x,H T=none/\v=.ref T/\H'=upd H T (.tup [.int i,x])/\∀xs,aO K H a xs->xs[i]?=some x,
  λi H=>∃xs,aO K H a xs/\xs.length<=i⟩
def Kz {P:Program}{w:World}{K:PySem.W.Frag}{es:List Expr}{kk:Nat}{tp:Pos}{e it a:Addr}(hne:e≠it):
  iJ P w K (.Tuple es kk tp) (yo K a) [e,it] e (λi h=>(∃old,IsEnum h e it ((i:Nat):Int) old)/\h.IsListIter it a i) where
 mem:=by simp
 obj:=λi h ⟨⟨old,he⟩,⟨o1,e1,_,d1⟩⟩ q hq=>by
  simp only [KY,Lu,LO] at hq
  rcases hq with rfl|rfl
  .exact ⟨_,he,λv z=>nomatch z⟩
  .exact ⟨_,e1,λv z=>by rw [d1] at z;cases z⟩
 keep:=λi h h' ⟨⟨old,he⟩,⟨o1,e1,r1⟩⟩ k=>⟨⟨old,k _ Z8 _ he⟩,⟨o1,k _ Z8 _ e1,r1⟩⟩
 item:=by
  intro X hP hw hK hc i pins s σ H E I hf st hg
  subst hP hw hK
  obtain ⟨xs,x,hq,hx⟩:=hg
  obtain ⟨its,rv,p,hz⟩:=I.list hq
  obtain ⟨u,hu,ru⟩:=rv.get hx
  obtain ⟨⟨old,he⟩,hit⟩:=st
  refine wpAny_pyNext_enum_item he hit p.isList (x:=u) (by simpa using hu) hne λh' heo hit' hT hzz kp=>?_
  refine ⟨_,rfl,?_⟩
  refine Oy (s:={s with heap:=h',toks:=s.toks+1}) heo λh2' he2 sb=>?_
  have hTe:s.heap.objs.size≠e:=M3 (Lf he)
  have hT2:h2'.get? s.heap.objs.size=some {cls:=.type "tuple",data:=.seq #[.int i s.toks,u]}:=(sb.2 _ hTe).trans hT
  have kp2:∀c o,c∉[e,it]->s.heap.get? c=some o->h2'.get? c=some o:=λc o hc e'=>(sb.2 c λq=>hc (by simp [q])).trans (kp c o (λq=>hc (by simp [q])) (λq=>hc (by simp [q])) e')
  have hTn:H s.heap.objs.size=none:=I.aw.fresh (KR _)
  refine ⟨.ref s.heap.objs.size,upd H s.heap.objs.size (.tup [.int i,x]),I.wq (t':=s.toks+1) hf (KR _) kp2 ⟨by show 2<=sizeLine;decide,[.int i s.toks,u],.cons ⟨_,rfl⟩ (.cons ru .nil),⟨_,hT2,rfl,_,rfl⟩⟩,rfl,⟨_,x,hTn,rfl,rfl,λys hy=>by rw [I.sO hy hq];exact hx⟩,⟨⟨u,he2⟩,hit'.extBut sb.extBut (LN hne)⟩,λb' hb=>?_⟩
  obtain ⟨ob,e',_⟩:∃ob,s.heap.get? b'=some ob/\True:=by
   simp only [KY,Lu,LO] at hb
   obtain ⟨o1,e1,_⟩:=hit
   rcases hb with rfl|rfl
   .exact ⟨_,he,trivial⟩
   .exact ⟨_,e1,trivial⟩
  rw [aC (Ls (Lf e'))]
  exact (hf b' hb).1
 done:=by
  intro X hP hw hK hc i pins s σ H E I hf st hg
  subst hP hw hK
  obtain ⟨xs,hq,hx⟩:=hg
  obtain ⟨its,rv,p,hz⟩:=I.list hq
  obtain ⟨⟨old,he⟩,hit⟩:=st
  have hl:=rv.length
  exact wpAny_pyNext_enum_end (I.ok.hd hc) he hit p.isList (by simp;omega) λh' eb=>⟨rfl,I.wA (t':=s.toks) hf λc o hcc e=>eb c o (λq=>hcc (by simp [q])) e⟩
 self:=λA i s Q E st h=>let ⟨⟨_,he⟩,_⟩:=st;NO he h
def BF (K:PySem.W.Frag)(a:Addr)(n:Nat):It:=
 ⟨λi H=>i<n/\∃xs x,aO K H a xs/\xs.length=n/\xs[n-1-i]?=some x,λi H x H'=>H'=H/\∀xs,aO K H a xs->xs[n-1-i]?=some x,λi H=>n<=i⟩
def Kq {P:Program}{w:World}{K:PySem.W.Frag}{tg:Expr}(a it:Addr)(n:Nat):iJ P w K tg (BF K a n) [it] it (λi h=>i<=n/\h.IsRevIter it a ((n:Int)-1-(i:Int))) where
 mem:=by simp
 obj:=λi h st b hb=>by
  have e:b=it:=by simpa using hb
  subst e
  obtain ⟨_,o,e,c,d⟩:=st
  exact ⟨o,e,λv z=>by rw [d] at z;cases z⟩
 keep:=λi h h' st k=>⟨st.1,st.2.at λo e=>k it Z8 o e⟩
 item:=by
  intro X hP hw hK hc i pins s σ H E I hf st hg
  subst hP hw hK
  obtain ⟨hin,xs,x,hq,hn,hx⟩:=hg
  obtain ⟨its,rv,p,hz⟩:=I.list hq
  obtain ⟨u,hu,ru⟩:=rv.get hx
  obtain ⟨f0,f1,f2,f3,f4,f5⟩:=hf it Z8
  have e1:(n:Int)-1-(i:Int)=((n-1-i:Nat):Int):=by omega
  have hit:=st.2
  rw [e1] at hit
  refine wpAny_pyNext_rev_item hit p.isList (x:=u) (by simpa using hu) λh' st' sb=>?_
  have I1:Inv X pins σ H {s with heap:=h'}:=I.turned (t':=s.toks) (λb o hb e=>(sb.2 b hb).trans e) f0 f1 f3 f4 f5
  have e2:((n-1-i:Nat):Int)-1=(n:Int)-1-((i+1:Nat):Int):=by omega
  rw [e2] at st'
  obtain ⟨o,e,c,d⟩:=id st'
  exact ⟨u,rfl,m5 (s:={s with heap:=h'}) e c d Z5 ⟨x,H,I1,ru,⟨rfl,λys hy=>by rw [I.sO hy hq];exact hx⟩,⟨hin,st'⟩,λb hb=>(hf b hb).1⟩⟩
 done:=by
  intro X hP hw hK hc i pins s σ H E I hf st hg
  subst hP hw hK
  obtain ⟨f0,f1,f2,f3,f4,f5⟩:=hf it Z8
  have hg:n<=i:=hg
  have e:(n:Int)-1-(i:Int)=-1:=by have:=st.1;omega
  have hit:=st.2
  rw [e] at hit
  exact wpAny_pyNext_rev_end (I.ok.hd hc) hit λh' eb=>⟨rfl,I.turned (t':=s.toks) (λb o hb e=>eb b o hb e) f0 f1 f3 f4 f5⟩
 self:=λ_ _ _ _ _ st h=>wpAny_pyIter_revIter st.2 h
section
variable {X:Cx}
def yQ (K:PySem.W.Frag)(t:TA):TI:=λσ H R=>t σ H λvs H1=>∃a,vs=[.ref a]/\(∃xs,aO K H1 a xs)/\R (yo K a) H1
def Cd{a:Expr}(w:X.mg "enumerate"=none)(x:PA X [a] t)(y:Gl X "enumerate":=by rfl)(z:starEach [a] X.env=[(false,eval a X.env)]:=by rfl)(f:starEach [] X.env=[]:=by rfl):
  PI X (.Tuple r u v) (.Call (.Name "enumerate" p) [a] [] e) (yQ X.K t):=by
 intro b s k H R I h
 refine Call_ (ic I y w Op (LR (aQ (x e b s k H _ I h) λO d ⟨Q,l,i,A,B⟩=>?_) (by rw [z,f]) (by rw [f];rfl)))
 obtain ⟨a,rfl,⟨T,C⟩,q⟩:=B
 obtain ⟨U,rfl,j⟩:=a9.one A
 cases j
 obtain ⟨E,Y,G,J⟩:=i.list C
 refine call_enumerate_list G.isList λm n L hz M=>?_
 have N:Inv X b k l {d with heap:=m}:=i.kept (t':=d.toks) M
 refine NO (s:={d with heap:=m}) n ?_
 refine ⟨d.heap.objs.size+1,[d.heap.objs.size+1,d.heap.objs.size],_,_,l,rfl,N,Kz (Nat.succ_ne_self _),⟨⟨_,n⟩,L⟩,λc o=>?_,q⟩
 have g:d.heap.objs.size<=c:=by
  simp only [KY,Lu,LO] at o
  rcases o with rfl|rfl
  .exact LS _ _
  .exact KR _
 exact i.gz g (i.aw.fresh g)
def BE (K:PySem.W.Frag)(t:TA):TI:=λσ H R=>t σ H λvs H1=>∃a xs,vs=[.ref a]/\aO K H1 a xs/\R (BF K a xs.length) H1
def Dz{a:Expr}(v:X.mg "reversed"=none)(w:PA X [a] t)(x:Gl X "reversed":=by rfl)(y:starEach [a] X.env=[(false,eval a X.env)]:=by rfl)(j:starEach [] X.env=[]:=by rfl):
  PI X u (.Call (.Name "reversed" p) [a] [] i) (BE X.K t):=by
 intro f s n H R I h
 refine Call_ (ic I x v PyProof.Rows.boot_reversed (LR (aQ (w i f s n H _ I h) λM c ⟨N,r,k,z,A⟩=>?_) (by rw [y,j]) (by rw [j];rfl)))
 obtain ⟨a,l,rfl,B,q⟩:=A
 obtain ⟨O,rfl,m⟩:=a9.one z
 cases m
 obtain ⟨d,C,E,G⟩:=k.list B
 have Q:=C.length
 refine call_reversed_list E.isList ?_
 have J:Inv X f n r {c with heap:=c.heap.push (revObj a ((d.toArray.size:Int)-1))}:=k.kept (t':=c.toks) λb o e=>KO _ e
 have g:(c.heap.push (revObj a ((d.toArray.size:Int)-1))).IsRevIter c.heap.objs.size a ((l.length:Int)-1-((0:Nat):Int)):=by
  refine ⟨_,Lc _ rfl,rfl,?_⟩
  have:((d.toArray.size:Nat):Int)-1=(l.length:Int)-1-((0:Nat):Int):=by simp;omega
  rw [<-this]
  rfl
 refine wpAny_pyIter_revIter (s:={c with heap:=c.heap.push (revObj a ((d.toArray.size:Int)-1))}) g ?_
 refine ⟨c.heap.objs.size,[c.heap.objs.size],_,_,r,rfl,J,Kq a _ l.length,⟨Ll _,g⟩,λb L=>?_,q⟩
 have e:b=c.heap.objs.size:=by simpa using L
 subst e
 exact k.gz (KR _) (k.aw.fresh (KR _))
end
end L2
namespace FL
open PySem L2
def F6{K:PySem.W.Frag}(h:dI t G n [.lst e]):Walk (BE K t) G n e.reverse:=λM H s l R k=>h M H s l _ λN w x y=>by
 obtain ⟨O,rfl,z⟩:=jw y
 obtain ⟨a,c,rfl,o,f⟩:=z.eA
 refine ⟨a,c,rfl,aO.of (ax o).2,k _ w x (λj d A B g i C=>?_) (λA B i=>?_)⟩
 .have p:=(ax (i _ _ o)).2
  have b:=f.length
  have m:j<e.length:=by have:=(KJ.mp g).1;simpa using this
  rw [List.getElem?_reverse m,<-b] at g
  obtain ⟨u,q,E⟩:=f.get g
  refine ⟨⟨by omega,c,u,aO.of p,rfl,q⟩,λv I ⟨J,L⟩=>?_⟩
  have r:=L c (aO.of p)
  rw [q] at r
  cases r
  subst J
  exact ⟨ab.refl _,E.mono i⟩
 .show c.length<=_
  rw [f.length,Oj]
  exact KR _
end FL
namespace PySem
section
variable {prog:Program}{w:World}{K:Type} [DecidableEq K] {knd:HeapKind prog w K}{A:Around}{E:Value->Shared->Prop}{s:Shared}
def ED{dflt:Value}{Q:Value->Shared->Prop}(u:knd.room A)(c:knd.is s.heap k a)(C:s.heap.DictOfH knd d h)
  (G:∀v,(atKey h k).map (·.2)=some v->Q v {s with toks:=s.toks+knd.draws k})
  (H:(atKey h k).map (·.2)=none->∀r,r.DictOfH knd d (storedH h k a dflt)->Heap.SameBut d s.heap r->Q dflt {s with heap:=r,toks:=s.toks+knd.draws k})
  (hsz:h.length<=sizeLine:=by size_fits):wpAny (model prog w) A (dictSetDefault d (.ref a) dflt) Q E s:=by
 obtain ⟨o,L,I,i,J,g,q,l,t⟩:=C
 unfold dictSetDefault
 try with_reducible refine Mp ?_
 refine KI (knd.pyHash u c ?_)
 refine KI (wpAny_dictFind_heap (s:={s with toks:=s.toks+knd.draws k}) u c i g q l t ?_ ?_)
 .intro m
  have n:k∉h.map (·.1):=not_mem_keys_of_get m
  have b:=atKey_none_of_get m
  refine KI (NF (KI (wpAny_updateDictKeys (hz:=by have e:=size_of_entries q;omega) (s:={s with toks:=s.toks+knd.draws k}) i g (K5 (H (by rw [b];rfl) _ ⟨_,_,I+1,Nf _ i (Obj.isFreed_of_dict (Obj.data_mapDictKeys g _)),
   J.mapDictKeys _,Obj.data_mapDictKeys g _,?_,?_,?_⟩ (MV ..))))))
  .rw [storedH_new b]
   simp [q,entryOfKey]
  .rw [storedH_new b]
   intro x f
   rcases Ld.mp f with f|f
   .exact knd.keeps (l x f) i g (MV ..)
   .simp only [Li] at f
    subst f
    exact knd.keeps c i g (MV ..)
  .rw [storedH_new b]
   rw [Lq,Nr]
   refine ⟨t,by simp,?_⟩
   intro x f y z
   simp only [LB,Nq,Li] at z
   subst z
   exact λe=>n (e▸f)
 .intro j p B
  refine KI (wpAny_dictEntries (s:={s with toks:=s.toks+knd.draws k}) i g ?_)
  rw [entry_at q j,B]
  exact KI (NF (K5 (G _ (by rw [atKey_of_get t B];rfl))))
def zK (knd:HeapKind prog w K)(d a:Addr)(i:(d==sysModules)=false)(dflt:Value):
  MeetsIn prog w (Builtin.«dict.setdefault» ⟨[.ref d,.ref a,dflt],[]⟩) (λA R s=>knd.room A.in1/\∃k b,knd.is s.heap k a/\s.heap.DictOfH knd d b/\b.length<=sizeLine/\
   (∀v,(atKey b k).map (·.2)=some v->R (.ok (.ret v)) {s with toks:=s.toks+knd.draws k})/\
   ((atKey b k).map (·.2)=none->∀c,c.DictOfH knd d (storedH b k a dflt)->Heap.SameBut d s.heap c->R (.ok (.ret dflt)) {s with heap:=c,toks:=s.toks+knd.draws k})):=
 .of_wp λA R s ⟨j,k,b,e,h,l,m,n⟩=>by
  unfold Builtin.«dict.setdefault»
  refine KI ?_
  unfold Builtin.Dict.keyAndDefault
  refine KI (wpAny_notOrdered_dict h.typeIs ?_)
  show wpAny _ _ (pure (d,Value.ref a,some dflt)) _ _ s
  refine K5 ?_
  show wpAny _ _ (if (d==sysModules)=true then _ else (dictSetDefault d (.ref a) dflt>>=_)) _ _ s
  rw [KS (by rw [i];exact K0)]
  exact KI (ED (hsz:=l) j e h (λv o=>K5 ⟨v,rfl,m v o⟩) λp c f g=>K5 ⟨dflt,rfl,n p c f g⟩)
end
end PySem
namespace L2
open PySem PySem.Spec PyProof.Rows
def x6 (H:Hp)(a:Addr)(y z r:V)(H':Hp):Prop:=(cN H a y (some r)/\H'=H/\∃o,H a=some o)\/(cN H a y none/\r=z/\f6 H a y z H')
section
variable {X:Cx}{pins:List (Addr×Obj)}{σ:St}{H:Hp}{s:Shared}{a:Addr}{y z v:V}{u r:Value}{A:Around}{E:Value->Shared->Prop}
def CC{Q:Value->Shared->Prop}(hu:A.units+1<cLine)(I:Inv X pins σ H s)(g:x6 H a y z v H')(ry:RelV y u)(rz:RelV z r)(h:∀w' s',Inv X pins σ H' s'->RelV v w'->Q w' s'):
  wpAny (model X.prog X.w) A (call (.builtin "dict.setdefault") [.ref a,u,r]) Q E s:=by
 rcases g with ⟨g,rfl,ho⟩|⟨g,rfl,p⟩
 .rcases g with ⟨f,k,e,J,l⟩|⟨f,k,b,e,J,T,l⟩
  .subst J
   obtain ⟨L,x,U,bD,m⟩:=hJ I.aw e
   obtain ⟨w',Y,M⟩:=eE.some_of (v:=v) (o:=valueAt U k) (by rw [l];exact bD.val k)
   refine M5 Mf m.typeIs Mr (Mo _ _ _) (kt_meets_setdefault (dq X.prog X.w) a (j8 ry) x r) ⟨U,m,by rw [<-bD.length];exact L,λv' d=>?_,λB=>by rw [Y] at B;cases B⟩
   rw [Y] at d
   cases d
   exact h _ _ (I.tok _) M
  .subst J
   cases (show u=Value.ref b from ry)
   obtain ⟨L,x,O,bD,m⟩:=ju I.aw e
   obtain ⟨w',Y,M⟩:=eE.some_of (v:=v) (o:=(atKey O k).map (·.2)) (by rw [l];exact bD.val k)
   refine M5 Mf m.typeIs Mr (Mo _ _ _) (zK (tupleKind (dq X.prog X.w)) a b x r) ⟨Mn hu,k,O,kl I.aw T,m,by rw [<-MC bD];exact L,λv' d=>?_,λB=>by rw [Y] at B;cases B⟩
   rw [Y] at d
   cases d
   exact h _ _ (I.tok _) M
 .rcases p with ⟨f,k,e,J,l,eH⟩|⟨f,k,b,e,J,T,l,eH⟩
  .subst J eH
   obtain ⟨L,x,U,bD,m⟩:=AY I.aw e
   have hg:bn f k=none:=by
    rcases g with ⟨n,C,i,j,l'⟩|⟨n,C,b',i,j,N,l'⟩
    .have e1:kV k=kV C:=j
     have:k=C:=by
      cases k<;>cases C<;>simp [kV] at e1<;>rw [e1]
     subst this
     rcases i with i|i
     .rw [e] at i;cases i;exact l'.symm
     .rw [e] at i;simp at i
    .cases k<;>cases j
   have B:valueAt U k=none:=eE.none_of (by rw [<-hg];exact bD.val k)
   have hl:(bX f k v).length<=sizeLine:=by have:=mx f k v;omega
   refine M5 Mf m.typeIs Mr (Mo _ _ _) (kt_meets_setdefault (dq X.prog X.w) a (j8 ry) x r) ⟨U,m,by rw [<-bD.length];exact L,λv' d=>(by rw [B] at d;cases d),λ_ h' G hs=>h _ _ ?_ rz⟩
   have he:∃q,h'.get? a=some q:=let ⟨q,_,_,hq,_⟩:=G;⟨q,hq⟩
   exact sw I (by rw [e];exact True.intro) hs he (tG hl x (bD.put k rz) G)
  .subst J eH
   cases (show u=Value.ref b from ry)
   obtain ⟨L,x,O,bD,m⟩:=yp I.aw e
   have hg:bn f k=none:=by
    rcases g with ⟨n,C,i,j,l'⟩|⟨n,C,b',i,j,N,l'⟩
    .cases C<;>cases j
    .cases j
     rw [T] at N
     have e1:k.map kV=C.map kV:=by injection N with e2;injection e2
     have ac:∀(p q:List aG),p.map kV=q.map kV->p=q:=by
      intro p
      induction p with
      |nil=>intro q h;cases q<;>first|rfl|cases h
      |cons c t ih=>
       intro q h
       cases q with
       |nil=>cases h
       |cons c' t'=>
        obtain ⟨h1,h2⟩:=N3 h
        have:c=c':=by cases c<;>cases c'<;>simp [kV] at h1<;>rw [h1]
        rw [this,ih t' h2]
     have:k=C:=ac _ _ e1
     subst this
     rcases i with i|i
     .rw [e] at i;cases i;exact l'.symm
     .rw [e] at i;simp at i
   have B:(atKey O k).map (·.2)=none:=eE.none_of (by rw [<-hg];exact bD.val k)
   have hz:O.length<=sizeLine:=by rw [<-MC bD];exact L
   have hl:(bX f k v).length<=sizeLine:=by have:=mx f k v;omega
   refine M5 Mf m.typeIs Mr (Mo _ _ _) (zK (tupleKind (dq X.prog X.w)) a b x r) ⟨Mn hu,k,O,kl I.aw T,m,hz,λv' d=>(by rw [B] at d;cases d),λ_ h' G hs=>h _ _ ?_ rz⟩
   obtain ⟨q,es,ep,hq,h2,h3,h4,_,h5⟩:=G
   refine sw I (by rw [e];exact True.intro) hs ⟨q,hq⟩ ⟨hl,x,_,(bD.put k T rz).keeps λc ys ec=>?_,q,es,ep,hq,h2,h3,h4,h5⟩
   rw [aC (xv ec e (λz=>nomatch z))]
   exact ec
end
def uA (td ty tx:TE):TE:=λσ H Q=>td σ H λx H1=>∃a,x=.ref a/\qK H1 a/\ty σ H1 λy H2=>tx σ H2 λz H3=>∃r H4,x6 H3 a y z r H4/\Q r H4
def xE{X:Cx}(t:X.A.units+1<cLine)(v:PE X o l)(w:PE X e n)(B:PE X f p)(m:M2 X o "setdefault" c e f i):PE X (.Call (.Attribute o "setdefault" c) [e,f] [] i) (uA l n p):=by
 intro b s j H Q I h
 refine wpAny_Call_method m.base m.fc m.line NJ Mf PySem.F.type_dict_setdefault (aQ (v b s j H _ I h) λu C ⟨x,E,q,G,a,J,d,L⟩=>?_)
 subst J
 obtain rfl:u=Value.ref a:=G
 obtain ⟨M,N,_⟩:=uM q d
 refine ⟨M,N,?_⟩
 rw [m.trees]
 refine Mz rfl (N6 (M4 (aQ (w b C j E _ q L) λiv O ⟨y,T,U,Y,q2⟩=>
  M4 (aQ (B b O j T _ U q2) λfv s3 ⟨z,H3,I3,rz,r,H4,g,q3⟩=>OH ?_))))
 exact CC t I3 g Y rz λw' s4 I4 k=>⟨r,H4,I4,k,q3⟩
end L2
namespace FL
open PySem L2
def bJ (R:List D->D->Prop):Sp:=λvs H Q _=>∃M ds d,au M H/\aD (but H M) vs ds/\R ds d/\∀v H',ab H H'->al (but H' M) v d->Q v H'
def cb{R:List D->D->Prop}(c:R ds d)(h:dI t G a ds):ae (iH (bJ R) [] E t) G a d:=
 λM H s l Q k=>h M H s l _ λj m b e=>⟨M,ds,d,l.same b,by rw [LA];exact e,c,λv f g i=>k v f (b.trans g) i⟩
def fg{R:List D->D->Prop}(c:∀a d,R a d->a.length=n):∀b H Q E,bJ R b H Q E->b.length=n:=λb H Q E ⟨M,a,d,l,r,e,k⟩=>by rw [r.length];exact c a d e
def ge:c7 (h::r) 0=some h:=jI Z5 rfl
def fX (d:D):Bool:=yb d&& !vL d
def AS (d:D):Bool:=sK d||fX d
def rE:List D->D->Prop:=λds d=>∃l k,ds=[.lst l,.int k]/\0<=k/\d=lK l k
def oY:List D->D->Prop:=λds d=>∃x,ds=[x]/\d=.bl (fX x)
def lE (ns:List Int):List Int:=(List.range ns.length).map λ(k:Nat)=>(ns.getD k 0+7919*(k:Int))*48271%1000003
def AU:List D->D->Prop:=λds d=>∃ns:List Int,ds=[.lst (ns.map D.int)]/\ns.length<=63/\d=.lst ((lE ns).map D.int)
def Hh (a:List Int):(lE a).length=a.length:=by simp [lE]
def lW (a:List Int)(k:Nat):rE [.lst (a.map D.int),.int (k:Int)] (.int (a.getD k 0)):=⟨_,_,rfl,by omega,(Gb a k).symm⟩
def HJ {d:D}(h:d.sc=true):AS d=true:=by
 cases d with
 |int i=>rfl
 |str i=>rfl
 |_=>exact absurd h (by simp [D.sc])
def fb{l:List D}(x:Int)(c:0<n)(e:l.length=n):∃d,c7 l (x%(n:Int))=some d/\d∈l/\d=l.getD (x%(n:Int)).toNat .av:=by
 have b:=Pd x (show (n:Int)≠0 by omega)
 have f:=Int.emod_lt_of_pos x (show (0:Int)<n by omega)
 have a:(x%(n:Int)).toNat<l.length:=by omega
 refine ⟨l[(x%(n:Int)).toNat],jI b (KL a),Mm a,?_⟩
 simp [List.getD,KL a]
section
variable {σ:St}{δ:Dn}{d:D}{M:List Addr}{H:Hp}{ta te:TE}{t:TA}{E:Ends}{ds:List D}{K:PySem.W.Frag}
def fY(l:au M H)(c:aA (but H M) σ δ)(h:ae ta (but H M) σ d)(k:∀a b,(∀j:Nat,j≠i->a[j]?=σ[j]?)->ab H b->au M b->aA (but b M) a (δ.set i (some d))->E.nx a b):dW ta (ci i) E σ H:=
 h.at l λv b s r=>k _ b (λj e=>KQ (LN e)) s (l.same s) ((c.same s).set i r)
def oU(l:au M H)(r:aA (but H M) σ δ)(B:i<δ.length)(h:dI t (but H M) σ ds)(x:ds.length<=sizeLine)
  (k:∀p g c f,(∀j:Nat,j≠i->c[j]?=σ[j]?)->c[i]?=some (some (.ref p))->p∉M->f p=some (.lst g)->aD (but f (p::M)) g ds->au (p::M) f->(∀b o,H b=some o->b≠p/\f b=some o)->aA (but f (p::M)) c (δ.set i none)->E.nx c f):dW (jt t) (ci i) E σ H:=
 h M H (ab.refl _) l _ λg y m s=>⟨by rw [s.length];exact x,λp n=>by
  have C:=r.len
  refine k p g _ _ (λj z=>KQ (LN z)) (K6 Z6) ((l.same m).fresh n) aK (qv n s) ((l.same m).upd.cons aK) (λb o e=>?_) ?_
  .have u:=m b o e
   have w:b≠p:=de u n
   exact ⟨w,by rw [aC w];exact u⟩
  .have A:aA (but (upd y p (.lst g)) (p::M)) σ δ:=⟨r.len,λj d q=>let ⟨v,a,b⟩:=(r.same m).get j d q;⟨v,a,qr n b⟩⟩
   exact A.off i _⟩
def Kh{k:Nat}(l:au M H)(m:aA (but H M) σ δ)(z:i<δ.length)(e:σ[k]?=some (some (.ref a)))(u:H a=some (.lst f))(r:aD (but H M) f ds)
  (q:∀p c g,(∀j:Nat,j≠i->c[j]?=σ[j]?)->c[i]?=some (some (.ref p))->p∉M->g p=some (.lst f)->aD (but g (p::M)) f ds->au (p::M) g->(∀b o,H b=some o->b≠p/\g b=some o)->aA (but g (p::M)) c (δ.set i none)->E.nx c g):
  dW (cH (λw H Q=>∃p n,w=[.ref p]/\(aO K H p n\/bo K H p n)/\∀l,H l=none->Q (.ref l) (upd H l (.lst n))) (bb (aR k) bv)) (ci i) E σ H:=
 ⟨.ref a,e,a,f,rfl,.inl (aO.of u),λp h=>by
  have A:=m.len
  refine q p _ _ (λj x=>KQ (LN x)) (K6 Z6) (l.fresh h) aK (qv h r) (l.upd.cons aK) (λb o e=>?_) ?_
  .have s:b≠p:=de e h
   exact ⟨s,by rw [aC s];exact e⟩
  .have y:aA (but (upd H p (.lst f)) (p::M)) σ δ:=⟨m.len,λj d q=>let ⟨v,a,b⟩:=m.get j d q;⟨v,a,qr h b⟩⟩
   exact y.off i _⟩
def wG{i:Nat}(l:au M H)(m:aA (but H M) σ δ)(g:a∈M)(e:σ[i]?=some (some (.ref a)))(n:H a=some (.lst f))(r:aD (but H M) f ds)(p:ds.length<sizeLine)(h:ae te (but H M) σ d)
  (k:∀v c,(∀b o,b≠a->H b=some o->c b=some o)->au M c->c a=some (.lst (f++[v]))->aD (but c M) (f++[v]) (ds++[d])->aA (but c M) σ δ->E.nx σ c):lw (lJ K "list" nK (aR i) (bb te bv)) E σ H:=
 EH l e n (by rw [r.length];exact p) h λv c s u=>by
  have j:but (upd c a (.lst (f++[v]))) M=but c M:=dH g
  refine k v _ (λb o w q=>by rw [aC w];exact s b o q) (l.same s).upd aK ?_ ?_
  .rw [j];exact (r.mono (s.but M)).snoc u
  .rw [j];exact m.same s
def nD{H c:Hp}{M:List Addr}(g:a∈M)(k:∀b o,b≠a->H b=some o->c b=some o):ab (but H M) (but c M):=λb o e=>by
 obtain ⟨f,h⟩:=ax e
 rw [bh f]
 exact k b o (λz=>f (by rw [z];exact g)) h
def nH{Q:St->Hp->Prop}(g:al (but H M) x (.tup [e,f]))(k:∀c b,al (but H M) c e->al (but H M) b f->Q ((σ.set i (some c)).set j (some b)) H):mY K 2 (jJ (ci i) (jJ (ci j) ph)) x σ H Q:=by
 obtain ⟨a,o,rfl,h,l⟩:=g.e9
 obtain ⟨c,b,rfl,m,n⟩:=lI l
 exact ⟨a,_,rfl,bo.of (ax h).2,rfl,c,[b],rfl,b,[],rfl,rfl,k c b m n⟩
end
def D.toV:D->V
 |.int i=>.int i
 |.str x=>.str x
 |.bl b=>.bl b
 |_=>.av
def D.key:D->aG
 |.int i=>.inl i
 |.str x=>.inr x
 |_=>.inl 0
def B1{d:D}(h:d.sc=true):al H d.toV d:=by
 cases d with
 |int i=>exact .int i
 |str x=>exact .str x
 |_=>exact absurd h (by simp [D.sc])
def fQ{d:D}(h:d.sc=true)(r:al H v d):v=d.toV/\v=kV d.key:=by
 cases r with
 |int i=>exact ⟨rfl,rfl⟩
 |str x=>exact ⟨rfl,rfl⟩
 |_=>exact absurd h (by simp [D.sc])
def ve {a b:D}(d:a.sc=true)(c:b.sc=true):a.key=b.key↔a=b:=by
 cases a with
 |int i=>cases b<;>first|(exfalso;simp [D.sc] at c;done)|simp [D.key]
 |str i=>cases b<;>first|(exfalso;simp [D.sc] at c;done)|simp [D.key]
 |_=>exact absurd d (by simp [D.sc])
def wK (j:aG):∀(b a:List (aG×V)),bn (bT a b) j=b.foldl (λo p=>if j=p.1 then some p.2 else o) (bn a j)
 |[],a=>rfl
 |p::r,a=>by
  show bn (bT (bX a p.1 p.2) r) j=_
  rw [wK j r,wU]
  rfl
abbrev aP:=List (Str×D)
def pairD (ps:aP):List D:=ps.map λp=>.tup [.str p.1,p.2]
def bA (ps:aP):List (aG×V):=ps.map λp=>(Sum.inr p.1,p.2.toV)
def bY (ps:aP)(x:D):D:=ps.foldl (λacc p=>if D.str p.1=x then p.2 else acc) x
def sY{K:PySem.W.Frag}:∀{b:aP} {c:List V},(∀p∈b,p.2.sc=true)->aD (but H M) c (pairD b)->Pairs K H c (bA b)
 |[],_,_,.nil=>.nil
 |p::r,_,d,.cons (v:=v) h t=>by
  obtain ⟨a,m,rfl,e,f⟩:=h.e9
  obtain ⟨n,o,rfl,g,i⟩:=lI f
  refine .cons ⟨a,rfl,?_⟩ (sY (λq j=>d q (KG _ j)) t)
  have k:=(fQ (d p KN) i).1
  have l:=g.ro
  subst l k
  exact bo.of (ax e).2
def t9 (x:D)(f:x.sc=true):∀(d:aP) (o:Option V) (c:D),(∀p∈d,p.2.sc=true)->o.getD x.toV=c.toV->c.sc=true->
  (((bA d).foldl (λo p=>if x.key=p.1 then some p.2 else o) o).getD x.toV=(d.foldl (λc p=>if D.str p.1=x then p.2 else c) c).toV/\(d.foldl (λc p=>if D.str p.1=x then p.2 else c) c).sc=true)
 |[],o,c,_,h,g=>⟨h,g⟩
 |p::r,o,c,j,h,g=>by
  have k:∀q∈r,q.2.sc=true:=λq l=>j q (KG _ l)
  show ((bA r).foldl _ (if x.key=Sum.inr p.1 then some p.2.toV else o)).getD x.toV=(r.foldl _ (if D.str p.1=x then p.2 else c)).toV/\_
  by_cases e:D.str p.1=x
  .have i:x.key=Sum.inr p.1:=by rw [<-e];rfl
   rw [K4 e,K4 i]
   have:=t9 x f r (some p.2.toV) p.2 k rfl (j p KN)
   refine ⟨this.1,?_⟩
   show (r.foldl _ (if D.str p.1=x then p.2 else c)).sc=true
   rw [K4 e];exact this.2
  .have i:¬x.key=Sum.inr p.1:=λz=>e ((ve (a:=D.str p.1) (b:=x) rfl f).mp z.symm)
   rw [KS e,KS i]
   have:=t9 x f r o c k h g
   refine ⟨this.1,?_⟩
   show (r.foldl _ (if D.str p.1=x then p.2 else c)).sc=true
   rw [KS e];exact this.2
def kg {ps:aP}{x:D}(a:x.sc=true)(b:∀p∈ps,p.2.sc=true):(bn (bT [] (bA ps)) x.key).getD x.toV=(bY ps x).toV/\(bY ps x).sc=true:=by
 rw [wK]
 exact t9 x a ps none x b rfl a
def BU{G:Hp}{i:Nat}{x:D}(e:f[i]?=some (some (.ref a)))(q:G a=some (.dK (bT [] (bA b))))(c:x.sc=true)(m:∀p∈b,p.2.sc=true)(h:ae (aR j) G f x):ae (oK (aR i) (aR j) (aR j)) G f (bY b x):=
 λM H s l Q k=>by
  have n:=(ax (s _ _ q)).2
  refine ⟨.ref a,e,a,rfl,.inl ⟨_,.inl n⟩,h M H s l _ λy r d t=>h M r (s.trans (d.but M)) (l.same d) _ λz u o v=>?_⟩
  obtain ⟨B,w⟩:=fQ c t
  obtain ⟨A,_⟩:=fQ c v
  have g:=o _ _ (d _ _ n)
  refine ⟨bn (bT [] (bA b)) x.key,?_,?_⟩
  .rw [w];exact cN.k g
  .rw [A,(kg c m).1]
   exact k _ u (d.trans o) (B1 (kg c m).2)
end FL
namespace FL
open PySem L2
def D.name:D->Str
 |.str s=>s
 |_=>Str.empty
def aB:D->Bool
 |.str s=>Txt.isupper ⟨#[s.cps.getD 0 0]⟩
 |_=>false
def fi (F:aP)(x:D):Bool:=F.any λp=>decide (D.str p.1=x)
def fR (F:aP)(x y:D):Option aP:=if (aB x&& !fi F x)=true then some (F++[(x.name,y)]) else if bY F x=y then some F else none
def fE:aP->List (D×D)->Option aP
 |F,[]=>some F
 |F,p::r=>(fR F p.1 p.2).bind λF'=>fE F' r
def DX:fi F (.str s)=true↔s∈F.map (·.1):=by
 unfold fi
 rw [Pp]
 constructor
 .rintro ⟨p,a,e⟩
  have:=Le e
  injection this with this
  exact Lg.mpr ⟨p,a,this⟩
 .intro h
  obtain ⟨p,a,e⟩:=Lg.mp h
  exact ⟨p,a,Ln (by rw [e])⟩
def Ak (P:aP):Prop:=∀p∈P,∀q∈P,p.1=q.1->p.2=q.2
def Ky(f:Ak F)(c:p∈F):bY F (.str p.1)=p.2:=by
 have b:∀(Q:aP) (a:D),(∀q∈Q,q∈F)->(a=p.2\/p∈Q)->Q.foldl (λa q=>if D.str q.1=D.str p.1 then q.2 else a) a=p.2:=by
  intro Q
  induction Q with
  |nil=>intro a _ h;rcases h with h|h;exact h;cases h
  |cons q r g=>
   intro a d h
   show r.foldl _ (if D.str q.1=D.str p.1 then q.2 else a)=p.2
   refine g _ (λt i=>d t (KG _ i)) ?_
   by_cases e:D.str q.1=D.str p.1
   .rw [K4 e]
    injection e with e
    exact .inl (f q (d q KN) p c e)
   .rw [KS e]
    rcases h with h|h
    .exact .inl h
    .rcases KY.mp h with rfl|h
     .exact absurd rfl e
     .exact .inr h
 exact b F _ (λq h=>h) (.inr c)
def jv(h:fi F x=false):bY F x=x:=by
 have c:∀(Q:aP) (a:D),fi Q x=false->Q.foldl (λa q=>if D.str q.1=x then q.2 else a) a=a:=by
  intro Q
  induction Q with
  |nil=>intro a _;rfl
  |cons q r d=>
   intro a e
   have b:(decide (D.str q.1=x)||fi r x)=false:=e
   rw [Nl] at b
   show r.foldl _ (if D.str q.1=x then q.2 else a)=a
   rw [KS (LQ b.1)]
   exact d a b.2
 exact c F x h
end FL
namespace FL
open PySem L2
section
variable {X:Cx}{a:Expr}{ta:TE}{apos cpos:Pos}
def wB:V->List V->Hp->VK->Prop:=λx xs H Q=>∃z,x=.str z/\xs=[]/\Q (.bl (Txt.isupper z)) H
def Dm:qJ X "str.isupper" wB:=by
 intro b s e H x f v g Q I c d h
 obtain ⟨z,rfl,rfl,q⟩:=h
 obtain ⟨t,rfl⟩:=c
 cases d
 exact SC.isupper ⟨.bl _,H,I,rfl,q⟩
def Ik (h:PE X a ta)(b:attributeBase a "isupper" X.env (eval a X.env)=eval a X.env:=by rfl)(c:(apos.endLine==cpos.line)=true:=by rfl):PE X (.Call (.Attribute a "isupper" apos) [] [] cpos) (ri X.K "str" wB ta):=
 sm PySem.F.plainAttrs_str PySem.F.slot_str_isupper PySem.F.type_str_isupper Dm h b c
end
section
variable {G:Hp}{σ:St}{ta tb te:TE}{d:D}{K:PySem.W.Frag}
def CS(h:ae ta G σ (.str x)):ae (ri K "str" wB ta) G σ (.bl (Txt.isupper x)):=
 λM H s l Q k=>h M H s l _ λv a b c=>by
  rw [c.ro]
  exact ⟨rfl,x,rfl,rfl,k _ a b (.bl _)⟩
def Ef{x:Str}(a:x.length<=sizeLine)(b:c7 x.cps.toList i=some c)(e:ae ta G σ (.str x))(f:ae tb G σ (.int i)):ae (bz (eF K) ta tb) G σ (.str ⟨#[c]⟩):=
 iP (λM H v y l g h Q k=>.inr (.inr ⟨x,i,c,g.ro,h.dP,a,b,k _ H (ab.refl _) (.str _)⟩)) e f
def Du (h:ae ta G σ d)(a:∀(H:Hp) v,al H v d->decide (v=.av)=decide (d=.av)):ae (bz (λx y H Q=>y=.av/\Q (.bl (decide (x=.av))) H) ta (tC .av)) G σ (.bl (decide (d=.av))):=
 λM H s l Q k=>h M H s l _ λv b c e=>⟨rfl,by rw [a _ v e];exact k _ b c (.bl _)⟩
def zY{d:D}(r:al H v d):decide (v=.av)=decide (d=.av):=by cases r<;>simp
end
def TV (tt:TT)(σ:St)(H:Hp)(b:Bool):Prop:=∀H1,ab H H1->∀Q:Bool->Hp->Prop,(∀H',ab H1 H'->Q b H')->tt σ H1 Q
section
variable {σ:St}{δ:Dn}{M:List Addr}{H:Hp}{tt tu:TT}{ta ty te:TE}{E:Ends}{b c:Bool}{d:D}{K:PySem.W.Frag}
def TV.of (l:au M H)(h:aY tt (but H M) σ b):TV tt σ H b:=λe a Q k=>h M e (a.but M) (l.same a) Q k
def Jq (h:TV tt σ H b)(g:b=true->TV tu σ H c):TV (ql tt tu) σ H (b&&c):=λi e Q k=>h i e _ λf a=>by
 cases b with
 |true=>rw [K4 rfl];exact g rfl f (e.trans a) _ λj l=>k j (a.trans l)
 |false=>rw [KS K0];exact k f a
def zx {e f:TS}(l:au M H)(g:aA (but H M) σ δ)(h:TV tt σ H b)(i:b=true->∀a,ab H a->au M a->aA (but a M) σ δ->e E σ a)(j:b=false->∀a,ab H a->au M a->aA (but a M) σ δ->f E σ a):mM tt e f E σ H:=
 h H (ab.refl _) _ λa s=>by
  cases b with
  |true=>rw [K4 rfl];exact i rfl a s (l.same s) (g.same s)
  |false=>rw [KS K0];exact j rfl a s (l.same s) (g.same s)
def Iu (F:aP)(n:Str)(y:D):bT [] (bA (F++[(n,y)]))=bX (bT [] (bA F)) (Sum.inr n) y.toV:=by
 simp [bT,bA,Mq]
def DI{x:D}(h:x.sc=true):(bn (bT [] (bA F)) x.key).isSome=fi F x:=by
 rw [wK]
 have f:∀(Q:aP) (o:Option V),((bA Q).foldl (λo p=>if x.key=p.1 then some p.2 else o) o).isSome=(o.isSome||fi Q x):=by
  intro Q
  induction Q with
  |nil=>intro o;simp [bA,fi]
  |cons p r i=>
   intro o
   show ((bA r).foldl _ (if x.key=Sum.inr p.1 then some p.2.toV else o)).isSome=_
   rw [i]
   show _=(o.isSome||(decide (D.str p.1=x)||fi r x))
   by_cases e:D.str p.1=x
   .have g:x.key=Sum.inr p.1:=by rw [<-e];rfl
    rw [K4 g,Ln e]
    simp
   .have g:¬x.key=Sum.inr p.1:=λz=>e ((ve (a:=D.str p.1) (b:=x) rfl h).mp z.symm)
    rw [KS g,Lp e]
    simp
 have:=f F none
 simpa [bn] using this
def Gc{i:Nat}{x:D}(e:σ[i]?=some (some (.ref p)))(j:H p=some (.dK (bT [] (bA F))))(f:x.sc=true)(l:au M H)(h:ae ty (but H M) σ x):TV (tB (pH ty (aR i))) σ H (!fi F x):=
 λm a Q k=>h M m (a.but M) (l.same a) _ λy n g o=>⟨.ref p,e,p,bn (bT [] (bA F)) x.key,rfl,by rw [(fQ f o).2];exact cN.k (g _ _ (a _ _ j)),_,rfl,by rw [DI f];exact k n g⟩
def JW{i:Nat}{x y:D}(e:σ[i]?=some (some (.ref p)))(w:H p=some (.dK (bT [] (bA F))))(o:x.sc=true)(A:y.sc=true)(s:∀q∈F,q.2.sc=true)(l:au M H)(h:ae (aR j) (but H M) σ x)(B:ae (aR m) (but H M) σ y):
  TV (m4 (bz (λx y H Q=>kh x y H Q\/kf x y H Q) (oK (aR i) (aR j) (aR j)) (aR m))) σ H (!decide (bY F x=y)):=
 λC a Q k=>by
  have g:=a _ _ w
  refine ⟨.ref p,e,p,rfl,.inl ⟨_,.inl g⟩,h M C (a.but M) (l.same a) _ λv G f I=>h M G ((a.trans f).but M) (l.same (a.trans f)) _ λz J r L=>?_⟩
  obtain ⟨e1,N⟩:=fQ o I
  obtain ⟨O,_⟩:=fQ o L
  refine ⟨bn (bT [] (bA F)) x.key,by rw [N];exact cN.k (r _ _ (f _ _ g)),?_⟩
  rw [O,(kg o s).1]
  refine B M J ((a.trans (f.trans r)).but M) (l.same (a.trans (f.trans r))) _ λu T U Y=>?_
  have t:=(kg (ps:=F) o s).2
  have n:=eT t A
  exact .inl ⟨bY F x,y,⟨M,B1 t,Y,n.1,n.2⟩,_,rfl,k T (f.trans (r.trans U))⟩
end
end FL
namespace FL
open PySem L2
def nE{d:Hp}(s:ab c H)(h:c a=none)(k:∀b o,b≠a->H b=some o->d b=some o):ab c d:=λb o e=>k b o (λz=>by rw [z,h] at e;cases e) (s b o e)
def none_of{c:Hp}(s:ab a H)(k:∀b o,H b=some o->b≠p/\c b=some o):a p=none:=by
 cases e:a p with
 |none=>rfl
 |some o=>exact absurd rfl (k p o (s p o e)).1
def FE (a:aP)(n:Str)(t:D):pairD (a++[(n,t)])=pairD a++[.tup [.str n,t]]:=by simp [pairD]
def vk{a:aP}{t:D}(h:∀p∈a,p.2.sc=true)(b:t.sc=true):∀p∈a++[(n,t)],p.2.sc=true:=λp c=>by
 rcases Ld.mp c with q|q
 .exact h p q
 .rw [Li.mp q];exact b
section
variable {σ:St}{δ:Dn}{M:List Addr}{H:Hp}{tt tu:TT}{ta ty tz te:TE}{E:Ends}{b c:Bool}{d:D}{ds:List D}{K:PySem.W.Frag}
def uq(e:aA (but H M) σ δ)(f:H p=none):aA (but (upd H p o) (p::M)) (σ.set i (some (.ref p))) (δ.set i none):=by
 have g:aA (but (upd H p o) (p::M)) σ δ:=⟨e.len,λj d q=>let ⟨v,a,b⟩:=e.get j d q;⟨v,a,qr f b⟩⟩
 exact g.off i _
def Ie{k:Nat}(l:au M H)(n:aA (but H M) σ δ)(I:i<δ.length)(u:δ[k]?=some (some (.lst (pairD m))))(w:∀p∈m,p.2.sc=true)
  (q:∀p f g,(∀j:Nat,j≠i->f[j]?=σ[j]?)->f[i]?=some (some (.ref p))->p∉M->g p=some (.dK (bT [] (bA m)))->au (p::M) g->(∀b o,H b=some o->b≠p/\g b=some o)->aA (but g (p::M)) f (δ.set i none)->E.nx f g):
  dW (cH (λx H Q=>∃a s h,x=[.ref a]/\aO K H a s/\Pairs K H s h/\∀p,H p=none->Q (.ref p) (upd H p (.dK (bT [] h)))) (bb (aR k) bv)) (ci i) E σ H:=by
 obtain ⟨v,y,z⟩:=n.get k _ u
 obtain ⟨a,A,rfl,B,C⟩:=z.eA
 refine ⟨.ref a,y,a,A,bA m,rfl,aO.of (ax B).2,sY w C,λp r=>?_⟩
 have J:=n.len
 refine q p _ _ (λj G=>KQ (LN G)) (K6 Z6) (l.fresh r) aK (l.upd.cons aK) (λb o e=>?_) (uq n r)
 have t:b≠p:=de e r
 exact ⟨t,by rw [aC t];exact e⟩
def CY{k:Nat}(l:au M H)(s:aA (but H M) σ δ)(u:i<δ.length)(w:δ[k]?=some (some (.lst ds)))
  (q:∀p t m n,(∀j:Nat,j≠i->m[j]?=σ[j]?)->m[i]?=some (some (.ref p))->p∉M->n p=some (.lst t)->aD (but n (p::M)) t ds->au (p::M) n->(∀b o,H b=some o->b≠p/\n b=some o)->aA (but n (p::M)) m (δ.set i none)->E.nx m n):
  dW (cH (λx H Q=>∃p r,x=[.ref p]/\(aO K H p r\/bo K H p r)/\∀l,H l=none->Q (.ref l) (upd H l (.lst r))) (bb (aR k) bv)) (ci i) E σ H:=by
 obtain ⟨v,y,z⟩:=s.get k _ w
 obtain ⟨a,A,rfl,B,C⟩:=z.eA
 exact Kh l s u y (ax B).2 C λp m n a b c d e f g h=>q p A m n a b c d e f g h
def ze{i:Nat}{y:D}(l:au M H)(t:aA (but H M) σ δ)(m:p∈M)(e:σ[i]?=some (some (.ref p)))(w:H p=some (.dK (bT [] (bA F))))(x:y.sc=true)(N:F.length<1000)(h:ae ty (but H M) σ (.str n))(z:ae tz (but H M) σ y)
  (k:∀f,(∀b o,b≠p->H b=some o->f b=some o)->au M f->f p=some (.dK (bT [] (bA (F++[(n,y)]))))->aA (but f M) σ δ->E.nx σ f):pz (aR i) ty tz E σ H:=by
 refine z M H (ab.refl _) l _ λv A a B=>⟨.ref p,e,h M A (a.but M) (l.same a) _ λu s j C=>?_⟩
 have r:=j _ _ (a _ _ w)
 have G:=(fQ (d:=.str n) rfl C).2
 have I:=(fQ x B).1
 have g:(bT [] (bA F)).length<sizeLine:=by
  have:=uf (bA F) []
  simp only [bA,KP,MR,M8] at this
  exact cr (by unfold bA;omega)
 refine ⟨p,_,rfl,by rw [G];exact f6.k (k:=Sum.inr n) r g,?_⟩
 have J:but (upd s p (.dK (bX (bT [] (bA F)) (Sum.inr n) v))) M=but s M:=dH m
 refine k _ (λb o L q=>by rw [aC L];exact j _ _ (a _ _ q)) (l.same (a.trans j)).upd ?_ ?_
 .rw [aK,I]
  show some (HO.dK (bX _ _ _))=some (HO.dK (bT [] (bA (F++[(n,y)]))))
  rw [Iu]
 .rw [J];exact t.same (a.trans j)
end
end FL
namespace L2
open PySem PySem.Spec PyProof.Rows
section
variable {X:Cx}
def HW(h:(dq P w).is k u=true):RelV (kV k) u:=by
 rw [Hx] at h
 rcases je h with ⟨i,t,rfl,rfl⟩|⟨x,t,rfl,rfl⟩
 .exact ⟨t,rfl⟩
 .exact ⟨t,rfl⟩
def F2 (L:X.calm=true):h9 X (.type "list") (λE H Q=>∃a b,E=[.ref a]/\Rd H a (.dK b)/\∀l,H l=none->Q (.ref l) (upd H l (.lst (b.map λg=>kV g.1)))):=by
 intro G s σ H E us Q I r h
 obtain ⟨a,b,rfl,e,q⟩:=h
 obtain ⟨u,rfl,M⟩:=OU r
 cases M
 obtain ⟨z,N,J,bD,O⟩:=hJ I.aw e
 obtain ⟨T,o⟩:=O.dictAt
 have i:=bD.length
 refine PySem.W.kdl_call (PySem.W.kdl_dict (knd:=dq X.prog X.w) (kvs:=J) (ep:=T) N) (I.ok.hd L) o (by rw [<-i];exact z) λU Y c c' hk hS f=>?_
 have rv:a9 (b.map λg=>kV g.1) c.toList:=by
  have y:∀(A:List (aG×V)) (m:List (aG×Value)) (d:List Value),KV A m->d.length=m.length->(∀(j:Nat) v,d[j]?=some v->∃k x,m[j]?=some (k,x)/\(dq X.prog X.w).is k v=true)->a9 (A.map λg=>kV g.1) d:=by
   intro A m d rk
   induction rk generalizing d with
   |nil=>intro i _;cases d with
    |nil=>exact .nil
    |cons _ _=>cases i
   |@cons p q ps qs B t ih=>
    intro i n
    cases d with
    |nil=>cases i
    |cons v d=>
     obtain ⟨k,x,C,h2⟩:=n 0 v rfl
     have C:q=(k,x):=K8 C
     refine .cons ?_ (ih d (Nat.succ.inj i) λj u hu=>n (j+1) u hu)
     have e1:p.1=k:=by rw [B.1,C]
     show RelV (kV p.1) v
     rw [e1]
     exact HW h2
  exact y b J c.toList bD (by rw [Nt];exact f.1) λj v n=>f.2 j v (by rw [<-Ph];exact n)
 exact ⟨.ref s.heap.objs.size,_,I.laid (t':=Y) hk (KR _) (show bP X.prog X.w _ U _ (.lst (b.map λg=>kV g.1)) from ⟨by rw [KP];exact z,c.toList,c',rv,by rw [Array.toArray_toList];exact hS⟩),rfl,q _ (I.aw.fresh (KR _))⟩
def Kj (C:X.calm=true):h9 X (.builtin "all") (λn H Q=>∃(a:Addr) (d:List Bool),n=[.ref a]/\aO X.K H a (d.map V.bl)/\Q (.bl (d.all id)) H):=by
 intro t s T H n U Q I r h
 obtain ⟨a,d,rfl,x,q⟩:=h
 obtain ⟨u,rfl,E⟩:=OU r
 cases E
 obtain ⟨c,j,p,G⟩:=I.list x
 refine call_all_walk (Mt p.isList ?_)
 have k:a≠s.heap.objs.size:=by
  obtain ⟨o,J,_⟩:=p.isList
  exact Ls (Lf J)
 have f:c.length=d.length:=by have:=j.length;rw [KP] at this;exact this.symm
 refine ⟨s.heap.objs.size,_,_,c.toArray.size,_,_,λi=>d.getD i true,rfl,Walks.list (A:=X.A.in1) (prog:=X.prog) (w:=X.w) (show X.A.in1.handled=none from I.ok.hd C) s.heap.objs.size a k c.toArray,⟨⟨_,Lc _ rfl,rfl,rfl⟩,p.isList.push _⟩,λi v Y Q' E' g l=>?_,λh' L M=>?_⟩
 .have g:c[i]?=some v:=by simpa using g
  have hi:i<c.length:=(KJ.mp g).1
  have N:(d.map V.bl)[i]?=some (.bl (d.getD i true)):=by
   rw [KZ,KL Z6,List.getD,KL Z6]
   rfl
  obtain ⟨w',y,m⟩:=j.get N
  rw [g] at y
  cases y
  obtain rfl:v=Value.bool (d.getD i true):=m
  exact Ma l
 .have e:(List.range c.toArray.size).all (λi=>d.getD i true)=d.all id:=by
   rw [Lb,f]
   clear f j G x q
   induction d with
   |nil=>rfl
   |cons b r O=>
    rw [Lr,List.range_succ_eq_map,Nm,NP]
    show (b&&(List.range r.length).all λi=>r.getD i true)=(b&&r.all id)
    rw [O]
  refine ⟨.bl (d.all id),H,I.kept (t':=L) (λb o B=>M b o (λz=>?_) (KO _ B)),LL Value.bool e,q⟩
  have:b=s.heap.objs.size:=by simpa using z
  exact absurd (Lf B) (by rw [this];exact Mc _)
end
end L2
namespace L2
open PySem PySem.Spec PyProof.Rows
section
variable {X:Cx}
def B8 (K:PySem.W.Frag):R2:=λx y H Q=>∃a b xs ys,x=.ref a/\y=.ref b/\bo K H a xs/\bo K H b ys/\xs.length+ys.length<=sizeLine/\
 (xs=[]->Q (.ref b) H)/\(xs≠[]->ys=[]->Q (.ref a) H)/\(xs≠[]->ys≠[]->∀p,H p=none->Q (.ref p) (upd H p (.tup (xs++ys))))
def Aw:cD X (binaryOp .Add) (B8 X.K):=by
 intro c s B H x y v u Q I l m h
 obtain ⟨a,b,o,C,rfl,rfl,p,q,E,G,J,L⟩:=h
 by_cases d:o=[]
 .cases l
  cases m
  obtain ⟨e,M,N,_⟩:=I.tuple p
  obtain ⟨f,r2,O,_⟩:=I.tuple q
  have T:e=[]:=M.qS.mpr d
  obtain ⟨⟨U,Y,r,sl⟩,t,w,n,z⟩:=id N
  obtain ⟨⟨A,j,data2,k⟩,g,i,n2,eU⟩:=id O
  simp only at w z i eU
  subst w z i eU
  exact concat_meets ⟨_,t,rfl⟩ ⟨_,g,rfl⟩ OV seq_tuple_add NM NH (Nv _ _)
   (tuple_addW0 a b e.toArray f.toArray n n2 Y j sl k (by simp [T])) ⟨t,g,⟨.ref b,H,I,rfl,G d⟩⟩
 .exact Gq c s B H _ _ v u Q I l m ⟨a,b,o,C,rfl,rfl,p,q,d,E,J d,L d⟩
end
end L2
namespace FL
open PySem L2
section
variable {G:Hp}{σ:St}{ta tb:TE}{K:PySem.W.Frag}{xs ys:List D}
theorem zO (hz:xs.length+ys.length<=1000)(ha:ae ta G σ (.tup xs))(hb:ae tb G σ (.tup ys)):ae (bz (B8 K) ta tb) G σ (.tup (xs++ys)):=
 iP (fun M H v y l rv ry Q k=>by
  obtain ⟨a,vs,rfl,h1,h2⟩:=rv.e9
  obtain ⟨b,ws,rfl,h3,h4⟩:=ry.e9
  have l1:=h2.length
  have l2:=h4.length
  refine ⟨a,b,vs,ws,rfl,rfl,bo.of (ax h1).2,bo.of (ax h3).2,Nat.le_of_lt (cr (by omega)),fun e=>?_,fun e e2=>?_,fun e e2 p hp=>?_⟩
  ·have:xs=[]:=List.eq_nil_of_length_eq_zero (by rw [<-l1,e];rfl)
   rw [this,nil_append] at k
   exact k _ H (ab.refl _) (.tup h3 h4)
  ·have:ys=[]:=List.eq_nil_of_length_eq_zero (by rw [<-l2,e2];rfl)
   rw [this,append_nil] at k
   exact k _ H (ab.refl _) (.tup h1 h2)
  ·exact k _ _ (cG hp _) (ou l hp (h2.append h4))) ha hb
theorem kA (hz:xs.length+ys.length<=1000)(ha:ae ta G σ (.lst xs))(hb:ae tb G σ (.lst ys)):ae (bz xS ta tb) G σ (.lst (xs++ys)):=
 iP (fun M H v y l rv ry Q k=>by
  obtain ⟨a,vs,rfl,h1,h2⟩:=rv.eA
  obtain ⟨b,ws,rfl,h3,h4⟩:=ry.eA
  have l1:=h2.length
  have l2:=h4.length
  exact ⟨a,b,vs,ws,rfl,rfl,(ax h1).2,(ax h3).2,Nat.le_of_lt (cr (by omega)),fun p hp=>k _ _ (cG hp _) (nZ l hp (h2.append h4))⟩) ha hb
end
section
variable {X:Cx}{N':List Str}{scope:Scope}{cl:List (Str×Addr)}{C:Addr}{fp:List Addr}{s:Shared}{H:Hp}
def iB(h:a5 X.prog X.w X.K X.mg X.base n x i g)(j:cI m X.A)(k:PA (bG X N' scope cl C fp s H) (e::a) t)(c:n<=m:=by decide)
  (l:Gl (bG X N' scope cl C fp s H) x:=by rfl) (d:(x==("__debug__":Str))=false:=by decide) (o:starEach (e::a) (bG X N' scope cl C fp s H).env=(false,eval e (bG X N' scope cl C fp s H).env)::starEach a (bG X N' scope cl C fp s H).env:=by rfl) (f:(backTo b (starEach a (bG X N' scope cl C fp s H).env)).any (·.1)=false:=by rfl):
  PE (bG X N' scope cl C fp s H) (.Call (.Name x p) (e::a) [] b) (iH g [] E0 t):=bQ (X:=bG X N' scope cl C fp s H) h j k c l d o f
end
structure d9 (P:Program)(w:World)(K:PySem.W.Frag)(mg:Str->Option Value)(base:Heap)(n:Nat)(C:Addr)(m:Str)(ps:List Str)(sp:Sp):Prop where
 ex:∃f fd,bq P w K mg base bI n f fd ps sp/\Binds K fd ps []/\c6 K C m f
structure jf (P:Program)(w:World)(K:PySem.W.Frag)(mg:Str->Option Value)(base:Heap)(n:Nat)(C:Addr)(x:Str)(ps:List Str)(sp:Sp):Prop where
 ex:∃f fd,bq P w K mg base bI n f fd ps sp/\Binds K fd ps []/\Mk K C f/\mg x=some (.ref C)
section
variable {X:Cx}{C:Addr}
def kJ(v:PE X o r)(c:dk X.K C)(h:d9 X.prog X.w X.K X.mg X.base n C m u q)(x:cI k X.A)(y:PA X (e::g) t)(i:n<=k:=by decide)
  (j:starEach (e::g) X.env=(false,eval e X.env)::starEach g X.env:=by rfl) (l:(backTo a (starEach g X.env)).any (·.1)=false:=by rfl)
  (z:eval (.Call (.Attribute o m d) (e::g) [] a) X.env=(do
   let s<-eval o X.env
   standAt d.atName
   let (f,first)<-holding [s] (getMethod s m p)
   callWith a f first (backTo a (starEach (e::g) X.env)) (backToKw a (keywordEach [] X.env))):=by rfl):
  PE X (.Call (.Attribute o m d) (e::g) [] a) (kQ C m q [] E0 r t):=by
 obtain ⟨f,B,F,b,M⟩:=h.ex
 exact ET (pl:=p) v c M (F.mono i) x b .nil tm y j l z
def u8(h:jf X.prog X.w X.K X.mg X.base n C x l j)(m:cI (k+1) X.A)(o:PA X (e::a) t)(d:n<=k:=by decide)
  (q:Gl X x:=by rfl) (g:(x==("__debug__":Str))=false:=by decide) (r:starEach (e::a) X.env=(false,eval e X.env)::starEach a X.env:=by rfl) (i:(backTo c (starEach a X.env)).any (·.1)=false:=by rfl):
  PE X (.Call (.Name x p) (e::a) [] c) (rT C j [] E0 t):=by
 obtain ⟨f,u,F,b,M,s⟩:=h.ex
 exact G6 M (F.mono d) m q s b .nil tm o g r i
end
section
variable {X:Cx}{e:Expr}{te:TE}{p pos:Pos}
def Ej (B:Bl X.mg)(h:PE X e te)(d:X.calm=true:=by rfl)(f:Gl X "list":=by rfl)(c:starEach [e] X.env=(false,eval e X.env)::starEach [] X.env:=by rfl):PE X (.Call (.Name "list" p) [e] [] pos)
  (cH (λg H Q=>∃a b,g=[.ref a]/\Rd H a (.dK b)/\∀l,H l=none->Q (.ref l) (upd H l (.lst (b.map λi=>kV i.1)))) (bb te bv)):=
 px (F2 d) f B.list L9 (ah h ap c) (he:=c)
def uo (B:Bl X.mg)(h:PE X e te)(d:X.calm=true:=by rfl)(f:Gl X "all":=by rfl)(b:starEach [e] X.env=(false,eval e X.env)::starEach [] X.env:=by rfl):PE X (.Call (.Name "all" p) [e] [] pos)
  (cH (λg H Q=>∃(a:Addr) (c:List Bool),g=[.ref a]/\aO X.K H a (c.map V.bl)/\Q (.bl (c.all id)) H) (bb te bv)):=
 p6 (Kj d) f B.all PyProof.Rows.boot_all (ah h ap b) (he:=b)
end
section
variable {G:Hp}{σ:St}{ta:TE}{t:TA}{K:PySem.W.Frag}
def BD:∀{a:List V} {c:List Bool},aD H a (c.map D.bl)->a=c.map V.bl
 |_,[],.nil=>rfl
 |_,b::r,.cons h t=>by rw [h.ia,BD t];rfl
def wF {bs:List Bool}(h:dI t G σ [.lst (bs.map D.bl)]):ae (cH (λb H Q=>∃(a:Addr) (bs:List Bool),b=[.ref a]/\aO K H a (bs.map V.bl)/\Q (.bl (bs.all id)) H) t) G σ (.bl (bs.all id)):=
 ni (λM H b l c Q k=>by
  obtain ⟨v,rfl,r⟩:=jw c
  obtain ⟨a,f,rfl,d,e⟩:=r.eA
  refine ⟨a,bs,rfl,?_,k _ H (ab.refl _) (.bl _)⟩
  rw [<-BD e]
  exact aO.of (ax d).2) h
def zH(h:ae ta G σ (.lst b)):aY (λσ H Q=>ta σ H λx c=>∃k,sj K x c k/\Q k c) G σ (!b.isEmpty):=λM H s l Q k=>h M H s l _ λv d e f=>by
 obtain ⟨a,g,rfl,i,j⟩:=f.eA
 refine ⟨!b.isEmpty,.inl ⟨g,aO.of (ax i).2,?_⟩,k d e⟩
 cases j<;>rfl
end
end FL
namespace PySem
section
variable {prog:Program}{w:World}{K:Type} [DecidableEq K] {knd:HeapKind prog w K}{A:Around}{E:Value->Shared->Prop}{s:Shared}
def IC (knd:HeapKind prog w K)(d:Addr)(c:(d==sysModules)=false):
  MeetsIn prog w (Builtin.«dict.__len__» ⟨[.ref d],[]⟩) (λ_ R s=>∃b,s.heap.DictOfH knd d b/\R (.ok (.ret (.int b.length s.toks))) {s with toks:=s.toks+1}):=
 .of_wp λA R s ⟨b,e,h⟩=>by
  obtain ⟨o,f,k,g,l,a,i,j,m⟩:=e
  show wpAny _ _ (dictSize d>>=_) _ _ s
  unfold dictSize
  refine KI (KI (wpAny_dictEntries g a (K5 ?_)))
  show wpAny _ _ (Builtin.Dict.pendingCount d>>=_) _ _ s
  refine KI (wpAny_pendingCount_other c ?_)
  refine wpAny_ret_mkInt ?_
  have:f.size=b.length:=size_of_entries i
  rw [Nat.add_zero,this];exact h
def CN{Q:Value->Shared->Prop}(e:(d==sysModules)=false)(b:s.heap.DictOfH knd d a)(c:(a.length:Int)<2^63)
  (h:Q (.int a.length (s.toks+1)) {s with toks:=s.toks+1+1}):wpAny (model prog w) A (call (.builtin "len") [.ref d]) Q E s:=by
 refine Calls.call_function_entry kind_len plain_len entry_len (args_len1 _) ?_
 unfold Builtin.«len»
 refine KI (m:=oneArg "len" _) (K5 ?_)
 refine KI (m:=callSpecial? (.ref d) (Str.ofString "__len__")) (L1 (name:=Str.ofString "__len__") b.typeIs F.slot_dict_len
  (M5 F.slot_dict_len b.typeIs F.entry_dict_len (F.args_dict_len_1 _) (IC knd d e) ⟨a,b,?_⟩))
 show wpAny _ _ _ _ _ {s with toks:=s.toks+1}
 refine KI (Mp (K5 ?_))
 refine KI (Nh ?_)
 show wpAny _ _ (if ((a.length:Nat):Int)<0 then _ else _) _ _ _
 rw [KS Z6]
 show wpAny _ _ (if ((a.length:Nat):Int)≥2^63 then _ else _) _ _ _
 rw [KS Z6]
 exact KI (wpAny_mkInt (K5 ⟨_,rfl,h⟩))
end
end PySem
namespace L2
open PySem PySem.Spec PyProof.Rows
section
variable {X:Cx}
def t0:List V->Hp->VK->Prop:=λxs H Q=>(∃a kvs,xs=[.ref a]/\Rd H a (.dK kvs)/\Q (.int kvs.length) H)\/∃a kvs,xs=[.ref a]/\Rd H a (.dT kvs)/\Q (.int kvs.length) H
def Fs:h9 X (.builtin "len") t0:=by
 intro d s l H g m Q I r h
 rcases h with ⟨a,b,rfl,e,q⟩|⟨a,b,rfl,e,q⟩
 .obtain ⟨u,rfl,c⟩:=OU r
  cases c
  exact FI I e λt n i=>⟨.int b.length,H,i,⟨t,rfl⟩,q⟩
 .obtain ⟨u,rfl,c⟩:=OU r
  cases c
  obtain ⟨z,j,g,bD,k⟩:=ju I.aw e
  have f:=MC bD
  refine CN j k (by rw [<-f];rw [OF] at z;omega) ?_
  rw [<-f]
  exact ⟨.int b.length,H,I.tok _,⟨_,rfl⟩,q⟩
end
end L2
namespace FL
open PySem L2
section
variable {X:Cx}{e:Expr}{te:TE}{p pos:Pos}
def IM (B:Bl X.mg)(h:PE X e te)(b:Gl X "len":=by rfl)(a:starEach [e] X.env=(false,eval e X.env)::starEach [] X.env:=by rfl):PE X (.Call (.Name "len" p) [e] [] pos) (cH t0 (bb te bv)):=
 p6 Fs b B.len PySem.boot_len (ah h ap a) (he:=a)
end
section
variable {X:Cx}{N':List Str}{scope:Scope}{cl:List (Str×Addr)}{C:Addr}{fp:List Addr}{s:Shared}{H:Hp}{e:Expr}{te:TE}{p pos:Pos}
end
end FL
namespace FL
open PySem L2
section
variable {X:Cx}{N':List Str}{scope:Scope}{cl:List (Str×Addr)}{C:Addr}{fp:List Addr}{s:Shared}{H:Hp}{e:Expr}{te:TE}{p pos:Pos}{f:Str}
def pY (a:PE (bG X N' scope cl C fp s H) e te)(b:attributeBase e f (bG X N' scope cl C fp s H).env (eval e (bG X N' scope cl C fp s H).env)=eval e (bG X N' scope cl C fp s H).env):PE (bG X N' scope cl C fp s H) (.Attribute e f pos) (kF X.K te f):=dJ (X:=bG X N' scope cl C fp s H) a b
def Bf (b:PE (bG X N' scope cl C fp s H) e te)(c:∀fX,isTrue e (bG X N' scope cl C fp s H).env fX=(do let v<-fX;standAt e.pos;holding [v] (truthy v))):
  PT (bG X N' scope cl C fp s H) e (λd H Q=>te d H λx a=>∃k,sj X.K x a k/\Q k a):=Be (X:=bG X N' scope cl C fp s H) b c
end
end FL
namespace FL
open PySem L2
def aq (V:Str->D)(B:List Str):aP:=B.map λb=>(b,V b)
def a6 (V:Str->D)(x:D):D:=if aB x=true then V x.name else x
def ce (B:List Str)(x:D):List Str:=if (aB x&& !decide (x.name∈B))=true then B++[x.name] else B
def ak (B:List Str)(l:List D):List Str:=l.foldl ce B
def cp (B:List Str):Prop:=∀b∈B,aB (.str b)=true
def gT(h:aB x=true):x=.str x.name:=by
 cases x with
 |str s=>rfl
 |_=>cases h
def cp.add(h:cp B)(x:D):cp (ce B x):=λb a=>by
 unfold ce at a
 by_cases e:(aB x&& !decide (x.name∈B))=true
 .rw [K4 e] at a
  rcases Ld.mp a with z|z
  .exact h b z
  .rw [Li.mp z]
   rw [LP] at e
   rw [<-gT e.1];exact e.1
 .rw [KS e] at a;exact h b a
def zR{B:List Str}(h:b∈B):b∈ce B x:=by
 unfold ce
 by_cases e:(aB x&& !decide (x.name∈B))=true
 .rw [K4 e];exact K9 _ h
 .rw [KS e];exact h
def yx(h:aB x=true):x.name∈ce B x:=by
 unfold ce
 by_cases e:x.name∈B
 .rw [KS (by simp [e])];exact e
 .rw [K4 (by simp [e,h])];exact KW _ (Li.mpr rfl)
def Gi(h:b∈ce B x):b∈B\/(aB x=true/\b=x.name):=by
 unfold ce at h
 by_cases e:(aB x&& !decide (x.name∈B))=true
 .rw [K4 e] at h
  rw [LP] at e
  rcases Ld.mp h with z|z
  .exact .inl z
  .exact .inr ⟨e.1,Li.mp z⟩
 .rw [KS e] at h;exact .inl h
def G4{B:List Str}(h:B.Nodup):(ce B x).Nodup:=by
 unfold ce
 by_cases e:(aB x&& !decide (x.name∈B))=true
 .rw [K4 e]
  rw [LP] at e
  have c:x.name∉B:=by simpa using e.2
  rw [Nr]
  refine ⟨h,by simp,?_⟩
  intro a d b f
  rw [Li.mp f]
  exact λz=>c (z▸d)
 .rw [KS e];exact h
def qd:∀{B:List Str} {b:Str},b∈B->b∈ak B l:=by
 induction l with
 |nil=>exact λh=>h
 |cons x r a=>exact λh=>a (zR h)
def iE:∀{B:List Str},cp B->cp (ak B l):=by
 induction l with
 |nil=>exact λh=>h
 |cons x r a=>exact λh=>a (h.add x)
def wY:∀{B:List Str},B.Nodup->(ak B l).Nodup:=by
 induction l with
 |nil=>exact λh=>h
 |cons x r a=>exact λh=>a (G4 h)
def ng{l:List D}(a:x∈l)(h:aB x=true):∀{B:List Str},x.name∈ak B l:=by
 induction l with
 |nil=>cases a
 |cons y r b=>
  intro B
  rcases KY.mp a with rfl|a
  .exact qd (l:=r) (B:=ce B x) (yx h)
  .exact b a
def uN:∀{B:List Str},b∈ak B l->b∈B\/∃x∈l,aB x=true/\b=x.name:=by
 induction l with
 |nil=>exact λh=>.inl h
 |cons y r a=>
  intro B h
  rcases a h with z|⟨x,c,z⟩
  .rcases Gi z with z|⟨d,e⟩
   .exact .inl z
   .exact .inr ⟨y,KN,d,e⟩
  .exact .inr ⟨x,KG _ c,z⟩
def JX (V:Str->D)(B:List Str):Ak (aq V B):=λp a q d e=>by
 obtain ⟨b,_,rfl⟩:=Lg.mp a
 obtain ⟨c,_,rfl⟩:=Lg.mp d
 have e:b=c:=e
 rw [e]
def yu {V a:Str->D}{B:List Str}(h:∀b∈B,a b=V b):aq a B=aq V B:=Ly λb c=>by rw [h b c]
def wt{V:Str->D}(a:aB x=true):fi (aq V B) x=decide (x.name∈B):=by
 rw [gT a]
 have h:=DX (F:=aq V B) (s:=x.name)
 have e:(aq V B).map (·.1)=B:=by simp [aq,LH,Function.comp_def]
 rw [e] at h
 show fi (aq V B) (.str x.name)=decide (x.name∈B)
 by_cases z:x.name∈B
 .rw [h.mpr z,Ln z]
 .rw [Lp z]
  cases q:fi (aq V B) (.str x.name) with
  |false=>rfl
  |true=>exact absurd (h.mp q) z
def nh{V:Str->D}(a:cp B)(c:aB x=false):fi (aq V B) x=false:=by
 cases q:fi (aq V B) x with
 |false=>rfl
 |true=>
  obtain ⟨p,d,e⟩:=Pp.mp q
  obtain ⟨b,f,rfl⟩:=Lg.mp d
  have e:D.str b=x:=Le e
  have:=a b f
  rw [e,c] at this;cases this
def nQ{V:Str->D}{B:List Str}(a:b∈B):bY (aq V B) (.str b)=V b:=Ky (JX V B) (p:=(b,V b)) (Lg.mpr ⟨b,a,rfl⟩)
def jK{V:Str->D}(a:cp B)(b:aB x=true->x.name∈B):bY (aq V B) x=a6 V x:=by
 unfold a6
 by_cases e:aB x=true
 .rw [K4 e]
  have:=nQ (V:=V) (b e)
  rw [<-gT e] at this
  exact this
 .rw [KS e]
  exact jv (nh a (by simpa using e))
def Er{V:Str->D}(a:cp B)(x:D):fR (aq V B) x (a6 V x)=some (aq V (ce B x)):=by
 unfold fR ce
 by_cases e:aB x=true
 .rw [wt e]
  by_cases z:x.name∈B
  .rw [KS (by simp [z]),jK a (λ_=>z),K4 rfl,KS (by simp [z])]
  .rw [K4 (by simp [z,e]),K4 (by simp [z,e])]
   unfold a6 aq
   rw [K4 e,Lq]
   rfl
 .have b:aB x=false:=by simpa using e
  rw [KS (by simp [b]),jK a (λz=>absurd z e),K4 rfl,KS (by simp [b])]
def IZ{V a:Str->D}(h:∀b∈ce B x,a b=V b):a6 a x=a6 V x:=by
 unfold a6
 by_cases e:aB x=true
 .rw [K4 e,K4 e,h _ (yx e)]
 .rw [KS e,KS e]
def Gh{V:Str->D}(d:cp B)(h:fR (aq V B) x y=some f):∃a,(∀b∈B,a b=V b)/\f=aq a (ce B x)/\y=a6 a x:=by
 unfold fR at h
 by_cases e:aB x=true
 .rw [wt e] at h
  by_cases z:x.name∈B
  .rw [KS (by simp [z]),jK d (λ_=>z)] at h
   by_cases q:a6 V x=y
   .rw [K4 q] at h
    refine ⟨V,λ_ _=>rfl,?_,q.symm⟩
    unfold ce
    rw [KS (by simp [z])]
    exact (K8 h).symm
   .rw [KS q] at h;cases h
  .rw [K4 (by simp [z,e])] at h
   refine ⟨λb=>if b=x.name then y else V b,λb c=>KS (λw=>z (by rw [<-w];exact c)),?_,?_⟩
   .have i:=K8 h
    rw [<-i]
    unfold ce
    rw [K4 (by simp [z,e])]
    unfold aq
    rw [Lq]
    congr 1
    .exact Ly λb c=>by
      have:b≠x.name:=λw=>z (by rw [<-w];exact c)
      simp [this]
    .simp
   .unfold a6
    rw [K4 e]
    simp
 .have g:aB x=false:=by simpa using e
  rw [KS (by simp [g]),jK d (λz=>absurd z e)] at h
  by_cases q:a6 V x=y
  .rw [K4 q] at h
   refine ⟨V,λ_ _=>rfl,?_,q.symm⟩
   unfold ce
   rw [KS (by simp [g])]
   exact (K8 h).symm
  .rw [KS q] at h;cases h
def BB {V:Str->D}:∀(l:List D) {B:List Str},cp B->fE (aq V B) (l.zip (l.map (a6 V)))=some (aq V (ak B l))
 |[],B,_=>rfl
 |x::r,B,a=>by
  show (fR (aq V B) x (a6 V x)).bind (λb=>fE b (r.zip (r.map (a6 V))))=_
  rw [Er a]
  exact BB r (a.add x)
def z6:∀(l f:List D) {V:Str->D} {B:List Str} {a:aP},cp B->l.length=f.length->fE (aq V B) (l.zip f)=some a->∃d,(∀b∈B,d b=V b)/\a=aq d (ak B l)/\f=l.map (a6 d)
 |[],[],V,B,a,_,_,h=>⟨V,λ_ _=>rfl,(K8 h).symm,rfl⟩
 |[],_::_,_,_,_,_,c,_=>by cases c
 |_::_,[],_,_,_,_,c,_=>by cases c
 |x::r,y::t,V,B,a,g,c,h=>by
  have h:(fR (aq V B) x y).bind (λa=>fE a (r.zip t))=some a:=h
  cases e:fR (aq V B) x y with
  |none=>rw [e] at h;cases h
  |some n=>
   rw [e] at h
   obtain ⟨o,j,rfl,k⟩:=Gh g e
   obtain ⟨m,b1,b2,b3⟩:=z6 r t (g.add x) (Nat.succ.inj c) h
   refine ⟨m,λb i=>(b1 b (zR i)).trans (j b i),b2,?_⟩
   rw [LB,<-b3,k,IZ b1]
def bw (A f:List D)(S:aP):Option aP:=if A.headD .av=f.headD .av/\A.length=f.length then fE S (A.zip f) else none
def xK{V:Str->D}(b:A≠[])(a:aB (A.headD .av)=false):A.headD .av=(A.map (a6 V)).headD .av:=by
 cases A with
 |nil=>exact absurd rfl b
 |cons x r=>
  show x=a6 V x
  unfold a6
  have a:aB x=false:=a
  rw [KS (by rw [a];exact K0)]
def t5{V:Str->D}(a:cp B)(b:A≠[])(c:aB (A.headD .av)=false):bw A (A.map (a6 V)) (aq V B)=some (aq V (ak B A)):=by
 unfold bw
 rw [K4 ⟨xK b c,by rw [KP]⟩]
 exact BB A a
def iC{V:Str->D}(d:cp B)(h:bw A f (aq V B)=some c):∃a,(∀b∈B,a b=V b)/\c=aq a (ak B A)/\f=A.map (a6 a):=by
 unfold bw at h
 by_cases z:A.headD .av=f.headD .av/\A.length=f.length
 .rw [K4 z] at h;exact z6 A f d z.2 h
 .rw [KS z] at h;cases h
end FL
namespace FL
open PySem L2
abbrev aJ:=aP×List Nat
def ext (facts:List (List D))(a:List D)(w:aJ):List aJ:=facts.zipIdx.filterMap λp=>(bw a p.1 w.1).map λS=>(S,w.2++[p.2])
def fw (facts:List (List D)):List (List D)->List aJ->List aJ
 |[],ws=>ws
 |a::r,ws=>fw facts r (ws.flatMap (ext facts a))
def aW (B:List Str)(as:List (List D)):List Str:=as.foldl ak B
def fx (facts:List (List D))(V:Str->D)(as:List (List D))(pl:List Nat):Prop:=pl.map (λi=>facts[i]?)=as.map λa=>some (a.map (a6 V))
def iR (a:List D):Prop:=a≠[]/\aB (a.headD .av)=false
def lg:(S,c)∈ext b a w↔∃i f,b[i]?=some f/\bw a f w.1=some S/\c=w.2++[i]:=by
 unfold ext
 rw [ND]
 constructor
 .rintro ⟨⟨f,i⟩,g,e⟩
  have d:b[i]?=some f:=by
   have:=Nc.mp g
   exact this
  have e:(bw a f w.1).map (λS=>(S,w.2++[i]))=some (S,c):=e
  cases q:bw a f w.1 with
  |none=>rw [q] at e;cases e
  |some j=>
   rw [q] at e
   have e:=K8 e
   exact ⟨i,f,d,by rw [q];exact LL some (LL Prod.fst e),(LL Prod.snd e).symm⟩
 .rintro ⟨i,f,d,h,rfl⟩
  exact ⟨(f,i),Nc.mpr d,by show (bw a f w.1).map _=_;rw [h];rfl⟩
def DV{V f:Str->D}{d:List (List D)}{B:List Str}(i:∀a∈d,∀x∈a,aB x=true->x.name∈B)(h:∀b∈B,f b=V b)(j:fx c V d g):fx c f d g:=by
 unfold fx at*
 rw [j]
 refine Ly λa k=>?_
 congr 1
 refine Ly λx l=>?_
 unfold a6
 by_cases e:aB x=true
 .rw [K4 e,K4 e,h _ (i a k x l e)]
 .rw [KS e,KS e]
def CF:∀{B:List Str} {b:Str},b∈B->b∈aW B as:=by
 induction as with
 |nil=>exact λh=>h
 |cons a r c=>exact λh=>c (qd h)
def iV:∀{B:List Str},cp B->cp (aW B b):=by
 induction b with
 |nil=>exact λh=>h
 |cons a r c=>exact λh=>c (iE h)
def xa:∀{B:List Str},B.Nodup->(aW B as).Nodup:=by
 induction as with
 |nil=>exact λh=>h
 |cons a r b=>exact λh=>b (wY h)
def lQ{d:List (List D)}(b:a∈d)(e:x∈a)(h:aB x=true):∀{B:List Str},x.name∈aW B d:=by
 induction d with
 |nil=>cases b
 |cons c r f=>
  intro B
  rcases KY.mp b with rfl|b
  .exact CF (as:=r) (B:=ak B a) (ng e h)
  .exact f b
def Bh:∀{B:List Str},b∈aW B d->b∈B\/∃a∈d,∃x∈a,aB x=true/\b=x.name:=by
 induction d with
 |nil=>exact λh=>.inl h
 |cons c r e=>
  intro B h
  rcases e h with z|⟨a,f,z⟩
  .rcases uN z with z|⟨x,g,z⟩
   .exact .inl z
   .exact .inr ⟨c,KN,x,g,z⟩
  .exact .inr ⟨a,KG _ f,z⟩
def ye:∀(m:List (List D)) (done:List (List D)) (B:List Str) (j:List aJ),cp B->(∀a∈done,∀x∈a,aB x=true->x.name∈B)->(∀a∈m,iR a)->
  (∀S d,(S,d)∈j↔∃V,S=aq V B/\fx b V done d)->∀S d,(S,d)∈fw b m j↔∃V,S=aq V (aW B m)/\fx b V (done++m) d
 |[],done,B,j,_,_,_,h,S,d=>by
  rw [LA];exact h S d
 |a::r,done,B,j,o,u,v,h,S,d=>by
  have k:=ye r (done++[a]) (ak B a) (j.flatMap (ext b a)) (iE o) (λc p x q e=>by
    rcases Ld.mp p with z|z
    .exact qd (u c z x q e)
    .rw [Li.mp z] at q;exact ng q e) (λc p=>v c (KG _ p)) (λS d=>by
   rw [Mb]
   constructor
   .rintro ⟨⟨A,s⟩,C,E⟩
    obtain ⟨i,f,G,H,rfl⟩:=lg.mp E
    obtain ⟨V,rfl,l⟩:=(h A s).mp C
    obtain ⟨w,I,J,L⟩:=iC o H
    refine ⟨w,J,?_⟩
    have M:=DV u I l
    unfold fx at*
    rw [Lq,Lq,M]
    show _++[b[i]?]=_++[some (a.map (a6 w))]
    rw [G,L]
   .rintro ⟨V,rfl,l⟩
    unfold fx at l
    rw [Lq] at l
    obtain ⟨N,y,rfl,O,n⟩:=List.map_eq_append_iff.mp l
    obtain ⟨i,rfl,Q⟩:∃i,y=[i]/\b[i]?=some (a.map (a6 V)):=by
     cases y with
     |nil=>cases n
     |cons i t=>
      have n:b[i]?::t.map (λi=>b[i]?)=[some (a.map (a6 V))]:=n
      obtain ⟨T,U⟩:=N3 n
      have:t=[]:=List.map_eq_nil_iff.mp U
      exact ⟨i,by rw [this],T⟩
    refine ⟨(aq V B,N),(h _ _).mpr ⟨V,rfl,O⟩,lg.mpr ⟨i,_,Q,?_,rfl⟩⟩
    have g:=v a KN
    exact t5 o g.1 g.2) S d
  rw [LK] at k
  exact k
def t8{d:List (List D)}(g:∀a∈d,iR a):(S,f)∈fw c d [([],[])]↔∃V,S=aq V (aW [] d)/\fx c V d f:=by
 refine ye d [] [] [([],[])] (λb i=>nomatch i) (λa j=>nomatch j) g (λS f=>?_) S f
 rw [Li]
 constructor
 .intro e
  obtain ⟨rfl,rfl⟩:=PJ e
  exact ⟨λ_=>.av,rfl,rfl⟩
 .rintro ⟨V,rfl,h⟩
  have:f=[]:=List.map_eq_nil_iff.mp h
  rw [this];rfl
def dR:List Nat->List Nat->Prop
 |a::r,b::t=>a<b\/(a=b/\dR r t)
 |_,_=>False
def zG:∀{p q:List Nat} (s t:List Nat),dR p q->dR (p++s) (q++t)
 |[],_,_,_,h=>h.elim
 |_::_,[],_,_,h=>h.elim
 |a::r,b::u,s,t,h=>by
  rcases h with h|⟨c,d⟩
  .exact .inl h
  .exact .inr ⟨c,zG s t d⟩
def A1:∀(p:List Nat) {i j:Nat},i<j->dR (p++[i]) (p++[j])
 |[],_,_,h=>.inl h
 |_::r,_,_,h=>.inr ⟨rfl,A1 r h⟩
def xb:∀(p:List Nat),¬dR p p
 |[],h=>h
 |a::r,h=>by
  rcases h with h|⟨_,h⟩
  .omega
  .exact xb r h
def zo:∀(l:List a) (k:Nat),(l.zipIdx k).Pairwise λp q=>p.2<q.2
 |[],k=>.nil
 |x::r,k=>by
  rw [OK]
  refine .cons (λq b=>?_) (zo r (k+1))
  have:=List.le_snd_of_mem_zipIdx b
  show k<q.2
  omega
def J4 (b:List (List D))(a:List D)(w:aJ):(ext b a w).Pairwise λx y=>dR x.2 y.2:=by
 unfold ext
 rw [List.pairwise_filterMap]
 refine (zo b 0).imp λ{p q} e x c y d=>?_
 cases f:bw a p.1 w.1 with
 |none=>rw [f] at c;cases c
 |some S=>
  cases g:bw a q.1 w.1 with
  |none=>rw [g] at d;cases d
  |some h=>
   rw [f] at c
   rw [g] at d
   have c:=K8 c
   have d:=K8 d
   rw [<-c,<-d]
   exact A1 _ e
def zM (b:List (List D)):∀(d:List (List D)) (c:List aJ),c.Pairwise (λx y=>dR x.2 y.2)->(fw b d c).Pairwise λx y=>dR x.2 y.2
 |[],_,h=>h
 |a::r,c,h=>by
  refine zM b r _ ?_
  rw [List.pairwise_flatMap]
  refine ⟨λw _=>J4 b a w,h.imp λ{w l} e x g y j=>?_⟩
  obtain ⟨S,m⟩:=x
  obtain ⟨n,k⟩:=y
  obtain ⟨i,f,_,_,rfl⟩:=lg.mp g
  obtain ⟨o,p,_,_,rfl⟩:=lg.mp j
  exact zG _ _ e
def vo  [DecidableEq c]:∀{l m:List c},l.Nodup->(∀x∈l,x∈m)->l.length<=m.length
 |[],m,_,_=>Ll _
 |x::r,m,h,d=>by
  obtain ⟨g,i⟩:=MP.mp h
  have e:=d x KN
  have a:=vo (l:=r) (m:=m.erase x) i (λy f=>by
   have b:y≠x:=λz=>g (z▸f)
   exact (List.mem_erase_of_ne b).mpr (d y (KG _ f)))
  rw [List.length_erase_of_mem e] at a
  have:0<m.length:=List.length_pos_of_mem e
  rw [Lr]
  omega
def DK{f:d->g}{l:List d}(h:l.Nodup)(i:∀x∈l,∀y∈l,f x=f y->x=y):(l.map f).Nodup:=by
 unfold List.Nodup at*
 rw [OL]
 exact h.imp_of_mem λ{a b} j k c e=>c (i a j b k e)
def dE (pool:List D):List Str->List aP->List aP
 |[],ms=>ms
 |b::r,ms=>dE pool r (ms.flatMap λc=>pool.map λt=>c++[(b,t)])
def yv {a:List D}:∀(B:List Str) (done:List Str) (d:List aP),(done++B).Nodup->(∀c,c∈d↔∃V,c=aq V done/\∀b∈done,V b∈a)->∀c,c∈dE a B d↔∃V,c=aq V (done++B)/\∀b∈done++B,V b∈a
 |[],done,d,_,h,c=>by rw [LA];exact h c
 |b::r,done,d,j,h,c=>by
  have k:((done++[b])++r).Nodup:=by rw [LK];exact j
  have l:b∉done:=by
   rw [Nr] at j
   exact λz=>j.2.2 b z b KN rfl
  have f:=yv r (done++[b]) (d.flatMap λc=>a.map λt=>c++[(b,t)]) k (λc=>by
   rw [Mb]
   constructor
   .rintro ⟨m,n,o⟩
    obtain ⟨t,p,rfl⟩:=Lg.mp o
    obtain ⟨V,rfl,i⟩:=(h m).mp n
    refine ⟨λx=>if x=b then t else V x,?_,λx g=>?_⟩
    .unfold aq
     rw [Lq]
     congr 1
     .exact Ly λx g=>by
       have:x≠b:=λz=>l (z▸g)
       simp [this]
     .simp
    .show (if x=b then t else V x)∈a
     by_cases e:x=b
     .rw [K4 e];exact p
     .rw [KS e]
      rcases Ld.mp g with z|z
      .exact i x z
      .exact absurd (Li.mp z) e
   .rintro ⟨V,rfl,i⟩
    refine ⟨aq V done,(h _).mpr ⟨V,rfl,λx g=>i x (K9 _ g)⟩,Lg.mpr ⟨V b,i b (KW _ (Li.mpr rfl)),?_⟩⟩
    unfold aq
    rw [Lq]
    rfl) c
  rw [LK] at f
  exact f
def Hm{B:List Str}(d:B.Nodup):c∈dE a B [[]]↔∃V,c=aq V B/\∀b∈B,V b∈a:=
 yv B [] [[]] d (λc=>by
  rw [Li]
  constructor
  .rintro rfl;exact ⟨λ_=>.av,rfl,λb e=>nomatch e⟩
  .rintro ⟨V,rfl,_⟩;rfl) c
def yK:∀{l:List d} {i j:Nat} {x:d},l.Nodup->l[i]?=some x->l[j]?=some x->i=j
 |[],i,_,_,_,h,_=>by simp at h
 |y::r,0,0,x,_,_,_=>rfl
 |y::r,0,j+1,x,c,a,b=>by
  have a:y=x:=K8 a
  have b:r[j]?=some x:=b
  exact absurd (a▸KU b) (MP.mp c).1
 |y::r,i+1,0,x,c,a,b=>by
  have b:y=x:=K8 b
  have a:r[i]?=some x:=a
  exact absurd (b▸KU a) (MP.mp c).1
 |y::r,i+1,j+1,x,c,a,b=>LL (· +1) (yK (l:=r) (MP.mp c).2 a b)
def Ex{V:Str->D}(h:fx b V c d):∀a∈c,a.map (a6 V)∈b:=by
 intro a f
 have:some (a.map (a6 V))∈d.map (λi=>b[i]?):=by rw [h];exact Lg.mpr ⟨a,f,rfl⟩
 obtain ⟨i,_,e⟩:=Lg.mp this
 exact KU e
end FL
namespace FL
open PySem L2
def w8:∀(l:List D) (B C:List Str),(∀b∈C,b∈B\/b∈C)->ak (B++C.filter (λb=> !decide (b∈B))) l=B++(ak C l).filter (λb=> !decide (b∈B))
 |[],B,C,_=>rfl
 |x::r,B,C,h=>by
  show ak (ce (B++C.filter λb=> !decide (b∈B)) x) r=B++(ak (ce C x) r).filter _
  have e:ce (B++C.filter λb=> !decide (b∈B)) x=B++(ce C x).filter λb=> !decide (b∈B):=by
   unfold ce
   by_cases f:aB x=true
   .by_cases c:x.name∈B
    .rw [KS (by simp [c])]
     by_cases a:x.name∈C
     .rw [KS (by simp [a])]
     .rw [K4 (by simp [a,f]),Me]
      simp [c]
    .by_cases a:x.name∈C
     .rw [KS (by simp [a,c]),KS (by simp [a])]
     .rw [K4 (by simp [a,c,f]),K4 (by simp [a,f]),Me,LK]
      simp [c]
   .have d:aB x=false:=by simpa using f
    rw [KS (by simp [d]),KS (by simp [d])]
  rw [e]
  exact w8 r B (ce C x) λb g=>.inr g
def mn (l:List D)(B:List Str):ak B l=B++(ak [] l).filter (λb=> !decide (b∈B)):=by
 have:=w8 l B [] (λb a=>nomatch a)
 rw [Pe,LA] at this
 exact this
def du (B:List Str)(st:aP):List D:=(st.filter λp=>decide (p.1∈B)).map (·.2)
def restOf (B:List Str)(st:aP):aP:=st.filter λp=> !decide (p.1∈B)
def v9 (U:Str->D)(C:List Str)(p:Str->Bool):(aq U C).filter (λq=>p q.1)=aq U (C.filter p):=by
 unfold aq
 rw [Mv]
 rfl
def EL (U:Str->D)(B C:List Str):aq U (B++C)=aq U B++aq U C:=Lq
def eZ:cp []:=λb a=>nomatch a
def Dx{V:Str->D}(k:cp B)(i:iR a):bw a f (aq V B)=(bw a f []).bind λst=>if du B st=((ak [] a).filter λb=>decide (b∈B)).map V then some (aq V B++restOf B st) else none:=by
 cases e:bw a f [] with
 |none=>
  show _=none
  cases l:bw a f (aq V B) with
  |none=>rfl
  |some S=>
   obtain ⟨g,_,_,rfl⟩:=iC k l
   have:=t5 (V:=g) (B:=[]) eZ i.1 i.2
   rw [show aq g []=[] from rfl,e] at this
   cases this
 |some st=>
  obtain ⟨U,_,rfl,rfl⟩:=iC (V:=λ_=>.av) (B:=[]) eZ e
  show _=if du B (aq U (ak [] a))=_ then some (aq V B++restOf B (aq U (ak [] a))) else none
  have r:du B (aq U (ak [] a))=((ak [] a).filter λb=>decide (b∈B)).map U:=by
   unfold du
   rw [v9 U _ (λb=>decide (b∈B))]
   unfold aq
   rw [LH]
   rfl
  have s:restOf B (aq U (ak [] a))=aq U ((ak [] a).filter λb=> !decide (b∈B)):=v9 U _ (λb=> !decide (b∈B))
  rw [r,s]
  by_cases j:((ak [] a).filter λb=>decide (b∈B)).map U=((ak [] a).filter λb=>decide (b∈B)).map V
  .rw [K4 j]
   have m:∀b∈ak [] a,b∈B->U b=V b:=λb c n=>List.map_inj_left.mp j b (La.mpr ⟨c,Ln n⟩)
   let g:Str->D:=λb=>if b∈B then V b else U b
   have o:a.map (a6 U)=a.map (a6 g):=Ly λx p=>by
    unfold a6
    by_cases e:aB x=true
    .rw [K4 e,K4 e]
     have t:=ng p e (B:=[])
     show U x.name=if x.name∈B then V x.name else U x.name
     by_cases z:x.name∈B
     .rw [K4 z];exact m _ t z
     .rw [KS z]
    .rw [KS e,KS e]
   have u:aq V B=aq g B:=yu λb c=>by show V b=if b∈B then V b else U b;rw [K4 c]
   rw [o,u,t5 k i.1 i.2,mn,EL]
   congr 2
   exact yu λb c=>by
    have:b∉B:=by simpa using (La.mp c).2
    show (if b∈B then V b else U b)=U b
    rw [KS this]
  .rw [KS j]
   cases l:bw a (a.map (a6 U)) (aq V B) with
   |none=>rfl
   |some S=>
    obtain ⟨g,o,_,v⟩:=iC k l
    refine absurd ?_ j
    refine Ly λb c=>?_
    obtain ⟨q,d⟩:=La.mp c
    have d:=Le d
    rcases uN q with z|⟨x,p,h,rfl⟩
    .cases z
    .have:=List.map_inj_left.mp v x p
     unfold a6 at this
     rw [K4 h,K4 h] at this
     rw [this,o _ d]
abbrev dO:=List D×(Nat×aP)
def el (a:List D)(facts:List (List D))(B:List Str):List dO:=facts.zipIdx.filterMap λp=>(bw a p.1 []).map λst=>(du B st,(p.2,restOf B st))
def on (of:List dO)(key:List D)(w:aJ):List aJ:=((of.filter λo=>decide (o.1=key)).map λo=>(w.1++o.2.2,w.2++[o.2.1]))
def uj{V:Str->D}(k:cp B)(m:iR a):on (el a c B) (((ak [] a).filter λb=>decide (b∈B)).map V) (aq V B,d)=ext c a (aq V B,d):=by
 unfold on el ext
 show List.map (λo:dO=>(aq V B++o.2.2,d++[o.2.1])) _=List.filterMap (λ(p:List D×Nat)=>(bw a p.1 (aq V B)).map λS=>(S,d++[p.2])) c.zipIdx
 generalize c.zipIdx=l
 induction l with
 |nil=>rfl
 |cons p r i=>
  have j:=Dx (f:=p.1) (V:=V) k m
  cases e:bw a p.1 [] with
  |none=>
   have g:bw a p.1 (aq V B)=none:=by rw [j,e];rfl
   rw [Ny (f:=λ(p:List D×Nat)=>(bw a p.1 []).map λst=>(du B st,(p.2,restOf B st))) (a:=p) (show Option.map _ (bw a p.1 [])=none by rw [e];rfl),Ny (f:=λ(p:List D×Nat)=>(bw a p.1 (aq V B)).map λS=>(S,d++[p.2])) (a:=p) (show Option.map _ (bw a p.1 (aq V B))=none by rw [g];rfl)]
   exact i
  |some st=>
   rw [OQ (f:=λ(p:List D×Nat)=>(bw a p.1 []).map λst=>(du B st,(p.2,restOf B st))) (a:=p) (b:=(du B st,(p.2,restOf B st))) (show Option.map _ (bw a p.1 [])=_ by rw [e];rfl),Pq]
   by_cases h:du B st=((ak [] a).filter λb=>decide (b∈B)).map V
   .have g:bw a p.1 (aq V B)=some (aq V B++restOf B st):=by rw [j,e];exact K4 h
    rw [OQ (f:=λ(p:List D×Nat)=>(bw a p.1 (aq V B)).map λS=>(S,d++[p.2])) (a:=p) (b:=(aq V B++restOf B st,d++[p.2])) (show Option.map _ (bw a p.1 (aq V B))=_ by rw [g];rfl),K4 (Ln h),LB,i]
   .have g:bw a p.1 (aq V B)=none:=by rw [j,e];exact KS h
    rw [Ny (f:=λ(p:List D×Nat)=>(bw a p.1 (aq V B)).map λS=>(S,d++[p.2])) (a:=p) (show Option.map _ (bw a p.1 (aq V B))=none by rw [g];rfl),KS (by simpa using h),i]
structure i6 where
 atom:List D
 ok:aP->Bool
def np (facts:List (List D))(s:i6)(w:aJ):List aJ:=(ext facts s.atom w).filter λw=>s.ok w.1
def fo (facts:List (List D)):List i6->List aJ->List aJ
 |[],ws=>ws
 |s::r,ws=>fo facts r (ws.flatMap (np facts s))
def zW (b:List (List D)):∀(c:List (List D)),fw b c []=[]
 |[]=>rfl
 |a::r=>zW b r
def yk (b:List (List D)):∀(e:List i6) (c d:List aJ),fo b e (c++d)=fo b e c++fo b e d
 |[],_,_=>rfl
 |a::r,c,d=>by
  show fo b r ((c++d).flatMap _)=fo b r (c.flatMap _)++fo b r (d.flatMap _)
  rw [NQ,yk b r]
def xn (b:List (List D)):∀(c:List i6),fo b c []=[]
 |[]=>rfl
 |a::r=>xn b r
def xr (a:List (List D))(b:List i6):∀c:List aJ,fo a b c=c.flatMap λw=>fo a b [w]
 |[]=>xn a b
 |w::r=>by
  have:fo a b (w::r)=fo a b [w]++fo a b r:=yk a b [w] r
  rw [this,xr a b r]
  rfl
def zN (c:List (List D))(p:aP->Bool):∀(z:List (List D)) (B:List Str) (j:List aJ),cp B->(∀V g:Str->D,∀C,cp (B++C)->(∀b∈B,g b=V b)->p (aq g (B++C))=p (aq V B))->(∀w∈j,∃V,w.1=aq V B)->fw c z (j.filter λw=>p w.1)=(fw c z j).filter λw=>p w.1
 |[],_,j,_,_,_=>rfl
 |a::r,B,j,n,s,o=>by
  show fw c r ((j.filter _).flatMap (ext c a))=(fw c r (j.flatMap (ext c a))).filter _
  have d:∀w∈j,∀x∈ext c a w,∃V g,w.1=aq V B/\x.1=aq g (ak B a)/\∀b∈B,g b=V b:=λw l x k=>by
   obtain ⟨V,e⟩:=o w l
   obtain ⟨S,L⟩:=x
   obtain ⟨i,f,_,A,_⟩:=lg.mp k
   rw [e] at A
   obtain ⟨g,E,G,_⟩:=iC n A
   exact ⟨V,g,e,G,E⟩
  have H:(j.filter λw=>p w.1).flatMap (ext c a)=(j.flatMap (ext c a)).filter λw=>p w.1:=by
   clear o
   revert d
   induction j with
   |nil=>exact λ_=>rfl
   |cons w t u=>
    intro d
    have u:=u (λw o=>d w (KG _ o))
    rw [MA,Me,<-u,Pq]
    have m:∀x∈ext c a w,p x.1=p w.1:=λx k=>by
     obtain ⟨V,g,e,I,h⟩:=d w KN x k
     rw [e,I,mn]
     exact s V g _ (by rw [<-mn];exact iE n) h
    by_cases q:p w.1=true
    .rw [K4 q,MA]
     congr 1
     exact (LZ.mpr λx k=>by rw [m x k];exact q).symm
    .rw [KS q]
     have:(ext c a w).filter (λw=>p w.1)=[]:=O7.mpr λx k=>by rw [m x k];exact q
     rw [this,Na]
  rw [H]
  refine zN c p r (ak B a) _ (iE n) (λV g C v h=>?_) (λx k=>?_)
  .have y:cp (B++(ak [] a).filter λb=> !decide (b∈B)):=by rw [<-mn];exact iE n
   rw [mn] at h v⊢
   rw [LK] at v⊢
   rw [s V g _ v λb J=>h b (K9 _ J),s V V _ y λb _=>rfl]
  .obtain ⟨w,l,k⟩:=Mb.mp k
   obtain ⟨V,g,_,e,_⟩:=d w l x k
   exact ⟨g,e⟩
def AA (a:List (List D)):∀(d:List i6) (B:List Str) (c:List aJ),cp B->(∀w∈c,∃V,w.1=aq V B)->
  (∀(i:Nat) (s:i6),d[i]?=some s->∀V g:Str->D,∀C,cp (aW B ((d.take (i+1)).map (·.atom))++C)->(∀b∈aW B ((d.take (i+1)).map (·.atom)),g b=V b)->s.ok (aq g (aW B ((d.take (i+1)).map (·.atom))++C))=s.ok (aq V (aW B ((d.take (i+1)).map (·.atom)))))->
  fo a d c=(fw a (d.map (·.atom)) c).filter λw=>d.all λs=>s.ok w.1
 |[],_,c,_,_,_=>by
  show c=c.filter λw=>true
  exact (LZ.mpr λ_ _=>rfl).symm
 |s::r,B,c,j,p,n=>by
  show fo a r (c.flatMap (np a s))=(fw a (r.map (·.atom)) (c.flatMap (ext a s.atom))).filter λw=>s.ok w.1&&r.all λs=>s.ok w.1
  have q:c.flatMap (np a s)=(c.flatMap (ext a s.atom)).filter λw=>s.ok w.1:=by
   rw [List.filter_flatMap]
   rfl
  have h:∀x∈c.flatMap (ext a s.atom),∃V,x.1=aq V (ak B s.atom):=λx h=>by
   obtain ⟨w,k,h⟩:=Mb.mp h
   obtain ⟨V,e⟩:=p w k
   obtain ⟨S,y⟩:=x
   obtain ⟨i,f,_,o,_⟩:=lg.mp h
   rw [e] at o
   obtain ⟨g,z,u,_⟩:=iC j o
   exact ⟨g,u⟩
  have l:=n 0 s rfl
  have l:∀V g:Str->D,∀C,cp (ak B s.atom++C)->(∀b∈ak B s.atom,g b=V b)->s.ok (aq g (ak B s.atom++C))=s.ok (aq V (ak B s.atom)):=l
  rw [q,AA a r (ak B s.atom) _ (iE j) (λx m=>h x (La.mp m).1) (λi t v=>n (i+1) t v),zN a s.ok _ (ak B s.atom) _ (iE j) l h,List.filter_filter]
  exact MO λw _=>Bool.and_comm _ _
end FL
namespace FL
open PySem L2
def lO:D->Prop
 |.str s=>s.length<=sizeLine/\∃c r,s.cps.toList=c::r
 |_=>True
def tZ:List D->D->Prop:=λds d=>∃x,ds=[x]/\lO x/\d=.bl (aB x)
def GZ{s:Str}(h:s.cps.toList=c::r):s.cps.getD 0 0=c:=by
 have:s.cps.getD 0 0=s.cps.toList.getD 0 0:=by simp
 rw [this,h];rfl
def nJ:Option aP->D
 |some F=>.lst (pairD F)
 |none=>.av
def xy:List D->D->Prop:=λds d=>∃A Fc ps,ds=[.tup A,.tup Fc,.lst (pairD ps)]/\(∀x∈A,x.sc=true/\lO x)/\(∀y∈Fc,y.sc=true)/\(∀p∈ps,p.2.sc=true)/\A.length<=100/\ps.length<=100/\A≠[]/\Fc≠[]/\d=nJ (bw A Fc ps)
def JA{j:Nat}(h:(lp A a)[j]?=some d):∃x y,A[j]?=some x/\a[j]?=some y/\d=.tup [x,y]/\(A.zip a).drop j=(x,y)::(A.zip a).drop (j+1):=by
 unfold lp at h
 rw [NW] at h
 cases b:A[j]? with
 |none=>rw [b] at h;cases h
 |some x=>
  cases c:a[j]? with
  |none=>rw [b,c] at h;cases h
  |some y=>
   rw [b,c] at h
   refine ⟨x,y,rfl,rfl,(K8 h).symm,?_⟩
   have e:(A.zip a)[j]?=some (x,y):=by
    show (List.zipWith Prod.mk A a)[j]?=_
    rw [NW,b,c]
   obtain ⟨f,g⟩:=KJ.mp e
   rw [MI f,g]
structure eV (A:List D):Prop where
 sc:∀x∈A,x.sc=true/\lO x
 ne:A≠[]
 len:A.length<=100
def aN (A:List D):Bool:=decide (A.headD .av=.str "less")||decide (A.headD .av=.str "unlike")
def vW:List D->D->Prop:=λds d=>∃A,ds=[.tup A]/\eV A/\d=.bl (aN A)
def fU (B:List Str):D:=.lst (B.map D.str)
def o0:List D->D->Prop:=λds d=>∃A,ds=[.tup A]/\eV A/\d=fU (ak [] A)
def holdsD (r:Str)(a b:D):Bool:=if r="unlike" then !decide (a=b) else match a,b with
 |.int i,.int j=>decide (i<j)
 |_,_=>false
def holdsA:List D->Bool
 |[.str r,a,b]=>holdsD r a b
 |_=>false
def qF:List D->D->Prop:=λds d=>∃r a b,ds=[.tup [.str r,a,b]]/\a.sc=true/\b.sc=true/\d=.bl (holdsD r a b)
def c8 (as:List (List D)):D:=.tup (as.map D.tup)
def cv (as:List (List D)):D:=.lst (as.map D.tup)
def xo:List D->D->Prop:=λds d=>∃as,ds=[c8 as]/\(∀a∈as,eV a)/\as.length<=100/\d=cv (as.filter λa=> !aN a)
def qT:List D->D->Prop:=λds d=>∃as,ds=[c8 as]/\(∀a∈as,eV a)/\as.length<=100/\d=cv (as.filter aN)
def pW:List D->D->Prop:=λds d=>∃l ps,ds=[.tup l,.lst (pairD ps)]/\(∀x∈l,x.sc=true)/\(∀p∈ps,p.2.sc=true)/\l.length<=1000/\d=.tup (l.map (bY ps))
def gt (B:List Str):List (aG×V):=B.map λb=>(Sum.inr b,V.bl true)
def DR (B:List Str)(n:Str):bX (gt B) (Sum.inr n) (V.bl true)=gt (if n∈B then B else B++[n]):=by
 have a:∀B:List Str,((gt B).any λc=>decide (c.1=(Sum.inr n:aG)))=decide (n∈B):=by
  intro B
  induction B with
  |nil=>rfl
  |cons b r d=>
   show (decide ((Sum.inr b:aG)=Sum.inr n)||(gt r).any λc=>decide (c.1=(Sum.inr n:aG)))=_
   rw [d]
   have:decide ((Sum.inr b:aG)=Sum.inr n)=decide (b=n):=by simp
   rw [this]
   by_cases e:b=n
   .simp [e]
   .have f:¬n=b:=λz=>e z.symm
    simp [e,f]
 unfold bX
 rw [a B]
 by_cases e:n∈B
 .rw [Ln e,K4 rfl,K4 e]
  unfold gt
  rw [LH]
  refine Ly λb _=>?_
  show (if (Sum.inr b:aG)=Sum.inr n then ((Sum.inr b:aG),V.bl true) else (Sum.inr b,V.bl true))=(Sum.inr b,V.bl true)
  split<;>rfl
 .rw [Lp e,KS K0,KS e]
  unfold gt
  rw [Lq]
  rfl
def Ia(h:aB x=true):ce B x=if x.name∈B then B else B++[x.name]:=by
 unfold ce
 by_cases e:x.name∈B
 .rw [KS (by simp [e]),K4 e]
 .rw [K4 (by simp [e,h]),KS e]
def vE(h:aB x=false):ce B x=B:=by unfold ce;rw [KS (by simp [h])]
def zX {l:List D}{j:Nat}{x:D}(h:l[j]?=some x):ak [] (l.take (j+1))=ce (ak [] (l.take j)) x:=by
 unfold ak
 rw [LG,h,Mq]
 rfl
def kW (l:List D):∀B:List Str,(ak B l).length<=B.length+l.length:=by
 induction l with
 |nil=>intro B;exact KR _
 |cons x r a=>
  intro B
  have b:=a (ce B x)
  have c:(ce B x).length<=B.length+1:=by
   unfold ce
   split
   .rw [Lh];exact KR _
   .omega
  show (ak (ce B x) r).length<=_
  rw [Lr]
  omega
section
variable {σ:St}{δ:Dn}{M:List Addr}{H:Hp}{ty tz:TE}{E:Ends}{K:PySem.W.Frag}
theorem B7 {i:Nat}(l:au M H)(hE:aA (but H M) σ δ)(hi:i<δ.length)
  (q:∀p σ' H',(∀j:Nat,j≠i->σ'[j]?=σ[j]?)->σ'[i]?=some (some (.ref p))->p∉M->H' p=some (.dK [])->au (p::M) H'->(∀b o,H b=some o->b≠p/\H' b=some o)->aA (but H' (p::M)) σ' (δ.set i none)->E.nx σ' H'):dW vH (ci i) E σ H:=fun p hp=>by
 have hl:=hE.len
 refine q p _ _ (fun j hj=>getElem?_set_ne (Ne.symm hj)) (getElem?_set_self (by omega)) (l.fresh hp) aK (l.upd.cons aK) (fun b o e=>?_) (uq hE hp)
 have nb:b≠p:=de e hp
 exact ⟨nb,by rw [aC nb];exact e⟩
theorem Jx {i:Nat}{p:Addr}{B:List Str}{n:Str}(l:au M H)(hE:aA (but H M) σ δ)(hpM:p∈M)(e:σ[i]?=some (some (.ref p)))(hp:H p=some (.dK (gt B)))(hz:B.length<1000)(h:ae ty (but H M) σ (.str n))(h2:ae tz (but H M) σ (.bl true))
  (k:∀H',(∀b o,b≠p->H b=some o->H' b=some o)->au M H'->H' p=some (.dK (gt (if n∈B then B else B++[n])))->aA (but H' M) σ δ->E.nx σ H'):pz (aR i) ty tz E σ H:=by
 refine h2 M H (ab.refl _) l _ fun v H1 s1 rv=>⟨.ref p,e,h M H1 (s1.but M) (l.same s1) _ fun u H2 s2 ru=>?_⟩
 have hp2:=s2 _ _ (s1 _ _ hp)
 have eu:=(fQ (d:=.str n) rfl ru).2
 have ev:=rv.ia
 have hlen:(gt B).length<sizeLine:=by unfold gt;rw [length_map];exact cr (by omega)
 refine ⟨p,_,rfl,by rw [eu];exact f6.k (k:=Sum.inr n) hp2 hlen,?_⟩
 have eb:but (upd H2 p (.dK (bX (gt B) (Sum.inr n) v))) M=but H2 M:=dH hpM
 refine k _ (fun b o hb q=>by rw [aC hb];exact s2 _ _ (s1 _ _ q)) (l.same (s1.trans s2)).upd ?_ ?_
 ·rw [aK,ev,DR]
 ·rw [eb];exact hE.same (s1.trans s2)
end
def AO:∀(B:List Str),aD H (B.map V.str) (B.map D.str)
 |[]=>.nil
 |b::r=>.cons (.str b) (AO r)
end FL
namespace FL
open PySem L2
section
variable {X:Cx}{x:Str}{e a b tg iter:Expr}{te ta tb:TE}{pos pos':Pos}{op:CmpOp}{r:R2}{wi:TI}{g:TG}{ts:TS}{body:List Stmt}
def bp (i:Nat)(c:X.N.Nodup)(d:X.N[i]?=some x:=by rfl)(f:Loc X.env.scope x:=by first|exact Or.inl rfl|exact Or.inr rfl)(h:X.fn x=true\/X.env.scope.names.lookup x=some .local:=by first|exact .inl rfl|exact .inr rfl|assumption):PG X (.Name x pos) (ci i):=FS c d f h
def bg (i:Nat)(c:X.N.Nodup)(d:PE X e te)(f:X.N[i]?=some x:=by rfl)(h:Loc X.env.scope x:=by first|exact Or.inl rfl|exact Or.inr rfl)(j:swapsWith e (some (.Name x pos')) pos.line X.env=pure false:=by rfl)(k:X.fn x=true\/X.env.scope.names.lookup x=some .local:=by first|exact .inl rfl|exact .inr rfl|assumption):
  PS X (.Assign [.Name x pos'] e pos) (dW te (ci i)):=Av c f h d j k
def iL (c:cD X (compareOp op) r)(d:PE X a ta)(f:PE X b tb)(h:behindInMarks op b=false:=by first|exact xj _|rfl):PE X (.Compare a [op] [b] pos) (bz r ta tb):=JU c d f h
def bK (c:cD X (compareOp op) r)(d:PE X a ta)(f:PE X b tb)(h:behindInMarks op b=false:=by first|exact xj _|rfl):PT X (.Compare a [op] [b] pos) (m4 (bz r ta tb)):=HS c d f h
end
def jU (x:Str):[x].Nodup:=by simp
end FL
namespace a8
open PySem L2 FL
def cf (i:Nat):Stmt:=PySem.Challenge.pw_factloom_k06_one_round.main.body.getD i (.Pass ⟨0,0,0,0⟩)
abbrev sD:Stmt:=cf 3
abbrev qN:Stmt:=cf 4
abbrev sE:Stmt:=cf 5
abbrev rM:Stmt:=cf 6
abbrev sS:Stmt:=cf 7
abbrev s_holds:Stmt:=cf 8
abbrev qa:Stmt:=cf 10
abbrev qQ:Stmt:=cf 11
abbrev rV:Stmt:=cf 13
abbrev qM:Stmt:=cf 14
abbrev sU:Stmt:=cf 15
abbrev qy:Stmt:=cf 19
abbrev qY:Stmt:=cf 21
abbrev rX:Stmt:=cf 22
abbrev sx:Stmt:=cf 23
abbrev sn:Stmt:=cf 24
abbrev sF:Stmt:=cf 25
abbrev rL:Stmt:=cf 26
abbrev qZ:Stmt:=cf 27
abbrev sZ:Stmt:=cf 28
abbrev sN:Stmt:=cf 29
abbrev rP:Stmt:=cf 30
abbrev rH:Stmt:=cf 31
abbrev sI:Stmt:=cf 32
abbrev sV:Stmt:=cf 33
abbrev qO:Stmt:=cf 34
abbrev sJ:Stmt:=cf 35
abbrev sM:Stmt:=cf 36
abbrev rK:Stmt:=cf 37
abbrev lS:Stmt:=cf 38
def hU:Stmt->Nat->Stmt
 |.ClassDef (body:=b) ..,j=>b.getD j (.Pass ⟨0,0,0,0⟩)
 |s,_=>s
abbrev mG:Stmt:=hU (cf 12) 0
abbrev mj:Stmt:=hU (cf 12) 1
abbrev mJ:Stmt:=hU (cf 12) 2
abbrev mH:Stmt:=hU (cf 12) 3
abbrev mT:Stmt:=hU (cf 16) 0
abbrev lR:Stmt:=hU (cf 16) 1
abbrev mS:Stmt:=hU (cf 16) 2
abbrev lT:Stmt:=hU (cf 16) 3
abbrev lM:Stmt:=hU (cf 16) 4
abbrev md:Stmt:=hU (cf 18) 0
abbrev lN:Stmt:=hU (cf 18) 1
abbrev mE:Stmt:=hU (cf 18) 2
section
variable {P:Program}{w:World}{K:PySem.W.Frag}{mg:Str->Option Value}{base:Heap}{f:Addr}{fd:FuncData}
def GH:b9 ["part"] ["part"] (be sD):=⟨rfl,rfl,rfl,Z9,rfl,Z9,Z9⟩
def Hc (F:aH K "is_blank" "is_blank" sD f fd)(B:Bl mg):bq P w K mg base bI 1 f fd ["part"] (bJ tZ):=by
 refine F.ok GH (fg (n:=1) λi d ⟨x,e,_⟩=>by rw [e];rfl) (λj A g s H o Q E p h=>?_)
 obtain ⟨M,i,d,a,k,⟨x,rfl,l,rfl⟩,q⟩:=h
 refine ⟨_,(ay (bd (nY (ee B (pv 0) B.str MH) (pF (Ik (aT (pv 0) aE)))))),?_⟩
 have E0:=gZ k ["part"]
 cases x with
 |str s=>
  obtain ⟨m,c,r,e⟩:=l
  exact eG a ((fD (b:=true) (iK (d:=.str s) (aI E0 rfl)) λ_=>CS (Ef m (c:=c) (by rw [e];exact ge) (aI E0 rfl) ar)).eq (by show D.bl (true&&_)=D.bl (Txt.isupper _);rw [GZ e,N4])) q
 |av=>exact eG a (fD (b:=false) (c:=false) (iK (d:=.av) (aI E0 rfl)) λz=>nomatch z) q
 |bl b=>exact eG a (fD (b:=false) (c:=false) (iK (d:=.bl b) (aI E0 rfl)) λz=>nomatch z) q
 |int b=>exact eG a (fD (b:=false) (c:=false) (iK (d:=.int b) (aI E0 rfl)) λz=>nomatch z) q
 |tup b=>exact eG a (fD (b:=false) (c:=false) (iK (d:=.tup b) (aI E0 rfl)) λz=>nomatch z) q
 |lst b=>exact eG a (fD (b:=false) (c:=false) (iK (d:=.lst b) (aI E0 rfl)) λz=>nomatch z) q
def zp:b9 ["atom","setting","things"] ["atom","setting"] (be rM):=⟨rfl,rfl,rfl,Z9,rfl,Z9,Z9⟩
def C9 (F:aH K "filled" "filled" rM f fd)(B:Bl mg):bq P w K mg base bI 1 f fd ["atom","setting"] (bJ pW):=by
 refine F.ok zp (fg (n:=2) λz d ⟨l,b,e,_⟩=>by rw [e];rfl) (λC A c s H G Q E t h=>?_)
 obtain ⟨M,z,d,u,I,⟨l,b,rfl,J,x,L,rfl⟩,q⟩:=h
 have hu:=eD t
 have g:=fO t
 refine ⟨_,(az (bg 2 zp.nd (wD B (pv 1)))
   (ay (bd (sk B (fC ["things","part"] [2] 1 (cF (pv 0)) (λ_ _ _ _ _=>(bp 1 (show (["things","part"]:List Str).Nodup from by decide+kernel))) (λ_ _ _ _ _=>jm) (λ_ _ _ _ _=>(tL g (pv 0) (pv 1) (pv 1) ⟨rfl,rfl,rfl,rfl⟩))))))),?_⟩
 have E0:=gZ I ["atom","setting","things"]
 obtain ⟨v,N,O⟩:=E0.get 1 _ rfl
 obtain ⟨a,T,rfl,U,Y⟩:=O.eA
 refine ⟨.ref a,N,a,T,bA b,rfl,aO.of (ax U).2,sY x Y,λp y=>?_⟩
 have j:=cG y (.dK (bT [] (bA b)))
 have k:=u.fresh y
 have E1:=(E0.same j).off 2 (some (.ref p))
 have m:but (upd H p (.dK (bT [] (bA b)))) M p=some (.dK (bT [] (bA b))):=by rw [bh k];exact aK
 have o:((L2.start ["atom","setting","things"] G).set 2 (some (V.ref p)))[2]?=some (some (.ref p)):=K6 (by rw [E0.len];show 2<3;decide)
 refine eG (u.same j) (rm (aa ((gf (i:=1) (p:=λ_=>true) (f:=bY b) (gO (aI E1 rfl)) (λG' v d _ _ _=>jG) (λG' v d sG hd _ r=>BU (a:=p) ?_ (sG _ _ m) (J d hd) x (cE ?_ r)) (cr L)).eq ?_) ag)) λv H2 s2 r2=>q v H2 (j.trans s2) r2
 .simp [aX,o]
 .simp [aX]
 .rw [LZ.mpr λ_ _=>rfl]
def oG:b9 ["atom","fact","setting","things","further","part","thing"] ["atom","fact","setting"] (be sS):=⟨rfl,rfl,rfl,Z9,rfl,Z9,Z9⟩
def I0 (F:aH K "matched" "matched" sS f fd)(B:Bl mg)(l:a5 P w K mg base 1 "is_blank" ["part"] (bJ tZ)):bq P w K mg base bI 2 f fd ["atom","fact","setting"] (bJ xy):=by
 refine F.ok oG (fg (n:=3) λds d ⟨_,_,_,e,_⟩=>by rw [e];rfl) (λcl A bc s H vs Q E hr h=>?_)
 obtain ⟨M,ds,d,lv,rs,⟨At,Fc,u,rfl,hA,ac,ao,bi,co,nA,nF,rfl⟩,q⟩:=h
 have hu:=eD hr
 have af:=fO hr
 refine ⟨_,(az (bB (eM (bK (eo (by exact hu)) (aT (pv 0) aE) (aT (pv 1) aE)) (fS (bK (eo (by exact hu)) (cg B (pv 0)) (cg B (pv 1))))).pt (ay (bd pb)) bS)
   (az (bg 3 oG.nd (wD B (pv 2)))
   (az (bg 4 oG.nd (nC B (pv 2)))
   (az (dh Lj rfl (Kx B.zip (ah (pv 0) (ah (pv 1) ap))) (kn rfl (eY (bp 5 oG.nd) (eY (bp 6 oG.nd) iQ))) (ay (bB (iI (cu (bQ l hr (ah (pv 5) ap))) (iM (iu (pE (by exact af) (pv 5) (pv 3))))).pt (az (ly af (pv 3) (pv 5) (pv 6) rfl)
   (ay (jx (pv 4) (dy (ah (pv 5) (ah (pv 6) ap)))))) (ay (bB (bK (eo (by exact hu)) (tL af (pv 3) (pv 5) (pv 5) ⟨rfl,rfl,rfl,rfl⟩) (pv 6)) (ay (bd pb)) bS)))))
   (ay (bd (pv 4))))))),?_⟩
 have E0:=gZ rs ["atom","fact","setting","things","further","part","thing"]
 obtain ⟨N,A',rfl⟩:=Nn nA
 obtain ⟨O,F',rfl⟩:=Nn nF
 have as:=eT (hA N KN).1 (ac O KN)
 refine gX lv E0 (eJ (bN (jP as.1 as.2 (bV (d:=N) ge (aI E0 rfl) ar) (bV (d:=O) ge (aI E0 rfl) ar))) λ_=>bN (im (gR (aa (aI E0 rfl) ag)) (gR (aa (aI E0 rfl) ag)))) (λe H1 s1 l1 E1=>?_) (λe H1 s1 l1 E1=>nx ?_)
 .have hm:nJ (bw (N::A') (O::F') u)=.av:=by
   unfold bw
   rw [KS]
   rfl
   rintro ⟨z1,z2⟩
   have z1:N=O:=z1
   rw [z2,z1] at e
   simp at e
  rw [hm] at q
  exact q .av H1 s1 .av
 have v:N=O/\(N::A').length=(O::F').length:=by
  rw [Nl] at e
  refine ⟨by simpa using e.1,?_⟩
  have:=e.2
  simp only [Bool.not_eq_false',OJ] at this
  exact Int.ofNat.inj this
 have hm:nJ (bw (N::A') (O::F') u)=nJ (fE u ((N::A').zip (O::F'))):=by
  unfold bw
  rw [K4]
  exact v
 rw [hm] at q
 have C:=v.2
 generalize N::A'=m at hA bi q C E1
 generalize O::F'=r at ac q C E1
 refine Ie (i:=3) (k:=2) l1 E1 Z8 rfl ao λp cs H2 o2 i2 n2 h2 l2 k2 E2=>?_
 refine CY (i:=4) (k:=2) l2 E2 Z8 rfl λa bk bl H3 o3 i3 n3 h3 r3 l3 k3 E3=>?_
 have bs:bl[3]?=some (some (.ref p)):=(o3 3 Z5).trans i2
 obtain ⟨a0,bt⟩:=k3 _ _ h2
 have a1:ab H H2:=s1.trans λb o e=>(k2 b o e).2
 have bx:ab H H3:=a1.trans λb o e=>(k3 b o e).2
 have b0:H p=none:=none_of s1 k2
 have b6:H a=none:=none_of a1 k3
 refine jA (M:=a::p::M) (ds:=lp m r) (GF C (aa (aI E3 rfl) (aa (aI E3 rfl) ag))) l3 λH4 s4=>?_
 refine ⟨λj g G=>∃Fr ws,fE u (m.zip r)=fE Fr ((m.zip r).drop j)/\(∀t∈Fr,t.2.sc=true)/\Fr.length<=u.length+j/\g[3]?=some (some (.ref p))/\g[4]?=some (some (.ref a))/\G p=some (.dK (bT [] (bA Fr)))/\G a=some (.lst ws)/\aD (but G (a::p::M)) ws (pairD Fr)/\ab H G/\au (a::p::M) G/\ab (but H4 (a::p::M)) (but G (a::p::M))/\aA (but G (a::p::M)) g [some (.tup m),some (.tup r),some (.lst (pairD u)),none,none,none,none],
  ⟨u,bk,rfl,ao,by omega,bs,i3,s4 _ _ bt,s4 _ _ h3,r3.mono (s4.but _),bx.trans s4,l3.same s4,ab.refl _,E3.same s4⟩,λj g G ⟨_,_,_,_,_,_,_,_,_,_,_,x,y,_⟩=>⟨y,x⟩,?_,?_⟩
 .rintro j d x g G b7 hd ⟨Fr,ws,c,cq,b8,j3,j4,hp,ha,ra,S0,l',S',E'⟩ L rx
  obtain ⟨x1,Y,ex,ey,rfl,aj⟩:=JA hd
  have am:=hA x1 (KU ex)
  have an:=ac Y (KU ey)
  have hj:j<m.length:=(KJ.mp ex).1
  refine nH rx λv1 v2 r1 r2=>?_
  have E5:aA (but b7 (a::p::M)) ((g.set 5 (some v1)).set 6 (some v2)) [some (.tup m),some (.tup r),some (.lst (pairD u)),none,none,some x1,some Y]:=((E'.same L).set 5 r1).set 6 r2
  have l5:=l'.same L
  have b3:((g.set 5 (some v1)).set 6 (some v2))[3]?=some (some (.ref p)):=by rw [KQ Z5,KQ Z5];exact j3
  have b4:((g.set 5 (some v1)).set 6 (some v2))[4]?=some (some (.ref a)):=by rw [KQ Z5,KQ Z5];exact j4
  have T:=L _ _ hp
  have a2:=L _ _ ha
  have a3:=ra.mono (L.but (a::p::M))
  rw [aj] at c
  refine zx l5 E5 (Jq (TV.of l5 (cm (cb ⟨x1,rfl,am.2,rfl⟩ (aa (aI E5 rfl) ag)))) λ_=>Gc b3 T am.1 l5 (aI E5 rfl)) (λe H6 U l6 E6=>?_) (λe H6 U l6 E6=>?_)
  .obtain ⟨n,rfl⟩:∃n,x1=.str n:=by
    cases x1 with
    |str n=>exact ⟨n,rfl⟩
    |_=>simp [aB] at e
   have I:fE u (m.zip r)=fE (Fr++[(n,Y)]) ((m.zip r).drop (j+1)):=by
    rw [c]
    show (fR Fr (.str n) Y).bind _=_
    unfold fR
    rw [K4 e]
    rfl
   refine ze (n:=n) (y:=Y) l6 E6 Z8 b3 (U _ _ T) an Z6 (aI E6 rfl) (aI E6 rfl) λH7 k7 l7 h7 E7=>?_
   have a4:ab (but H6 (a::p::M)) (but H7 (a::p::M)):=nD Z8 k7
   refine wG l7 E7 (a:=a) Z8 b4 (k7 _ _ (LN a0) (U _ _ a2)) (a3.mono ((U.but _).trans a4)) (by simp only [pairD,KP];exact cr Z6) (aM (aa (aI E7 rfl) (aa (aI E7 rfl) ag))) λv8 H8 k8 l8 h8 r8 E8=>?_
   have cd:ab (but H7 (a::p::M)) (but H8 (a::p::M)):=nD Z8 k8
   exact ⟨Fr++[(n,Y)],_,I,vk cq an,by rw [Lh,Mi];omega,b3,b4,k8 _ _ a0 h7,h8,by rw [FE];exact r8,nE (nE (S0.trans (L.trans U)) b0 k7) b6 k8,l8,S'.trans (((L.trans U).but _).trans (a4.trans cd)),(E8.drop 5).drop 6⟩
  .refine zx l6 E6 (JW b3 (U _ _ T) am.1 an cq l6 (aI E6 rfl) (aI E6 rfl)) (λe2 H7 s7 l7 E7=>?_) (λe2 H7 s7 l7 E7=>nx ?_)
   .have I:fE u (m.zip r)=none:=by
     rw [c]
     show (fR Fr x1 Y).bind _=_
     unfold fR
     rw [e,KS K0,KS (by simpa using e2)]
     rfl
    rw [I] at q
    exact q .av H7 (S0.trans (L.trans (U.trans s7))) .av
   .have I:fE u (m.zip r)=fE Fr ((m.zip r).drop (j+1)):=by
     rw [c]
     show (fR Fr x1 Y).bind _=_
     unfold fR
     rw [e,KS K0,K4 (by simpa using e2)]
     rfl
    have J:=U.trans s7
    exact ⟨Fr,ws,I,cq,by omega,b3,b4,J _ _ T,J _ _ a2,a3.mono (J.but _),S0.trans (L.trans J),l7,S'.trans ((L.trans J).but _),(E7.drop 5).drop 6⟩
 .rintro g G ⟨Fr,ws,c,cq,b8,j3,j4,hp,ha,ra,S0,l',S',E'⟩
  have kC:(m.zip r).drop (lp m r).length=[]:=NR (by simp [lp])
  rw [kC] at c
  rw [c] at q
  refine ⟨.ref a,j4,q (.ref a) G S0 ?_⟩
  have ch:a∉M:=λz=>n3 (KG _ z)
  exact mf ch ha (ra.mono (d6 λb hb=>by
   rcases KY.mp hb with rfl|hb
   .exact KN
   .exact KG _ (KG _ hb)))
def G2:b9 ["atom"] ["atom"] (be qN):=⟨rfl,rfl,rfl,Z9,rfl,Z9,Z9⟩
def JQ(F:aH K "is_guard" "is_guard" qN f fd)(B:Bl mg)(g:mg "LESS"=some k/\RelV (.str "less") k)(c:mg "UNLIKE"=some l/\RelV (.str "unlike") l):bq P w K mg base bI 1 f fd ["atom"] (bJ vW):=by
 refine F.ok G2 (fg (n:=1) λu d ⟨x,e,_⟩=>by rw [e];rfl) (λv A j s H G Q E y h=>?_)
 obtain ⟨M,u,d,z,C,⟨I,rfl,m,rfl⟩,q⟩:=h
 have o:=eD y
 refine ⟨_,(ay (bd (J8 (iL (fG (by exact o)) (aT (pv 0) aE) (vB rfl g.1 g.2)) (pF (iL (fG (by exact o)) (aT (pv 0) aE) (vB rfl c.1 c.2)))))),?_⟩
 have E0:=gZ C ["atom"]
 obtain ⟨i,J,rfl⟩:=Nn m.ne
 have p:=(m.sc i KN).1
 have r:=eT (a:=i) (b:=.str "less") p rfl
 have t:=eT (a:=i) (b:=.str "unlike") p rfl
 exact eG z (IA (jD r.1 r.2 (bV (d:=i) ge (aI E0 rfl) ar) aF) λ_=>jD t.1 t.2 (bV (d:=i) ge (aI E0 rfl) ar) aF) q
def wQ:b9 ["atom","found","part"] ["atom"] (be sE):=⟨rfl,rfl,rfl,Z9,rfl,Z9,Z9⟩
def C7 (F:aH K "blanks_in" "blanks_in" sE f fd)(B:Bl mg)(c:a5 P w K mg base 1 "is_blank" ["part"] (bJ tZ)):bq P w K mg base bI 2 f fd ["atom"] (bJ o0):=by
 refine F.ok wQ (fg (n:=1) λds d ⟨x,e,_⟩=>by rw [e];rfl) (λaj A I s H vs Q E J h=>?_)
 obtain ⟨M,ds,d,lv,rs,⟨k,rfl,hA,rfl⟩,q⟩:=h
 have hu:=eD J
 have L:=fO J
 refine ⟨_,(az (bg 1 wQ.nd so)
   (az (dh Lj rfl (cF (pv 0)) (bp 2 wQ.nd) (ay (bB (cu (bQ c J (ah (pv 2) ap))) (ay (ly L (pv 1) (pv 2) cA rfl)) bS)))
   (ay (bd (Ej B (pv 1)))))),?_⟩
 have E0:=gZ rs ["atom","found","part"]
 refine B7 (i:=1) lv E0 Z8 λp am H1 o1 i1 n1 h1 l1 k1 E1=>?_
 have N:ab H H1:=λb o e=>(k1 b o e).2
 have O:H p=none:=none_of (ab.refl H) k1
 refine jA (M:=p::M) (ds:=k) (gO (aI E1 rfl)) l1 λH2 z=>?_
 refine ⟨λj g l=>g[1]?=some (some (.ref p))/\l p=some (.dK (gt (ak [] (k.take j))))/\ab H l/\au (p::M) l/\ab (but H2 (p::M)) (but l (p::M))/\aA (but l (p::M)) g [some (.tup k),none,none],
  ⟨i1,z _ _ h1,N.trans z,l1.same z,ab.refl _,E1.same z⟩,λj g l ⟨_,_,_,x,y,_⟩=>⟨y,x⟩,?_,?_⟩
 .rintro j d x g l T C ⟨U,t,u,l',Y,E'⟩ m rx
  have hx:=hA.sc d (KU C)
  have hj:j<k.length:=(KJ.mp C).1
  have E3:aA (but T (p::M)) (g.set 2 (some x)) [some (.tup k),none,some d]:=(E'.same m).set 2 rx
  have b1:(g.set 2 (some x))[1]?=some (some (.ref p)):=(KQ Z5).trans U
  refine gX (l'.same m) E3 (cm (cb ⟨d,rfl,hx.2,rfl⟩ (aa (aI E3 rfl) ag))) (λe H4 r l4 G=>?_) (λe H4 r l4 G=>nx ?_)
  .have ac:=gT e
   have v:=kW (k.take j) []
   rw [MR,Lx] at v
   refine Jx (n:=d.name) l4 G Z8 b1 (r _ _ (m _ _ t)) (by have:=hA.len;omega) ((aI G rfl).eq ac) (mR (b:=true)) λH5 k5 l5 h5 E5=>?_
   have S5:ab (but H4 (p::M)) (but H5 (p::M)):=nD Z8 k5
   refine ⟨b1,?_,nE (u.trans (m.trans r)) O k5,l5,Y.trans (((m.trans r).but _).trans S5),E5.drop 2⟩
   rw [zX C,Ia e]
   exact h5
  .refine ⟨b1,?_,u.trans (m.trans r),l4,Y.trans ((m.trans r).but _),G.drop 2⟩
   rw [zX C,vE e]
   exact r _ _ (m _ _ t)
 .rintro g l ⟨U,t,u,l',Y,E'⟩
  rw [Lz (KR _)] at t
  refine ⟨.ref p,U,p,_,rfl,.inl t,λa ha=>q (.ref a) _ (u.trans (cG ha _)) ?_⟩
  have e1:(gt (ak [] k)).map (λkv=>kV kv.1)=(ak [] k).map V.str:=by
   unfold gt
   rw [LH]
   rfl
  rw [e1]
  have af:a∉M:=(lv.same u).fresh ha
  refine .lst (vs:=(ak [] k).map V.str) ?_ (AO _)
  rw [bh af]
  exact aK
def sc_holds:b9 ["guard","first","second"] ["guard"] (be s_holds):=⟨rfl,rfl,rfl,Z9,rfl,Z9,Z9⟩
def ok_holds(F:aH K "holds" "holds" s_holds f fd)(B:Bl mg)(g:mg "UNLIKE"=some G/\RelV (.str "unlike") G):bq P w K mg base bI 1 f fd ["guard"] (bJ qF):=by
 refine F.ok sc_holds (fg (n:=1) λds d ⟨_,_,_,e,_⟩=>by rw [e];rfl) (λac A l s H vs Q E hr h=>?_)
 obtain ⟨M,ds,d,lv,rs,⟨r,a,b,rfl,I,J,rfl⟩,q⟩:=h
 have L:=eD hr
 refine ⟨_,(az (bg 1 sc_holds.nd (aT (pv 0) aE))
   (az (bg 2 sc_holds.nd (aT (pv 0) aE))
   (az (bB (bK (fG (by exact L)) (aT (pv 0) aE) (vB rfl g.1 g.2)) (ay (bd (iL (eo (by exact L)) (pv 1) (pv 2)))) bS)
   (ay (bd (nY (ee B (pv 1) B.int Ng) (nY (ee B (pv 2) B.int Ng) (pF (iL jE (pv 1) (pv 2)))))))))),?_⟩
 have E0:=gZ rs ["guard","first","second"]
 refine BC lv E0 (bV (d:=a) rfl (aI E0 rfl) ar) λaf H1 N l1 O=>?_
 refine BC l1 O (bV (d:=b) rfl (aI O rfl) ar) λm H2 T l2 U=>?_
 have cq:=eT I J
 refine gX l2 U (bN (jD (d1:=.str r) (d2:=.str "unlike") rfl (Ll _) (bV (d:=.str r) rfl (aI U rfl) ar) aF)) (λe Y o p k=>?_) (λe Y o p k=>nx ?_)
 .have t:r="unlike":=by simpa using e
  refine eG p (jP cq.1 cq.2 (aI k rfl) (aI k rfl)) λv u x y=>q v u (N.trans (T.trans (o.trans x))) ?_
  unfold holdsD
  rw [K4 t]
  exact y
 .have t:¬r="unlike":=by simpa using e
  have C:ae (rh (cH (iS K) (bb (aR 1) (bb (tC (.ty "int")) bv))) (rh (cH (iS K) (bb (aR 2) (bb (tC (.ty "int")) bv))) (bz (fZ λi j=>.bl (decide (i<j))) (aR 1) (aR 2)))) (but Y M) m (.bl (holdsD r a b)):=by
   unfold holdsD
   rw [KS t]
   cases a with
   |int i=>
    cases b with
    |int j=>exact fD (b:=true) (c:=decide (i<j)) (lL (d:=.int i) (aI k rfl)) λ_=>fD (b:=true) (lL (d:=.int j) (aI k rfl)) λ_=>jL (aI k rfl) (aI k rfl)
    |str j=>exact fD (b:=true) (c:=false) (lL (d:=.int i) (aI k rfl)) λ_=>fD (b:=false) (c:=false) (lL (d:=.str j) (aI k rfl)) λz=>nomatch z
    |_=>exact absurd J (by simp [D.sc])
   |str i=>exact (fD (b:=false) (c:=false) (lL (d:=.str i) (aI k rfl)) λz=>nomatch z)
   |_=>exact absurd I (by simp [D.sc])
  exact eG p C λv u x y=>q v u (N.trans (T.trans (o.trans x))) y
def zh (p:D->Bool)(g:List D->Bool)(b:List (List D))(h:∀a∈b,p (.tup a)=g a):((b.map D.tup).filter p).map (λd=>d)=(b.filter g).map D.tup:=by
 rw [NS,Mv]
 congr 1
 exact MO h
def qP:D->Bool
 |.tup A=>aN A
 |_=>false
def II:b9 ["body"] ["body"] (be qa):=⟨rfl,rfl,rfl,Z9,rfl,Z9,Z9⟩
def FC (F:aH K "askers_in" "askers_in" qa f fd)(B:Bl mg)(b:a5 P w K mg base 1 "is_guard" ["atom"] (bJ vW)):bq P w K mg base bI 2 f fd ["body"] (bJ xo):=by
 refine F.ok II (fg (n:=1) λk d ⟨x,e,_⟩=>by rw [e];rfl) (λl A c s H G Q E m h=>?_)
 obtain ⟨M,k,d,o,t,⟨g,rfl,u,I,rfl⟩,q⟩:=h
 refine ⟨_,(ay (bd (fC ["atom"] [] 1 (cF (pv 0)) (λ_ _ _ _ _=>(bp 0 (jU _))) (λ_ _ _ _ _=>(gF (dF (cu (iB b m (ah (pv 0) ap)))))) (λ_ _ _ _ _=>(pv 0))))),?_⟩
 have E0:=gZ t ["body"]
 refine eG o (ae.eq (gf (caps:=aX [] 1) (i:=0) (p:=λd=> !qP d) (f:=λd=>d) (gO (ds:=g.map D.tup) (aI E0 rfl)) (λy v d z j r=>?_) (λy v d z j _ r=>cE ?_ r) (by rw [KP];exact cr Z6)) ?_) q
 .obtain ⟨a,C,rfl⟩:=Lg.mp j
  exact dL (cm (cb (d:=.bl (qP (.tup a))) ⟨a,rfl,u a C,rfl⟩ (aa (cE (by simp [aX]) r) ag)))
 .simp [aX]
 .rw [zh _ (λa=> !aN a) g λa _=>rfl]
  rfl
def FV:b9 ["body"] ["body"] (be qQ):=⟨rfl,rfl,rfl,Z9,rfl,Z9,Z9⟩
def FG (F:aH K "guards_in" "guards_in" qQ f fd)(B:Bl mg)(b:a5 P w K mg base 1 "is_guard" ["atom"] (bJ vW)):bq P w K mg base bI 2 f fd ["body"] (bJ qT):=by
 refine F.ok FV (fg (n:=1) λk d ⟨x,e,_⟩=>by rw [e];rfl) (λl A c s H G Q E m h=>?_)
 obtain ⟨M,k,d,o,t,⟨g,rfl,u,I,rfl⟩,q⟩:=h
 refine ⟨_,(ay (bd (fC ["atom"] [] 1 (cF (pv 0)) (λ_ _ _ _ _=>(bp 0 (jU _))) (λ_ _ _ _ _=>(gF (cu (iB b m (ah (pv 0) ap))))) (λ_ _ _ _ _=>(pv 0))))),?_⟩
 have E0:=gZ t ["body"]
 refine eG o (ae.eq (gf (caps:=aX [] 1) (i:=0) (p:=qP) (f:=λd=>d) (gO (ds:=g.map D.tup) (aI E0 rfl)) (λy v d z j r=>?_) (λy v d z j _ r=>cE ?_ r) (by rw [KP];exact cr Z6)) ?_) q
 .obtain ⟨a,C,rfl⟩:=Lg.mp j
  exact cm (cb (d:=.bl (qP (.tup a))) ⟨a,rfl,u a C,rfl⟩ (aa (cE (by simp [aX]) r) ag))
 .simp [aX]
 .rw [zh _ aN g λa _=>rfl]
  rfl
end
end a8
namespace FL
open PySem L2
inductive Da where
 |d (x:D)
 |k (kvs:List (aG×V))
def rC (H:Hp)(v:V):Da->Prop
 |.d x=>al H v x
 |.k kvs=>∃a,v=.ref a/\H a=some (.dK kvs)
inductive lq (H:Hp):List V->List Da->Prop
 |nil:lq H [] []
 |cons {v:V} {x:Da} {vs:List V} {xs:List Da}:rC H v x->lq H vs xs->lq H (v::vs) (x::xs)
def lq.length:∀{a:List V} {b:List Da},lq H a b->a.length=b.length
 |_,_,.nil=>rfl
 |_,_,.cons _ r=>LL (· +1) r.length
def nn (t:TA)(G:Hp)(σ:St)(xs:List Da):Prop:=∀M H,ab G (but H M)->au M H->∀Q:List V->Hp->Prop,(∀vs H',ab H H'->lq (but H' M) vs xs->Q vs H')->t σ H Q
def iO (R:List Da->D->Prop):Sp:=λvs H Q _=>∃M xs d,au M H/\lq (but H M) vs xs/\R xs d/\∀v H',ab H H'->al (but H' M) v d->Q v H'
section
variable {G:Hp}{σ:St}{ta:TE}{t:TA}{d:D}{xs:List Da}
def pQ:nn bv G σ []:=λM H s l Q k=>k [] H (ab.refl _) .nil
def oZ (c:ae ta G σ d)(e:nn t G σ xs):nn (bb ta t) G σ (.d d::xs):=
 λM H s l Q k=>c M H s l _ λv f a g=>e M f (s.trans (a.but M)) (l.same a) _ λj h b i=>k _ h (a.trans b) (.cons (show rC _ v (.d d) from g.mono (b.but M)) i)
def oJ{i:Nat}(e:σ[i]?=some (some (.ref a)))(f:G a=some (.dK b))(g:nn t G σ xs):nn (bb (aR i) t) G σ (.k b::xs):=
 λM H s l Q k=>⟨.ref a,e,g M H s l _ λm h c j=>k _ h c (.cons ⟨a,rfl,(c.but M) _ _ (s _ _ f)⟩ j)⟩
def p9{R:List Da->D->Prop}(b:R xs d)(h:nn t G σ xs):ae (iH (iO R) [] E t) G σ d:=
 λM H s l Q k=>h M H s l _ λi j a c=>⟨M,xs,d,l.same a,by rw [LA];exact c,b,λv e f g=>k v e (a.trans f) g⟩
end
def vw{R:List Da->D->Prop}(c:∀a d,R a d->a.length=n):∀b H Q E,iO R b H Q E->b.length=n:=λb H Q E ⟨M,a,d,l,r,e,k⟩=>by rw [r.length];exact c a d e
def Seen:HO->Bool
 |.lst _=>true
 |.tup _=>true
 |_=>false
mutual
theorem al.fk {H:Hp}{M:List Addr}{a:Addr}{o:HO}(ha:H a=some o)(hs:Seen o=false):∀{v:V} {d:D},al (but H M) v d->al (but H (a::M)) v d
 |_,_,.av=>.av
 |_,_,.bl b=>.bl b
 |_,_,.int b=>.int b
 |_,_,.str b=>.str b
 |_,_,.tup (a:=c) h r=>by
  refine .tup ?_ (aD.fk ha hs r)
  obtain ⟨h1,h2⟩:=ax h
  rw [bh]
  ·exact h2
  ·intro z
   rcases mem_cons.mp z with z|z
   ·rw [z,ha] at h2
    cases h2
    cases hs
   ·exact h1 z
 |_,_,.lst (a:=c) h r=>by
  refine .lst ?_ (aD.fk ha hs r)
  obtain ⟨h1,h2⟩:=ax h
  rw [bh]
  ·exact h2
  ·intro z
   rcases mem_cons.mp z with z|z
   ·rw [z,ha] at h2
    cases h2
    cases hs
   ·exact h1 z
theorem aD.fk {H:Hp}{M:List Addr}{a:Addr}{o:HO}(ha:H a=some o)(hs:Seen o=false):∀{vs:List V} {ds:List D},aD (but H M) vs ds->aD (but H (a::M)) vs ds
 |_,_,.nil=>.nil
 |_,_,.cons h r=>.cons (al.fk ha hs h) (aD.fk ha hs r)
end
def aA.fk(h:aA (but H M) b c)(f:H a=some o)(g:Seen o=false):aA (but H (a::M)) b c:=⟨h.len,λi d q=>let ⟨v,e,r⟩:=h.get i d q;⟨v,e,al.fk f g r⟩⟩
def dX (B:List Str):List (aG×V):=B.zipIdx.map λp=>(Sum.inr p.1,V.int (p.2:Nat))
def Cc:∀(B:List Str) (k:Nat) (n:Str),bn ((B.zipIdx k).map λp=>((Sum.inr p.1:aG),V.int (p.2:Nat))) (Sum.inr n)=if n∈B then some (V.int ((k+B.idxOf n:Nat):Int)) else none
 |[],k,n=>by simp [bn]
 |b::r,k,n=>by
  rw [OK,LB]
  by_cases e:b=n
  .subst e
   rw [f9 rfl,K4 KN,List.idxOf_cons_self]
   rfl
  .have c:¬(Sum.inr b:aG)=Sum.inr n:=λz=>e (Pl z)
   rw [fV (by exact c),Cc r (k+1) n]
   by_cases a:n∈r
   .have d:(b::r).idxOf n=r.idxOf n+1:=by rw [List.idxOf_cons,show (b==n)=false from by simpa using e];rfl
    rw [K4 a,K4 (KG _ a),d]
    congr 3
    omega
   .rw [KS a,KS (by
     intro z
     rcases KY.mp z with z|z
     .exact e z.symm
     .exact a z)]
def slot_get (B:List Str)(n:Str):bn (dX B) (Sum.inr n)=if n∈B then some (V.int (B.idxOf n:Nat)) else none:=by
 have:=Cc B 0 n
 rw [M8] at this
 exact this
section
variable {G:Hp}{σ:St}{ty:TE}{a:Addr}{i:Nat}{B:List Str}{n:Str}
def zT (e:σ[i]?=some (some (.ref a)))(c:G a=some (.dK (dX B)))(h:ae ty G σ (.str n)):aY (tB (oO ty (aR i))) G σ (decide (n∈B)):=λM H s l Q k=>h M H s l _ λv f b g=>by
 have j:=b _ _ (ax (s _ _ c)).2
 refine ⟨.ref a,e,a,bn (dX B) (Sum.inr n),rfl,by rw [(fQ (d:=.str n) rfl g).2];exact cN.k j,_,rfl,?_⟩
 have:(bn (dX B) (Sum.inr n)).isSome=decide (n∈B):=by rw [slot_get];by_cases z:n∈B<;>simp [z]
 rw [this]
 exact k f b
def xV (e:σ[i]?=some (some (.ref a)))(c:G a=some (.dK (dX B)))(f:n∈B)(h:ae ty G σ (.str n)):ae (sX (aR i) ty) G σ (.int (B.idxOf n:Nat)):=λM H s l Q k=>⟨.ref a,e,h M H s l _ λv g b j=>by
 have m:=b _ _ (ax (s _ _ c)).2
 refine ⟨a,.int (B.idxOf n:Nat),rfl,?_,k _ g b (.int _)⟩
 have:some (V.int (B.idxOf n:Nat))=bn (dX B) (Sum.inr n):=by rw [slot_get,K4 f]
 rw [this,(fQ (d:=.str n) rfl j).2]
 exact cN.k m⟩
end
def cO (A:List D)(B:List Str):List Nat:=((ak [] A).filter λb=>decide (b∈B)).map B.idxOf
def wo:List Da->D->Prop:=λxs d=>∃A B,xs=[.d (.tup A),.k (dX B)]/\eV A/\d=.lst ((cO A B).map λn=>D.int (n:Nat))
def ck (A:List D)(B:List Str):Bool:=decide ((cO A B).length=(ak [] A).length)
def zy:List Da->D->Prop:=λxs d=>∃A B,xs=[.d (.tup A),.k (dX B)]/\eV A/\d=.bl (ck A B)
inductive kL (G:Hp):List V->Dn->Prop
 |nil:kL G [] []
 |dat {v:V} {d:D} {vs:List V} {ds:Dn}:al G v d->kL G vs ds->kL G (v::vs) (some d::ds)
 |raw {v:V} {vs:List V} {ds:Dn}:kL G vs ds->kL G (v::vs) (none::ds)
def kL.get:∀{a:List V} {b:Dn},kL G a b->a.length=b.length/\∀(i:Nat) (d:D),b[i]?=some (some d)->∃v,a[i]?=some v/\al G v d
 |_,_,.nil=>⟨rfl,λi d q=>by simp at q⟩
 |_,_,.dat h t=>⟨LL (· +1) t.get.1,λi d q=>match i,q with
  |0,q=>⟨_,rfl,by have:=K8 (K8 q);rw [<-this];exact h⟩
  |i+1,q=>t.get.2 i d q⟩
 |_,_,.raw t=>⟨LL (· +1) t.get.1,λi d q=>match i,q with
  |0,q=>by cases q
  |i+1,q=>t.get.2 i d q⟩
def fL {G:Hp}{vs:List V}{ds:Dn}(h:kL G vs ds)(N:List Str):aA G (L2.start N vs) (ds++List.replicate (N.length-ds.length) none):=by
 obtain ⟨hl,hg⟩:=h.get
 refine ⟨by simp [L2.start,hl],λi d q=>?_⟩
 unfold L2.start
 by_cases hi:i<ds.length
 .rw [Lm hi] at q
  obtain ⟨v,h1,h2⟩:=hg i d q
  exact ⟨v,by rw [Lm (by simpa using (by omega:i<vs.length)),KZ,h1];rfl,h2⟩
 .rw [Lo (LC hi)] at q
  obtain ⟨h1,h2⟩:=KJ.mp q
  simp at h2
end FL
namespace a8
open PySem L2 FL
section
variable {P:Program}{w:World}{K:PySem.W.Frag}{mg:Str->Option Value}{base:Heap}{f:Addr}{fd:FuncData}
def wM(h:lq H a [x,y]):∃v w,a=[v,w]/\rC H v x/\rC H w y:=by
 cases h with
 |cons h t=>cases t with
  |cons b c=>cases c;exact ⟨_,_,rfl,h,b⟩
def HN:b9 ["atom","slots"] ["atom","slots"] (be rV):=⟨rfl,rfl,rfl,Z9,rfl,Z9,Z9⟩
def Fz (F:aH K "slots_of" "slots_of" rV f fd)(B:Bl mg)(G_blanks_in:a5 P w K mg base 2 "blanks_in" ["atom"] (bJ o0)):bq P w K mg base bI 3 f fd ["atom","slots"] (iO wo):=by
 refine F.ok HN (vw (n:=2) λds d ⟨_,_,e,_⟩=>by rw [e];rfl) (λcdv A outer s H vs Q E hr h=>?_)
 obtain ⟨M,ds,d,lv,rs,⟨At,Bs,rfl,hA,rfl⟩,q⟩:=h
 have hu1:=fO hr
 obtain ⟨v0,v1,rfl,r0,⟨a,rfl,ha⟩⟩:=wM rs
 have r0:al (but H M) v0 (.tup At):=r0
 refine ⟨_,(ay (bd (fC ["slots","blank"] [1] 1 (cF (bQ G_blanks_in hr (ah (pv 0) ap))) (λ_ _ _ _ _=>(bp 1 (show (["slots","blank"]:List Str).Nodup from by decide+kernel))) (λ_ _ _ _ _=>(gF (iu (lH (by exact hu1) (pv 1) (pv 0))))) (λ_ _ _ _ _=>(tj (by exact hu1) (pv 0) (pv 1) (λ_ _=>rfl)))))),?_⟩
 have E0:aA (but H M) (L2.start ["atom","slots"] [v0,.ref a]) [some (.tup At),none]:=fL (.dat r0 (.raw .nil)) ["atom","slots"]
 have hlen:=kW At []
 rw [MR] at hlen
 have hAl:=hA.len
 refine eG lv (ae.eq (gf (caps:=aX [1] 1) (i:=1) (p:=λd=>decide (d.name∈Bs)) (f:=λd=>.int ((Bs.idxOf d.name:Nat):Int)) (fy (ds:=(ak [] At).map D.str) (cb ⟨At,rfl,hA,rfl⟩ (aa (aI E0 rfl) ag))) (λG' v d sG hd r=>?_) (λG' v d sG hd hp r=>?_) (by rw [KP];exact cr Z6)) ?_) q
 .obtain ⟨b,hb,rfl⟩:=Lg.mp hd
  exact zT (n:=b) (a:=a) (by simp [aX,L2.start]) (sG _ _ ha) (cE (by simp [aX]) r)
 .obtain ⟨b,hb,rfl⟩:=Lg.mp hd
  exact xV (n:=b) (a:=a) (by simp [aX,L2.start]) (sG _ _ ha) (Le hp) (cE (by simp [aX]) r)
 .unfold cO
  rw [Mv,LH,LH]
  rfl
def HV:b9 ["guard","slots"] ["guard","slots"] (be qM):=⟨rfl,rfl,rfl,Z9,rfl,Z9,Z9⟩
def Je (F:aH K "is_ready" "is_ready" qM f fd)(B:Bl mg)(G_blanks_in:a5 P w K mg base 2 "blanks_in" ["atom"] (bJ o0))(G_slots_of:a5 P w K mg base 3 "slots_of" ["atom","slots"] (iO wo)):bq P w K mg base bI 4 f fd ["guard","slots"] (iO zy):=by
 refine F.ok HV (vw (n:=2) λds d ⟨_,_,e,_⟩=>by rw [e];rfl) (λcdv A outer s H vs Q E hr h=>?_)
 obtain ⟨M,ds,d,lv,rs,⟨At,Bs,rfl,hA,rfl⟩,q⟩:=h
 have hu:=eD hr
 have hu1:=fO hr
 obtain ⟨v0,v1,rfl,r0,⟨a,rfl,ha⟩⟩:=wM rs
 have r0:al (but H M) v0 (.tup At):=r0
 refine ⟨_,(ay (bd (iL (fG (by exact hu)) (cg B (bQ G_slots_of hr (ah (pv 0) (ah (pv 1) ap)))) (cg B (bQ G_blanks_in hr (ah (pv 0) ap)))))),?_⟩
 have E0:aA (but H M) (L2.start ["guard","slots"] [v0,.ref a]) [some (.tup At),none]:=fL (.dat r0 (.raw .nil)) ["guard","slots"]
 refine eG lv (ae.eq (lD (cY (aa (p9 ⟨At,Bs,rfl,hA,rfl⟩ (oZ (aI E0 rfl) (oJ (a:=a) rfl ha pQ))) ag)) (cY (aa (cb ⟨At,rfl,hA,rfl⟩ (aa (aI E0 rfl) ag)) ag))) ?_) q
 unfold ck
 rw [KP,KP]
 congr 1
 exact N0.mpr Int.ofNat_inj
end
end a8
namespace FL
open PySem L2
section
variable {G:Hp}{σ:St}{wi:TI}{tt:TT}{te:TE}{K:PySem.W.Frag}
def Cj{caps:St->St}(ac:i≠j){ps:List (D×D)}{p:D×D->Bool}{f:D×D->D}(hw:Walk wi G σ (ps.map λq=>.tup [q.1,q.2]))
  (ht:∀t I L q,ab G t->q∈ps->al t I q.1->al t L q.2->aY tt t (((caps σ).set i (some I)).set j (some L)) (p q))
  (he:∀t I L q,ab G t->q∈ps->p q=true->al t I q.1->al t L q.2->ae te t (((caps σ).set i (some I)).set j (some L)) (f q)) (hz:ps.length<sizeLine):
  ae (ij wi caps (mY K 2 (jJ (ci i) (jJ (ci j) ph))) tt te) G σ (.lst ((ps.filter p).map f)):=λM H s l Q k=>hw M H s l _ λJ H1 s1 af B D hD=>by
 have lf:D∉M:=(l.same s1).fresh hD
 have aj:ab G (but H1 M):=s.trans (s1.but M)
 have am:(ps.map λq=>FL.D.tup [q.1,q.2]).length=ps.length:=KP _
 refine ⟨λm n τ u=>n=ps.length-m/\m<=ps.length/\(∀v w,(τ.set i (some v)).set j (some w)=((caps σ).set i (some v)).set j (some w))/\ab H1 u/\∃h,u D=some (.lst h)/\aD (but u (D::M)) h (((ps.take m).filter p).map f),
  ⟨ps.length,by simp,Ll _,λ_ _=>rfl,cG hD _,[],aK,by simpa using aD.nil⟩,?_⟩
 rintro m n τ u ⟨rfl,hj,an,N,h,y,O⟩
 have hs:ab (but H1 M) (but u (D::M)):=iW hD N
 have hl:au (D::M) u:=((l.same s1).same N).cons y
 by_cases C:m<ps.length
 .have hd:ps[m]?=some ps[m]:=KL C
  have eU:(ps.map λq=>FL.D.tup [q.1,q.2])[m]?=some (.tup [ps[m].1,ps[m].2]):=by rw [KZ,hd];rfl
  obtain ⟨go,gy⟩:=af m _ (D::M) u eU hs hl
  refine .inr ⟨go,λT d=>(∀v w,(T.set i (some v)).set j (some w)=((caps σ).set i (some v)).set j (some w))/\ab H1 d/\∃h,d D=some (.lst h)/\aD (but d (D::M)) h (((ps.take (m+1)).filter p).map f),
   λT d ⟨a,b,c⟩=>⟨ps.length-(m+1),by omega,rfl,C,a,b,c⟩,λx d hy=>?_⟩
  obtain ⟨z,rx⟩:=gy x d hy
  have hm:ps[m]∈ps:=Mm C
  have sG:ab G (but d (D::M)):=aj.trans (hs.trans (z.but _))
  have U:=hl.same z
  refine nH rx λY E r1 r2=>?_
  show tt ((τ.set i (some Y)).set j (some E)) d _
  rw [an Y E]
  have tk:(ps.take (m+1)).filter p=(ps.take m).filter p++(if p ps[m]=true then [ps[m]] else []):=by
   rw [LG,hd,Me]
   congr 1
   by_cases A:p ps[m]=true
   .simp [A]
   .simp [A]
  refine ht _ Y E _ sG hm r1 r2 (D::M) d (ab.refl _) U _ λH4 r=>?_
  have g:∀v w,((((caps σ).set i (some Y)).set j (some E)).set i (some v)).set j (some w)=((caps σ).set i (some v)).set j (some w):=λv w=>by
   rw [List.set_comm (some E) (some v) (LN ac),PB,PB]
  by_cases A:p ps[m]=true
  .rw [K4 A]
   refine he _ Y E _ (sG.trans (r.but _)) hm A (r1.mono (r.but _)) (r2.mono (r.but _)) (D::M) H4 (ab.refl _) (U.same r) _ λv H5 s5 r5=>?_
   have ao:H5 D=some (.lst h):=s5 _ _ (r _ _ (z _ _ y))
   have as:=O.length
   have a0:(((ps.take m).filter p).map f).length<=m:=by
    rw [KP]
    have:=Lv p (ps.take m)
    rw [Lx] at this
    omega
   refine ⟨h,ao,by omega,g,?_,h++[v],aK,?_⟩
   .intro b o e
    rw [aC (de e hD)]
    exact s5 _ _ (r _ _ (z _ _ (N _ _ e)))
   .rw [dH KN,tk,K4 A,Lq]
    exact (O.mono (((z.trans r).trans s5).but _)).snoc r5
  .rw [KS A]
   refine ⟨g,N.trans (z.trans r),h,r _ _ (z _ _ y),?_⟩
   rw [tk,KS A,LA]
   exact O.mono ((z.trans r).but _)
 .have e:m=ps.length:=by omega
  subst e
  refine .inl ⟨?_,k _ u (s1.trans N) (mf lf y ?_)⟩
  .have:=B (D::M) u hs
   rw [am] at this
   exact this
  .rw [Lz (KR _)] at O
   exact O
def Jm(h:ae a G σ d):ae (bz (λx y H Q=>y=.av/\Q (.bl (!decide (x=.av))) H) a (tC .av)) G σ (.bl (!decide (d=.av))):=
 λM H s l Q k=>h M H s l _ λv b c e=>⟨rfl,by rw [zY e];exact k _ b c (.bl _)⟩
end
mutual
def D.fB:D->Bool
 |.lst _=>false
 |.tup l=>D.jr l
 |_=>true
def D.jr:List D->Bool
 |[]=>true
 |d::r=>D.fB d&&D.jr r
end
mutual
theorem al.qg {H:Hp}{M ls:List Addr}(hl:∀a∈ls,∃vs,H a=some (.lst vs)):∀{v:V} {d:D},d.fB=true->al (but H M) v d->al (but H (ls++M)) v d
 |_,_,_,.av=>.av
 |_,_,_,.bl b=>.bl b
 |_,_,_,.int b=>.int b
 |_,_,_,.str b=>.str b
 |_,_,hn,.tup (a:=c) h r=>by
  refine .tup ?_ (aD.qg hl hn r)
  obtain ⟨h1,h2⟩:=ax h
  rw [bh]
  ·exact h2
  ·intro z
   rcases mem_append.mp z with z|z
   ·obtain ⟨vs,e⟩:=hl c z
    rw [e] at h2;cases h2
   ·exact h1 z
 |_,_,hn,.lst _ _=>by cases hn
theorem aD.qg {H:Hp}{M ls:List Addr}(hl:∀a∈ls,∃vs,H a=some (.lst vs)):∀{vs:List V} {ds:List D},D.jr ds=true->aD (but H M) vs ds->aD (but H (ls++M)) vs ds
 |_,_,_,.nil=>.nil
 |_,_,hn,.cons h r=>by
  have hn':=Bool.and_eq_true_iff.mp hn
  exact .cons (al.qg hl hn'.1 h) (aD.qg hl hn'.2 r)
end
end FL
namespace FL
open PySem L2
def mN (o:Nat×aP):D:=.tup [.int (o.1:Nat),.lst (pairD o.2)]
def fP (of:List dO)(key:List D):List dO:=of.filter λo=>decide (o.1=key)
def g6 (of:List dO)(key:List D):List D:=(fP of key).map λo=>mN o.2
def bW (key:List D):List aG:=key.map D.key
def bM (key:List D):Prop:=∀x∈key,x.sc=true
def pq:∀{a b:List D},bM a->bM b->bW a=bW b->a=b
 |[],[],_,_,_=>rfl
 |[],_::_,_,_,h=>by cases h
 |_::_,[],_,_,h=>by cases h
 |x::r,y::t,d,e,h=>by
  obtain ⟨f,g⟩:=N3 h
  rw [(ve (d x KN) (e y KN)).mp f,pq (λz c=>d z (KG _ c)) (λz c=>e z (KG _ c)) g]
def mL:∀{b:List V} {a:List D},bM a->aD H b a->b=(bW a).map kV
 |_,[],_,.nil=>rfl
 |_,d::r,h,.cons c t=>by
  rw [(fQ (h d KN) c).2,mL (λx e=>h x (KG _ e)) t]
  rfl
def nI (G:Hp)(p:Addr)(of:List dO):Prop:=∃kvs:List (List aG×V),G p=some (.dT kvs)/\(kvs=[]↔of=[])/\∀key,bM key->(bn kvs (bW key)=none->fP of key=[])/\∀v,bn kvs (bW key)=some v->al G v (.lst (g6 of key))
def nI.mono(e:ab G c)(h:nI G p d):nI c p d:=by
 obtain ⟨b,i,j,f⟩:=h
 exact ⟨b,e _ _ i,j,λa g=>⟨(f a g).1,λv k=>((f a g).2 v k).mono e⟩⟩
def j7 {H:Hp}{M M':List Addr}(h:∀a,a∈M↔a∈M'):but H M=but H M':=by
 funext b
 unfold FL.but
 by_cases z:b∈M
 .rw [K4 z,K4 ((h b).mp z)]
 .rw [KS z,KS λq=>z ((h b).mpr q)]
structure eR (H:Hp)(M:List Addr)(p:Addr)(ls:List Addr)(of:List dO):Prop where
 kvs:∃kvs:List (List aG×V),H p=some (.dT kvs)/\kvs.length<=of.length/\(kvs=[]↔of=[])/\
  (∀key,bM key->(bn kvs (bW key)=none->fP of key=[])/\∀v,bn kvs (bW key)=some v->∃l vs,v=.ref l/\l∈ls/\H l=some (.lst vs)/\aD (but H (ls++p::M)) vs (g6 of key))/\
  ∀key key' l,bM key->bM key'->bn kvs (bW key)=some (.ref l)->bn kvs (bW key')=some (.ref l)->key=key'
 lists:∀l∈ls,∃vs,H l=some (.lst vs)
 apart:p∉ls
def eR.Gs(h:eR H M p b d)(e:∀a,a∈b++p::M↔a∈b++p::c):eR H c p b d:=by
 obtain ⟨k,l,a⟩:=h
 rw [j7 e] at k
 exact ⟨k,l,a⟩
def eR.rep(h:eR H M p d e)(i:p∉M)(j:∀l∈d,l∉M):nI (but H M) p e:=by
 obtain ⟨c,k,_,m,f,_⟩:=h.kvs
 refine ⟨c,by rw [bh i];exact k,m,λa g=>⟨(f a g).1,λv n=>?_⟩⟩
 obtain ⟨l,t,rfl,o,q,r⟩:=(f a g).2 v n
 exact .lst (by rw [bh (j l o)];exact q) (r.mono (d6 λb s=>KW _ (KG _ s)))
def zn (b:List dO)(a:List D)(o:Nat×aP):fP (b++[(a,o)]) a=fP b a++[(a,o)]:=by
 unfold fP;rw [Me];simp
def tJ(c:List dO)(o:Nat×aP)(h:¬b=a):fP (c++[(b,o)]) a=fP c a:=by
 unfold fP;rw [Me];simp [h]
def eR.same(h:eR H M p f g)(e:ab H d):eR d M p f g:=by
 obtain ⟨b,k,m,n,i,o⟩:=h.kvs
 refine ⟨⟨b,e _ _ k,m,n,λa j=>⟨(i a j).1,λv q=>?_⟩,o⟩,λl r=>let ⟨c,z⟩:=h.lists l r;⟨c,e _ _ z⟩,h.apart⟩
 obtain ⟨l,c,s,t,u,w⟩:=(i a j).2 v q
 exact ⟨l,c,s,t,e _ _ u,w.mono (e.but _)⟩
section
variable {σ:St}{M:List Addr}{H:Hp}{ty te:TE}{E:Ends}{K:PySem.W.Frag}
theorem Ir {to:TE}{p:Addr}{ls:List Addr}{of:List dO}{key:List D}{o:Nat×aP}(l:au (ls++p::M) H)(e:∀Q:VK,Q (.ref p) H->to σ H Q)(hO:eR H M p ls of)(hk:bM key)(hz:of.length<1000)
  (h:ae ty (but H (ls++p::M)) σ (.tup key)) (h2:ae te (but H (ls++p::M)) σ (mN o))
  (k:∀ls' H',(∀a∈ls',a∈ls\/H a=none)->(∀a∈ls,a∈ls')->(∀b u,b≠p->b∉ls->H b=some u->H' b=some u)->au (ls'++p::M) H'->eR H' M p ls' (of++[(key,o)])->E.nx σ H'):
  lw (lJ K "list" nK (uA to ty (jt bv)) (bb te bv)) E σ H:=by
 obtain ⟨kvs0,g1,gn,g2,g3,g4⟩:=hO.kvs
 refine e _ ⟨p,rfl,.inr ⟨kvs0,.inl g1⟩,h _ H (ab.refl _) l _ fun kv H1 s1 rk=>⟨Nat.zero_le _,fun p2 hp2=>?_⟩⟩
 have O1:=hO.same s1
 obtain ⟨b,bs,rfl,hb,rbs⟩:=rk.e9
 have hb1:=(ax hb).2
 have ebs:=mL hk rbs
 rw [ebs] at hb1
 have s12:=cG hp2 (.lst [])
 have hb2:=s12 _ _ hb1
 have hp1:(upd H1 p2 (.lst [])) p=some (.dT kvs0):=s12 _ _ (s1 _ _ g1)
 have nep2:p≠p2:=fun z=>by have:=s1 _ _ g1;rw [z,hp2] at this;cases this
 have p2ls:p2∉ls:=fun z=>by
  obtain ⟨vs,q⟩:=hO.lists p2 z
  have:=s1 _ _ q
  rw [hp2] at this;cases this
 have Hp2:H p2=none:=by
  cases q:H p2 with
  |none=>rfl
  |some u=>have:=s1 _ _ q;rw [hp2] at this;cases this
 have hoff:∀v G,al G v (mN o)->al G v (mN o):=fun _ _ z=>z
 cases hv:bn kvs0 (bW key) with
 |some v=>
  obtain ⟨l0,vs,rfl,m1,m2,m3⟩:=(g3 key hk).2 v hv
  have hl0:(upd H1 p2 (.lst [])) l0=some (.lst vs):=s12 _ _ (s1 _ _ m2)
  refine ⟨.ref l0,_,.inl ⟨by rw [<-hv];exact cN.t hp1 hb2,rfl,_,hp1⟩,(show gj K "list" (.ref l0) _ from .inl ⟨rfl,vs,aO.of hl0⟩),?_⟩
  have S1:ab H (upd H1 p2 (.lst [])):=s1.trans s12
  refine h2 _ _ (S1.but _) (l.same S1) _ fun v H5 s5 r5=>⟨l0,vs,v,rfl,rfl,s5 _ _ hl0,?_,?_⟩
  ·rw [m3.length]
   unfold g6
   rw [length_map]
   have:=length_filter_le (fun o=>decide (o.1=key)) of
   exact cr (by unfold fP;omega)
  ·have S5:ab H H5:=S1.trans s5
   have l0M:l0∈ls++p::M:=mem_append_left _ m1
   have eb:but (upd H5 l0 (.lst (vs++[v]))) (ls++p::M)=but H5 (ls++p::M):=dH l0M
   have nl0p:l0≠p:=fun z=>hO.apart (z▸m1)
   refine k ls _ (fun a ha=>.inl ha) (fun a ha=>ha) (fun b u hb hbl q=>?_) (l.same S5).upd ⟨⟨kvs0,?_,?_,?_,fun key' hk'=>⟨fun hn=>?_,fun v' hv'=>?_⟩,g4⟩,fun a ha=>?_,hO.apart⟩
   ·rw [aC (fun z:b=l0=>hbl (by rw [z];exact m1))];exact S5 _ _ q
   ·rw [aC (Ne.symm nl0p)];exact S5 _ _ g1
   ·rw [length_append];omega
   ·constructor
    ·intro z;rw [z] at hv;cases hv
    ·intro z;exact absurd z (by simp)
   ·have ne:¬key=key':=fun z=>by rw [<-z,hv] at hn;cases hn
    rw [tJ of o ne];exact (g3 key' hk').1 hn
   ·obtain ⟨l1,ws,rfl,q1,q2,q3⟩:=(g3 key' hk').2 v' hv'
    by_cases hl:l1=l0
    ·subst hl
     have:key=key':=g4 key key' l1 hk hk' hv hv'
     subst this
     refine ⟨l1,vs++[v],rfl,q1,aK,?_⟩
     rw [eb]
     unfold g6
     rw [zn,map_append]
     exact (m3.mono (S5.but _)).snoc r5
    ·have ne:¬key=key':=fun z=>by subst z;rw [hv] at hv';cases hv';exact hl rfl
     refine ⟨l1,ws,rfl,q1,by rw [aC hl];exact S5 _ _ q2,?_⟩
     rw [eb]
     unfold g6
     rw [tJ of o ne]
     exact q3.mono (S5.but _)
   ·obtain ⟨ws,q⟩:=hO.lists a ha
    by_cases hl:a=l0
    ·exact ⟨_,by rw [hl];exact aK⟩
    ·exact ⟨ws,by rw [aC hl];exact S5 _ _ q⟩
 |none=>
  have hnone:=(g3 key hk).1 hv
  have hlen0:kvs0.length<sizeLine:=cr (by omega)
  refine ⟨.ref p2,_,.inr ⟨by rw [<-hv];exact cN.t hp1 hb2,rfl,f6.t hp1 hb2 hlen0⟩,?_⟩
  have hq2:(upd (upd H1 p2 (.lst [])) p (.dT (bX kvs0 (bW key) (.ref p2)))) p2=some (.lst []):=by rw [aC (Ne.symm nep2)];exact aK
  refine ⟨(show gj K "list" (.ref p2) _ from .inl ⟨rfl,[],aO.of hq2⟩),?_⟩
  have pM:p∈ls++p::M:=mem_append_right _ mem_cons_self
  have SB:ab (but H (ls++p::M)) (but (upd (upd H1 p2 (.lst [])) p (.dT (bX kvs0 (bW key) (.ref p2)))) (p2::(ls++p::M))):=fun b u q=>by
   obtain ⟨q1,q2⟩:=ax q
   have nb2:b≠p2:=fun z=>by rw [z,Hp2] at q2;cases q2
   have nbp:b≠p:=fun z=>q1 (z▸pM)
   rw [bh (by simp only [mem_cons,not_or];exact ⟨nb2,q1⟩),aC nbp]
   exact s12 _ _ (s1 _ _ q2)
  have l4:au (p2::(ls++p::M)) (upd (upd H1 p2 (.lst [])) p (.dT (bX kvs0 (bW key) (.ref p2)))):=((l.same (s1.trans s12)).upd).cons hq2
  refine h2 _ _ SB l4 _ fun v H5 s5 r5=>⟨p2,[],v,rfl,rfl,s5 _ _ hq2,(show 0<sizeLine by decide),?_⟩
  have KH:∀b u,b≠p->H b=some u->(upd H5 p2 (.lst ([]++[v]))) b=some u:=fun b u hb q=>by
   have nb2:b≠p2:=fun z=>by rw [z,Hp2] at q;cases q
   rw [aC nb2]
   refine s5 _ _ ?_
   rw [aC hb]
   exact s12 _ _ (s1 _ _ q)
  have eb:but (upd H5 p2 (.lst ([]++[v]))) (p2::(ls++p::M))=but H5 (p2::(ls++p::M)):=dH mem_cons_self
  have SB5:ab (but H (ls++p::M)) (but (upd H5 p2 (.lst ([]++[v]))) (p2::(ls++p::M))):=by rw [eb];exact SB.trans (s5.but _)
  have eK:∀key',bM key'->bn (bX kvs0 (bW key) (.ref p2)) (bW key')=if key'=key then some (.ref p2) else bn kvs0 (bW key'):=fun key' hk'=>by
   rw [wU]
   by_cases z:key'=key
   ·rw [if_pos z,if_pos (by rw [z])]
   ·rw [if_neg z,if_neg (fun w=>z (pq hk' hk w))]
  refine k (p2::ls) _ (fun a ha=>?_) (fun a ha=>mem_cons_of_mem _ ha) (fun b u hb hbl q=>KH b u hb q) (l4.same s5).upd ⟨⟨bX kvs0 (bW key) (.ref p2),?_,?_,?_,fun key' hk'=>⟨fun hn=>?_,fun v' hv'=>?_⟩,fun k1 k2 l1 a1 a2 b1 b2=>?_⟩,fun a ha=>?_,?_⟩
  ·rcases mem_cons.mp ha with z|z
   ·exact .inr (by rw [z];exact Hp2)
   ·exact .inl z
  ·rw [aC nep2]
   refine s5 _ _ ?_
   exact aK
  ·have:=mx kvs0 (bW key) (.ref p2)
   rw [length_append,length_singleton]
   omega
  ·constructor
   ·intro z
    have:=eK key hk
    rw [z,if_pos rfl] at this
    cases this
   ·intro z;exact absurd z (by simp)
  ·rw [eK key' hk'] at hn
   by_cases z:key'=key
   ·rw [if_pos z] at hn;cases hn
   ·rw [if_neg z] at hn
    rw [tJ of o (fun w=>z w.symm)]
    exact (g3 key' hk').1 hn
  ·rw [eK key' hk'] at hv'
   by_cases z:key'=key
   ·rw [if_pos z] at hv'
    cases hv'
    refine ⟨p2,_,rfl,mem_cons_self,aK,?_⟩
    rw [cons_append,eb,z]
    unfold g6
    rw [zn,hnone]
    exact .cons r5 .nil
   ·rw [if_neg z] at hv'
    obtain ⟨l1,ws,rfl,q1,q2,q3⟩:=(g3 key' hk').2 v' hv'
    refine ⟨l1,ws,rfl,mem_cons_of_mem _ q1,KH _ _ (fun w=>hO.apart (w▸q1)) q2,?_⟩
    unfold g6
    rw [tJ of o (fun w=>z w.symm)]
    exact q3.mono SB5
  ·rw [eK k1 a1] at b1
   rw [eK k2 a2] at b2
   have no:∀kk,bM kk->¬bn kvs0 (bW kk)=some (.ref p2):=fun kk hkk z=>by
    obtain ⟨l1,ws,q0,q1,_⟩:=(g3 kk hkk).2 _ z
    cases q0
    exact p2ls q1
   by_cases z1:k1=key
   ·by_cases z2:k2=key
    ·rw [z1,z2]
    ·rw [if_pos z1] at b1
     rw [if_neg z2] at b2
     cases b1
     exact absurd b2 (no k2 a2)
   ·rw [if_neg z1] at b1
    by_cases z2:k2=key
    ·rw [if_pos z2] at b2
     cases b2
     exact absurd b1 (no k1 a1)
    ·rw [if_neg z2] at b2
     exact g4 k1 k2 l1 a1 a2 b1 b2
  ·rcases mem_cons.mp ha with z|z
   ·exact ⟨_,by rw [z];exact aK⟩
   ·obtain ⟨ws,q⟩:=hO.lists a z
    exact ⟨ws,KH _ _ (fun w=>hO.apart (w▸z)) q⟩
  ·intro z
   rcases mem_cons.mp z with z|z
   ·exact nep2 z
   ·exact hO.apart z
end
end FL
namespace L2
open PySem PySem.Spec PyProof.Rows
def GA (x d:Value):argsOk "max" ⟨[x],[("default",d)]⟩:=by unfold argsOk;kernel_rfl
def pO:Option Value->Array Value
 |none=> #[]
 |some v=> #[v,v]
section
variable {prog:Program}{w:World}{A:Around}{R:Result->Shared->Prop}{I:Addr}{fp wr:List Addr}{n:Nat}{P:Nat->Value->Prop}{St:Nat->Heap->Prop}
def Ft (W:Walks prog w A.in1 I fp wr n P St)(u:Nat->Nat->Bool)(J:CmpOf prog w A.in1 .Gt P u)(S:Addr)(y:S∉fp)(d:Value):
  ∀(k j:Nat) (s:Shared) (B:Option Value) (c:Nat),n-j=k->j<=n->St j s.heap->(B=none->j=0)->(∀l,B=some l->0<j/\P (argBest u (j-1)) l)->
  s.heap.get? S=some {cls:=.type "list",dict:=none,data:=.seq (pO B) c,slots:= #[]}->
  (∀v C E,(n=0->v=d)->(0<n->P (argBest u (n-1)) v)->(∀b o,b∉wr->b≠S->s.heap.get? b=some o->C.get? b=some o)->R (.ok (.ret v)) {s with heap:=C,toks:=E})->
  codeAny (model prog w) A (.builtin "max.loop" ⟨[.ref I,.none,.ref S],[("default",d)]⟩) R s:=by
 have G:S∉wr:=λh=>y (W.sub _ h)
 have Y:(toString "max"++toString ".loop":String)="max.loop":=by decide
 intro k
 induction k with
 |zero=>
  intro j s B c hk hj p h0 h1 x H
  have ac:j=n:=by omega
  subst ac
  refine NB F.entry_max_loop ?_
  rw [Ni MY _]
  cases B with
  |none=>
   have z:=h0 rfl
   refine KI (LX (items:=pO none) (n:=c) (o:=_) x rfl ?_)
   refine KI (Nj (W.done s _ _ p λC E a=>?_))
   refine KI (NF (K5 ?_))
   exact H d C E (λ_=>rfl) (λq=>by omega) λb o f _ e=>a b o f e
  |some l=>
   obtain ⟨z1,T⟩:=h1 l rfl
   refine KI (LX (items:=pO (some l)) (n:=c) (o:=_) x rfl ?_)
   refine KI (Nj (W.done s _ _ p λC E a=>?_))
   have i:=a S _ G x
   refine KI (Ob (hz:=show 2<=sizeLine from by decide) i rfl (KI (Nh (K5 ?_))))
   exact H l _ E (λq=>by omega) (λ_=>T) λb o f g e=>(Ml _ _ (LN g)).trans (a b o f e)
 |succ k ih=>
  intro j s B c hk hj p h0 h1 x H
  have r:j<n:=by omega
  refine NB F.entry_max_loop ?_
  rw [Ni MY _]
  cases B with
  |none=>
   have z:=h0 rfl
   subst z
   refine KI (LX (items:=pO none) (n:=c) (o:=_) x rfl ?_)
   refine KI (Nj (W.item 0 s _ _ r p λv C E U m a=>?_))
   have i:=a S _ G x
   refine KI (K5 (KI (Ob i rfl ?_)))
   rw [Y]
   refine K5 ⟨Nx MY _,ih 1 _ (some v) _ Z6 r (W.frame _ _ _ m λb f o e=>?_) (λq=>nomatch q) (λl q=>by cases q;exact ⟨by decide,U⟩) (Nf _ i rfl) λL M t N O Q=>?_⟩
   .exact (Ml _ _ (λq:S=b=>y (by rw [q];exact f))).trans e
   .exact H L M t N O λb o f g e=>Q b o f g ((Ml _ _ (LN g)).trans (a b o f e))
  |some l=>
   obtain ⟨z1,T⟩:=h1 l rfl
   refine KI (LX (items:=pO (some l)) (n:=c) (o:=_) x rfl ?_)
   refine KI (Nj (W.item j s _ _ r p λv C E U m a=>?_))
   have i:=a S _ G x
   have ej:j=(j-1)+1:=by omega
   have nx:argBest u j=if u j (argBest u (j-1)) then j else argBest u (j-1):=by
    conv=>lhs;rw [ej]
    rw [argBest,<-ej]
   refine KI (K5 (KI (Nj (Mp (KI (J j (argBest u (j-1)) v l _ _ _ U T ?_))))))
   refine KI (Mp (Ma ?_))
   refine KI (Nh (K5 ?_))
   cases f:u j (argBest u (j-1)) with
   |true=>
    rw [f,K4 rfl] at nx
    refine KI (Ob (hz:=show 2<=sizeLine from by decide) i rfl (KI (Nh ?_)))
    rw [Y]
    refine K5 ⟨Nx MY _,ih (j+1) _ (some v) _ Z6 r (W.frame _ _ _ m λb f o e=>?_) (λq=>nomatch q) (λl q=>by cases q;exact ⟨by omega,by rw [MG,nx];exact U⟩) (Nf _ i rfl) λL M t N O Q=>?_⟩
    .exact (Ml _ _ (λq:S=b=>y (by rw [q];exact f))).trans e
    .exact H L M t N O λb o f g e=>Q b o f g ((Ml _ _ (LN g)).trans (a b o f e))
   |false=>
    rw [f,KS K0] at nx
    refine KI (Nh ?_)
    rw [Y]
    refine K5 ⟨Nx MY _,ih (j+1) _ (some l) c Z6 r m (λq=>nomatch q) (λl q=>by cases q;exact ⟨by omega,by rw [MG,nx];exact T⟩) i λL M t N O Q=>?_⟩
    exact H L M t N O λb o f g e=>Q b o f g (a b o f e)
end
section
variable {prog:Program}{w:World}{A:Around}{E:Value->Shared->Prop}{s:Shared}
def zm{Q:Value->Shared->Prop}
  (h:wpAny (model prog w) A.in1 (pyIter x) (λr a=>∃I f j n P St g,r=.ref I/\Walks prog w A.in1 I f j n P St/\St 0 a.heap/\(∀b∈f,b<a.heap.objs.size)/\CmpOf prog w A.in1 .Gt P g/\
   ∀v i k,(n=0->v=d)->(0<n->P (argBest g (n-1)) v)->(∀b o,b∉j->a.heap.get? b=some o->i.get? b=some o)->Q v {a with heap:=i,toks:=k}) E s):
  wpAny (model prog w) A (call (.builtin "max") [x] [("default",d)]) Q E s:=by
 have t:(toString "max"++toString ".loop":String)="max.loop":=by decide
 refine kmk_tree F.kind_max F.plain_max F.entry_max (GA x d) ?_
 refine KI (Po (show Builtin.Builtins.bindParams "max" ["key","default"] 0 ⟨[],[("default",d)]⟩=pure [none,some d] from rfl) ?_)
 refine KI (K5 (KI (Mh h (λr a u=>?_) λ_ _ e=>e)))
 obtain ⟨I,f,j,n,P,St,g,rfl,W,l,m,c,y⟩:=u
 refine KI (Mj ?_)
 have p:a.heap.objs.size∉f:=λz=>Mc _ (m _ z)
 rw [t]
 refine K5 ⟨Nx MY _,Ft W g c a.heap.objs.size p d n 0 _ none 0 (PD n) (Ll n) (W.frame _ _ _ l λb _ o e=>KO _ e) (λ_=>rfl) (λJ q=>nomatch q) (Lc _ rfl) λv i k B C G=>?_⟩
 exact y v i k B C λb o H e=>G b o H (Ls (Lf e)) (KO _ e)
end
def jc (is:List Int)(n:Int):Int:=match is with
 |[]=>n
 |i::r=>r.foldl max i
def AH (f:Nat->Int):∀k,f (argBest (λi j=>decide (f i>f j)) k)=((List.range k).map λi=>f (i+1)).foldl max (f 0)
 |0=>rfl
 |k+1=>by
  have a:=AH f k
  rw [List.range_succ,Lq,Mq,<-a]
  show f (if decide (f (k+1)>f (argBest _ k))=true then k+1 else argBest _ k)=max (f (argBest _ k)) (f (k+1))
  by_cases h:f (k+1)>f (argBest (λi j=>decide (f i>f j)) k)
  .rw [K4 (Ln h)];omega
  .rw [KS (by simpa using h)];omega
def Gr{is:List Int}(h:0<is.length):jc is n=is.getD (argBest (λi j=>decide (is.getD i 0>is.getD j 0)) (is.length-1)) 0:=by
 have:=AH (λi=>is.getD i 0) (is.length-1)
 rw [this]
 cases is with
 |nil=>simp at h
 |cons i r=>
  show r.foldl max i=_
  have e:(List.range ((i::r).length-1)).map (λk=>(i::r).getD (k+1) 0)=r:=by
   refine List.ext_getElem Z8 λk b a=>?_
   simp [List.getD,a]
  rw [e]
  rfl
section
variable {X:Cx}
def AW (K:PySem.W.Frag)(x y:V)(H:Hp)(Q:VK):Prop:=∃a is n,x=.ref a/\y=.int n/\(aO K H a (is.map V.int)\/bo K H a (is.map V.int))/\Q (.int (jc is n)) H
def u3 (K:PySem.W.Frag)(te td:TE):TE:=λσ H Q=>bb te bv σ H λvs H1=>bb td bv σ H1 λzs H2=>∃x y,vs=[x]/\zs=[y]/\AW K x y H2 Q
def Jh(T:X.calm=true)(I:Inv X l N H s)(U:RelV x u)(Y:RelV y v)(h:AW X.K x y H Q):wpAny (model X.prog X.w) X.A (call (.builtin "max") [u] [("default",v)]) (EP X l N Q) X.xe s:=by
 obtain ⟨a,is,n,rfl,rfl,m,q⟩:=h
 cases U
 obtain ⟨r,rfl⟩:=Y
 have t:∀{c:List Value} (d:a9 (is.map V.int) c) {P:Nat->Value->Prop},(∀i w,P i w↔c.toArray[i]?=some w)->CmpOf X.prog X.w X.A.in1 .Gt P (λi j=>decide (is.getD i 0>is.getD j 0)):=λ{c} d {P} hP=>CmpOf.ints_gt (λi=>is.getD i 0) λi w f=>by
  have f:=(hP i w).mp f
  have f:c[i]?=some w:=by simpa using f
  have hi:i<c.length:=(KJ.mp f).1
  have B:=d.length
  rw [KP] at B
  have k:(is.map V.int)[i]?=some (.int (is.getD i 0)):=by
   rw [KZ,KL Z6,List.getD,KL Z6]
   rfl
  obtain ⟨w',C,E⟩:=d.get k
  rw [f] at C
  cases C
  exact E
 have done:∀{c:List Value} (d:a9 (is.map V.int) c) {w:Value},(c.toArray.size=0->w=.int n r)->(0<c.toArray.size->c.toArray[argBest (λi j=>decide (is.getD i 0>is.getD j 0)) (c.toArray.size-1)]?=some w)->RelV (.int (jc is n)) w:=λ{c} d {w} h0 h1=>by
  have B:=d.length
  rw [KP] at B
  by_cases z:is.length=0
  .have:is=[]:=M1 z
   subst this
   rw [h0 (by rw [Lb];exact B.symm)]
   exact ⟨r,rfl⟩
  .have f:=h1 (by simp;omega)
   have f:c[argBest (λi j=>decide (is.getD i 0>is.getD j 0)) (is.length-1)]?=some w:=by
    rw [Lb,<-B] at f
    simpa using f
   have hi:=(KJ.mp f).1
   have k:(is.map V.int)[argBest (λi j=>decide (is.getD i 0>is.getD j 0)) (is.length-1)]?=some (.int (jc is n)):=by
    rw [Gr Z6,KZ,KL Z6,List.getD,KL Z6]
    rfl
   obtain ⟨w',C,E⟩:=d.get k
   rw [f] at C
   cases C
   exact E
 have O:X.A.in1.handled=none:=I.ok.hd T
 rcases m with m|m
 .obtain ⟨c,d,p,hz⟩:=I.list m
  have g:a<s.heap.objs.size:=by obtain ⟨_,e,_⟩:=p.isList;exact Lf e
  refine zm (Mt p.isList ?_)
  refine ⟨s.heap.objs.size,_,_,c.toArray.size,_,_,_,rfl,Walks.list (A:=X.A.in1) O _ a (Ls g) c.toArray,⟨⟨_,Lc _ rfl,rfl,rfl⟩,p.isList.push _⟩,λb k=>?_,t d λi w=>Iff.rfl,λw h' G J L M=>?_⟩
  .show b<(s.heap.push _).objs.size
   rw [Md]
   simp only [KY,Lu,LO] at k
   rcases k with rfl|rfl
   .exact MW _
   .exact NN g
  .refine ⟨.int (jc is n),H,I.kept (t':=G) (λb o e=>M b o (λz=>?_) (KO _ e)),done d J L,q⟩
   have:b=s.heap.objs.size:=by simpa using z
   exact absurd (Lf e) (by rw [this];exact Mc _)
 .obtain ⟨c,d,p,hz⟩:=I.tuple m
  have g:a<s.heap.objs.size:=by obtain ⟨_,e,_⟩:=p;exact Lf e
  refine zm (NC p ?_)
  refine ⟨s.heap.objs.size,_,_,c.toArray.size,_,_,_,rfl,Walks.tuple (A:=X.A.in1) O _ a (Ls g) c.toArray,⟨⟨_,Lc _ rfl,rfl,rfl⟩,p.push _⟩,λb k=>?_,t d λi w=>Iff.rfl,λw h' G J L M=>?_⟩
  .show b<(s.heap.push _).objs.size
   rw [Md]
   simp only [KY,Lu,LO] at k
   rcases k with rfl|rfl
   .exact MW _
   .exact NN g
  .refine ⟨.int (jc is n),H,I.kept (t':=G) (λb o e=>M b o (λz=>?_) (KO _ e)),done d J L,q⟩
   have:b=s.heap.objs.size:=by simpa using z
   exact absurd (Lf e) (by rw [this];exact Mc _)
def Bk(n:X.mg "max"=none)(o:PE X e g)(q:PE X d i)(r:X.calm=true:=by rfl)(t:Gl X "max":=by rfl)(j:starEach [e] X.env=(false,eval e X.env)::starEach [] X.env:=by rfl)(f:starEach [] X.env=[]:=by rfl):
  PE X (.Call (.Name "max" p) [e] [⟨some "default",d,a⟩] c) (u3 X.K g i):=by
 intro b s m H Q I h
 refine ME (ic I t n PyProof.Rows.boot_max ?_ Z5 Z5)
 have k:PA X [e] (bb g bv):=ah o ap j
 have l:PK X [⟨some "default",d,a⟩] (bb i bv):=Bz q A9
 refine PyProof.Rows.callWith_kw (aQ (k c b s m H _ I h) λT w ⟨U,z,A,B,C⟩=>?_) (by rw [j,f];rfl) (by rw [j,f];rfl)
 refine aQ (l c b w m z _ A C) λY s2 ⟨zs,H2,E,G,x,y,J,L,M⟩=>?_
 subst J L
 obtain ⟨u,rfl,N⟩:=OU B
 obtain ⟨v,rfl,O⟩:=OU G
 exact Jh r E N O M
end
end L2
namespace FL
open PySem L2
section
variable {G:Hp}{σ:St}{ta tb:TE}{K:PySem.W.Frag}{is:List Int}{n:Int}
def uB:∀{H:Hp} {a:List V} {is:List Int},aD H a (is.map D.int)->a=is.map V.int
 |H,_,[],.nil=>rfl
 |H,_,i::r,.cons q t=>by rw [q.dP,uB t];rfl
def Jv (d:ae ta G σ (.lst (is.map D.int)))(f:ae tb G σ (.int n)):ae (u3 K ta tb) G σ (.int (jc is n)):=
 λM H s l Q k=>d M H s l _ λv g b h=>f M g (s.trans (b.but M)) (l.same b) _ λy i c j=>by
  obtain ⟨a,p,rfl,m,o⟩:=h.eA
  have e:=uB o
  subst e
  exact ⟨.ref a,y,rfl,rfl,a,is,n,rfl,j.dP,.inl (aO.of (c _ _ (ax m).2)),k _ i (b.trans c) (.int _)⟩
def Fy (d:ae ta G σ (.tup (is.map D.int)))(f:ae tb G σ (.int n)):ae (u3 K ta tb) G σ (.int (jc is n)):=
 λM H s l Q k=>d M H s l _ λv g b h=>f M g (s.trans (b.but M)) (l.same b) _ λy i c j=>by
  obtain ⟨a,p,rfl,m,o⟩:=h.e9
  have e:=uB o
  subst e
  exact ⟨.ref a,y,rfl,rfl,a,is,n,rfl,j.dP,.inr (bo.of (c _ _ (ax m).2)),k _ i (b.trans c) (.int _)⟩
end
end FL
namespace L2
open PySem PySem.Spec PyProof.Rows
open AutoSeq1 (wpAny_loadPart')
abbrev nM (it:Addr)(n:Int):Obj:={cls:=.type "enumerate",data:=.fields #[.none,.bool false,.ref it,rawInt n,.none,.none]}
abbrev kq (l:Addr):Obj:={cls:=.type "list_iterator",data:=.fields #[.ref l,.int 0 0]}
set_option maxHeartbeats 2000000 in
def FQ (l:Addr)(a:Array Value)(k:Nat)(e:Option Addr)(m:Array (Option Value))(n:Int)(t:Tok)(q:Builtin.SmallTypes.fitsIndex n=true):
  Meets (Builtin.«enumerate.__new__» ⟨[.type "enumerate",.ref l],[("start",.int n t)]⟩) (λ_ R s=>s.heap.get? l=some {cls:=.type "list",dict:=e,data:=.seq a k,slots:=m}/\
   R (.ok (.ret (.ref (s.heap.push (kq l)).objs.size))) {s with heap:=(s.heap.push (kq l)).push (nM s.heap.objs.size n)}):=
 .of_wp λi w A R s h=>by
  obtain ⟨o,g,d,p,os⟩:=s
  obtain ⟨b,h⟩:=h
  have j:=sub_enumerate
  have f:Heap.IsList (Shared.heap ⟨o,g,d,p,os⟩) l a:=⟨_,b,rfl,k,rfl⟩
  wp_walk using wpAny_loadPart' b
  refine wpAny_stack_any λst=>K5 ?_
  split
  .rename_i c _ _ _ _ _
   cases (c==Value.type "enumerate")
   .wp_walk using wpAny_loadPart' b,Mt f
    exact ⟨_,rfl,h⟩
   .wp_walk using wpAny_loadPart' b,Mt f
    exact ⟨_,rfl,h⟩
  .wp_walk using wpAny_loadPart' b,Mt f
   exact ⟨_,rfl,h⟩
def D4 (a b:Value):checkTypeCall "enumerate" ⟨[a],[("start",b)]⟩=pure ():=by kernel_rfl
def DH (a b:Value):checkBuiltinCall "enumerate.__new__" ⟨[.type "enumerate",a],[("start",b)]⟩=pure ():=by kernel_rfl
def Gm (c a b:Value):argsOk "object.__init__" ⟨[c,a],[("start",b)]⟩:=by unfold argsOk;kernel_rfl
section
variable {prog:Program}{w:World}{A:Around}{E:Value->Shared->Prop}{s:Shared}
def Il:Meets (Builtin.«object.__init__» ⟨[c,a],[("start",b)]⟩) (λ_ R s=>s.TypeIs c "enumerate"/\R (.ok (.ret .none)) s):=by
 refine Meets.of_wp λprog w A R s d=>?_
 obtain ⟨g,e⟩:=d
 have h:=Oz.init.lookup
 have i:=Oz.made
 have f:(some "enumerate.__new__" !=some "object.__new__")=true:=by decide
 repeat (any_goals (first|(assumption)|wp_step))
 exact ⟨_,rfl,e⟩
def Iq{Q:Value->Shared->Prop}(L:s.heap.IsList l a)(M:Builtin.SmallTypes.fitsIndex n=true)
  (h:∀i,IsEnum i (s.heap.objs.size+1) s.heap.objs.size n .none->i.IsListIter s.heap.objs.size l 0->i.objs.size=s.heap.objs.size+2->(∀b o,s.heap.get? b=some o->i.get? b=some o)->Q (.ref (s.heap.objs.size+1)) {s with heap:=i}):
  wpAny (model prog w) A (call (.type "enumerate") [.ref l] [("start",.int n t)]) Q E s:=by
 obtain ⟨⟨c,m,dt,N⟩,O,y,k,z⟩:=L
 simp only at y z
 subst y z
 have d:=Oz
 obtain ⟨c0,tl,B⟩:=d.mro
 have p:=d.made
 have C:=d.sub
 have T:=D4 (.ref l) (.int n t)
 refine wpAny_call (codeAny_of_tree ?_)
 show wpAny _ _ (callAny (.type "enumerate") _) _ _ _
 refine K5 ⟨Code.quiet_builtin _ Z9,NB F.entry_type_call ?_⟩
 rw [Around.under_plain (weight_type_call_type "enumerate" [.ref l] [("start",.int n t)]) (units_type_call_type "enumerate" [.ref l] [("start",.int n t)])]
 have h1:=d.notType
 have h2:=d.canCreate
 repeat (any_goals (first|(assumption)|wp_step))
 have g:=FQ l a k m N n t M
 have q:(s.heap.push (kq l)).objs.size=s.heap.objs.size+1:=Md ..
 have G:IsEnum ((s.heap.push (kq l)).push (nM s.heap.objs.size n)) (s.heap.objs.size+1) s.heap.objs.size n .none:=by
  have:=Lc (s.heap.push (kq l)) (o:=nM s.heap.objs.size n) rfl
  rw [q] at this
  exact this
 refine NL (codeAny_call_builtin d.plain F.entry_enumerate_new (Po (DH _ _) (g prog w A.in1 (wants (λj H=>j=.ref (s.heap.objs.size+1)/\H={s with heap:=(s.heap.push (kq l)).push (nM s.heap.objs.size n)}) E) s ⟨O,⟨by rw [q],rfl⟩⟩))) λr H u=>?_
 cases r with
 |error e=>exact u
 |ok U=>
  cases U with
  |ret j=>
   obtain ⟨rfl,rfl⟩:=u
   have I:({s with heap:=(s.heap.push (kq l)).push (nM s.heap.objs.size n)}:Shared).TypeIs (.ref (s.heap.objs.size+1)) "enumerate":=⟨_,G,rfl⟩
   have Y:=d.init.lookup
   have ac:=d.init.bind (.ref (s.heap.objs.size+1))
   repeat (any_goals (first|(assumption)|wp_step))
   refine NL (codeAny_call_builtin d.init.plain F.entry_object_init (d.init.check _ _ _ _ _ _ _ _ I (Gm _ _ _) (Il prog w A.in1 (wants (λr J=>r=.none/\J={s with heap:=(s.heap.push (kq l)).push (nM s.heap.objs.size n)}) E) _ ⟨I,rfl,rfl⟩))) λr2 J f=>?_
   cases r2 with
   |error e=>exact f
   |ok v=>
    cases v with
    |ret r=>
     obtain ⟨rfl,rfl⟩:=f
     repeat (any_goals (first|(assumption)|wp_step))
     exact h _ G ⟨_,KO _ (Lc _ rfl),rfl,rfl⟩ (by rw [Md,q]) λb o x=>KO _ (KO _ x)
    |_=>exact f.elim
  |_=>exact u.elim
end
end L2
namespace L2
open PySem PySem.Spec PyProof.Rows
def JJ {prog:Program}{w:World}{A:Around}{it:Addr}{fp:List Addr}{m:Nat}{P:Nat->Value->Prop}{St:Nat->Heap->Prop}(D:Draws prog w A it fp m P St)(n:Nat):
  Draws prog w A it fp (n+m) (λi v=>P (i-n) v) (λi h=>n<=i/\St (i-n) h) where
 live:=λ_ h st=>D.live _ h st.2
 frame:=λ_ h h' st k=>⟨st.1,D.frame _ h h' st.2 k⟩
 item:=λi s Q E hi st k=>D.item (i-n) s Q E (by have:=st.1;omega) st.2 λx h' tk hx hst sb=>by
  have e:i+1-n=i-n+1:=by have:=st.1;omega
  exact k x h' tk hx ⟨by have:=st.1;omega,by rw [e];exact hst⟩ sb
 done:=λs Q E st k=>D.done s Q E (by have:=st.2;rwa [MZ] at this) k
def Kg {prog:Program}{w:World}{A:Around}(hh:A.handled=none)(it l:Addr)(hne:l≠it)(items:Array Value)(i:Nat)(hi:items[i]?=none):
  Draws prog w A it [it,l] i (λ_ _=>True) (λj h=>j=i/\h.IsListIter it l i/\h.IsList l items) where
 live:=λ_ _ st=>let ⟨o,ho,_⟩:=st.2.1;⟨o,ho⟩
 frame:=λ_ _ _ st k=>⟨st.1,st.2.1.at λo e=>k it Z8 o e,st.2.2.at λo e=>k l Z8 o e⟩
 item:=λj s Q E hj st k=>by have:=st.1;omega
 done:=λs Q E st k=>wpAny_nextOf_list_end hh st.2.1 st.2.2 hi k
def Ap (K:PySem.W.Frag)(a:Addr)(n:Nat):It:=
 ⟨λi H=>∃xs x,aO K H a xs/\xs[i]?=some x,
  λi H v H'=>∃T x,H T=none/\v=.ref T/\H'=upd H T (.tup [.int ((n+i:Nat):Int),x])/\∀xs,aO K H a xs->xs[i]?=some x,
  λi H=>∃xs,aO K H a xs/\xs.length<=i⟩
def JO {P:Program}{w:World}{K:PySem.W.Frag}{es:List Expr}{kk:Nat}{tp:Pos}{e it a:Addr}(n:Nat)(hne:e≠it)(hea:e≠a)(hai:a≠it):
  iJ P w K (.Tuple es kk tp) (Ap K a n) [e,it] e (λi h=>(∃old,IsEnum h e it ((n+i:Nat):Int) old)/\h.IsListIter it a i) where
 mem:=by simp
 obj:=λi h ⟨⟨old,he⟩,⟨o1,e1,_,d1⟩⟩ q hq=>by
  simp only [KY,Lu,LO] at hq
  rcases hq with rfl|rfl
  .exact ⟨_,he,λv z=>nomatch z⟩
  .exact ⟨_,e1,λv z=>by rw [d1] at z;cases z⟩
 keep:=λi h h' ⟨⟨old,he⟩,⟨o1,e1,r1⟩⟩ k=>⟨⟨old,k _ Z8 _ he⟩,⟨o1,k _ Z8 _ e1,r1⟩⟩
 item:=by
  intro X hP hw hK hc i pins s σ H E I hf st hg
  subst hP hw hK
  obtain ⟨xs,x,hq,hx⟩:=hg
  obtain ⟨its,rv,p,hz⟩:=I.list hq
  obtain ⟨u,hu,ru⟩:=rv.get hx
  obtain ⟨⟨old,he⟩,hit⟩:=st
  have hi:i<its.toArray.size:=by have:=(KJ.mp hu).1;simpa using this
  have D:=JJ (Draws.list (prog:=X.prog) (w:=X.w) (A:=X.A.in1) (I.ok.hd hc) it a hai its.toArray) n
  refine wpAny_pyNext_enum_itemD (i:=n+i) D he ⟨LS _ _,by rw [MZ];exact ⟨hit,p.isList⟩⟩ Z6 hne (by simp [hne,hea]) λu' h' tk hu' heo st' hT hzz kp=>?_
  have euu:u'=u:=by
   have h1:its.toArray[n+i-n]?=some u':=hu'
   rw [MZ] at h1
   have h2:its[i]?=some u':=by simpa using h1
   rw [hu] at h2
   exact (K8 h2).symm
  subst euu
  have hit':h'.IsListIter it a (i+1):=by
   have:=st'.2.1
   rw [show n+i+1-n=i+1 by omega] at this
   exact this
  refine ⟨_,rfl,?_⟩
  refine Oy (s:={s with heap:=h',toks:=tk+1}) heo λh2' he2 sb=>?_
  have hTe:s.heap.objs.size≠e:=M3 (Lf he)
  have hT2:h2'.get? s.heap.objs.size=some {cls:=.type "tuple",data:=.seq #[.int ((n+i:Nat):Int) tk,u']}:=(sb.2 _ hTe).trans hT
  have kp2:∀c o,c∉[e,it]->s.heap.get? c=some o->h2'.get? c=some o:=λc o hc e'=>(sb.2 c λq=>hc (by simp [q])).trans (kp c o (λq=>hc (by simp [q])) (λq=>hc (by simp [q])) e')
  have hTn:H s.heap.objs.size=none:=I.aw.fresh (KR _)
  refine ⟨.ref s.heap.objs.size,upd H s.heap.objs.size (.tup [.int ((n+i:Nat):Int),x]),I.wq (t':=tk+1) hf (KR _) kp2 ⟨by show 2<=sizeLine;decide,[.int ((n+i:Nat):Int) tk,u'],.cons ⟨_,rfl⟩ (.cons ru .nil),⟨_,hT2,rfl,_,rfl⟩⟩,rfl,⟨_,x,hTn,rfl,rfl,λys hy=>by rw [I.sO hy hq];exact hx⟩,⟨⟨u',by have:=he2;rw [show ((n+i:Nat):Int)+1=((n+(i+1):Nat):Int) by omega] at this;exact this⟩,hit'.extBut sb.extBut (LN hne)⟩,λb' hb=>?_⟩
  obtain ⟨ob,e',_⟩:∃ob,s.heap.get? b'=some ob/\True:=by
   simp only [KY,Lu,LO] at hb
   obtain ⟨o1,e1,_⟩:=hit
   rcases hb with rfl|rfl
   .exact ⟨_,he,trivial⟩
   .exact ⟨_,e1,trivial⟩
  rw [aC (Ls (Lf e'))]
  exact (hf b' hb).1
 done:=by
  intro X hP hw hK hc i pins s σ H E I hf st hg
  subst hP hw hK
  obtain ⟨xs,hq,hx⟩:=hg
  obtain ⟨its,rv,p,hz⟩:=I.list hq
  obtain ⟨⟨old,he⟩,hit⟩:=st
  have hl:=rv.length
  exact wpAny_pyNext_enum_endD (Kg (prog:=X.prog) (w:=X.w) (A:=X.A.in1) (I.ok.hd hc) it a hai its.toArray i (by simp;omega)) he ⟨rfl,hit,p.isList⟩ λh' eb=>⟨rfl,I.wA (t':=s.toks) hf λc o hcc e=>eb c o (λq=>hcc (by simp [q])) e⟩
 self:=λA i s Q E st h=>let ⟨⟨_,he⟩,_⟩:=st;NO he h
def Gk 
  (h:wpAny M A (spliced (backTo c (starEach (e::ca) b))) (λl g=>wpAny M A (evalAll ((backToKw c (keywordEach d b)).map (·.2)))
   (λm k=>wpAny M A (call (.type T) l (((backToKw c (keywordEach d b)).filterMap (·.1)).zip m)) Q E k) E g) E s)
  (n:backTo c (starEach (e::ca) b)=(false,eval e b)::backTo c (starEach ca b)) (i:(backTo c (starEach (e::ca) b)).any (·.1)=false)
  (f:(backToKw c (keywordEach d b)).all (·.1.isSome)=true:=by rfl) (j:(backToKw c (keywordEach d b)).any (·.1.isNone)=false:=by rfl):
  wpAny M A (callWith c (.type T) [] (backTo c (starEach (e::ca) b)) (backToKw c (keywordEach d b))) Q E s:=by
 have o:wpAny M A (evalArgs (.type T) true (backTo c (starEach (e::ca) b)) (backToKw c (keywordEach d b))) (λa g=>wpAny M A (call (.type T) a.pos a.kw) Q E g) E s:=by
  rw [n] at h⊢
  exact evalArgs_kwB f h
 unfold callWith
 refine KI (Mp (Mh o (λa g q=>KI (OM ?_)) λ_ _ z=>z))
 simp only [i,j,Bool.or_false]
 refine KI (K5 (KI (Mh q (λr k p=>KI (Mp (wpAny_point (K5 p)))) λ_ _ z=>z)))
section
variable {X:Cx}
def zv (K:PySem.W.Frag)(te tb:TE):TI:=λσ H R=>bb te bv σ H λvs H1=>bb tb bv σ H1 λzs H2=>∃a n,vs=[.ref a]/\zs=[.int ((n:Nat):Int)]/\n<2^62/\(∃xs,aO K H2 a xs)/\R (Ap K a n) H2
def EQ(N:X.mg "enumerate"=none)(O:PE X a o)(Q:PE X b r)(T:Gl X "enumerate":=by rfl)(t:starEach [a] X.env=(false,eval a X.env)::starEach [] X.env:=by rfl)(j:starEach [] X.env=[]:=by rfl):
  PI X (.Tuple J L M) (.Call (.Name "enumerate" p) [a] [⟨some "start",b,f⟩] i) (zv X.K o r):=by
 intro d s w H R I h
 have x:PA X [a] (bb o bv):=ah O ap t
 have y:PK X [⟨some "start",b,f⟩] (bb r bv):=Bz Q A9
 refine ME (ic I T N Op ?_ Z5 Z5)
 refine Gk (aQ (x i d s w H _ I h) λus U ⟨vs,Y,I1,r1,q1⟩=>?_) (by rw [t,j];rfl) (by rw [t,j];rfl)
 refine aQ (y i d U w Y _ I1 q1) λws g ⟨zs,z,m,rz,a,n,e1,e2,hn,⟨xs,hq⟩,q⟩=>?_
 subst e1 e2
 obtain ⟨u,rfl,ru⟩:=OU r1
 obtain ⟨v,rfl,A⟩:=OU rz
 cases ru
 obtain ⟨tk,rfl⟩:=A
 obtain ⟨ac,A,B,af⟩:=m.list hq
 have k:a<g.heap.objs.size:=by obtain ⟨_,e,_⟩:=B.isList;exact Lf e
 refine Iq B.isList (by unfold Builtin.SmallTypes.fitsIndex;simp;omega) λC E g2 hz kp=>?_
 have I3:Inv X d w z {g with heap:=C}:=m.kept (t':=g.toks) kp
 refine NO (s:={g with heap:=C}) E ?_
 refine ⟨g.heap.objs.size+1,[g.heap.objs.size+1,g.heap.objs.size],_,_,z,rfl,I3,JO n (Nat.succ_ne_self _) (M3 (NN k)) (Ls k),⟨⟨_,E⟩,g2⟩,λc G=>?_,q⟩
 have l:g.heap.objs.size<=c:=by
  simp only [KY,Lu,LO] at G
  rcases G with rfl|rfl
  .exact LS _ _
  .exact KR _
 exact m.gz l (m.aw.fresh l)
end
end L2
namespace FL
open PySem L2
def kS (n:Nat)(xs:List D):List D:=xs.zipIdx.map λp=>.tup [.int ((n+p.2:Nat):Int),p.1]
def IL{j:Nat}(h:(kS n a)[j]?=some d):∃x,a[j]?=some x/\d=.tup [.int ((n+j:Nat):Int),x]:=by
 unfold kS at h
 rw [KZ,Pr] at h
 cases e:a[j]? with
 |none=>rw [e] at h;cases h
 |some x=>rw [e] at h;exact ⟨x,rfl,by have:=K8 h;rw [<-this];simp⟩
def GV{K:PySem.W.Frag}(C:n<2^62)(h:ae r G m (.lst w))(E:ae t G m (.int ((n:Nat):Int))):Walk (zv K r t) G m (kS n w):=λM H s l R k=>h M H s l _ λv I o J=>E M I (s.trans (o.but M)) (l.same o) _ λz L p N=>by
 obtain ⟨a,c,rfl,b,f⟩:=J.eA
 have b:=p.but M _ _ b
 have f:=f.mono (p.but M)
 refine ⟨a,n,rfl,by rw [N.dP],C,⟨c,aO.of (ax b).2⟩,k _ L (o.trans p) (λj d O Q U g q=>?_) (λO Q g=>?_)⟩
 .have i:=(ax (g _ _ b)).2
  obtain ⟨x,Y,rfl⟩:=IL U
  obtain ⟨u,y,ru⟩:=f.get Y
  refine ⟨⟨c,u,aO.of i,y⟩,λv ac ⟨T,x',A,e,eH,hy⟩=>?_⟩
  have B:=hy c (aO.of i)
  rw [y] at B
  cases B
  subst e eH
  refine ⟨cG A _,?_⟩
  exact ou q A (.cons (.int _) (.cons (ru.mono g) .nil))
 .have i:=(ax (g _ _ b)).2
  refine ⟨c,aO.of i,?_⟩
  rw [f.length]
  simp [kS]
end FL
namespace L2
open PySem PySem.Spec PyProof.Rows
section
variable {X:Cx}{pins:List (Addr×Obj)}{σ:List (Option V)}{H H':Hp}{s:Shared}{h':Heap}
def Inv.Ga{ch:List Addr}(I:Inv X pins σ H s)
  (f:∀b∈ch,(b∈X.ex\/X.s₀.heap.get? b=none)/\b≠X.env.locals/\(∀x c,X.env.cells.lookup x=some c->c≠b)/\∀p∈X.pn++pins,p.1≠b)
  (keep:∀b o,b≠X.env.locals->b∉X.fs->b∉ch->s.heap.get? b=some o->H b=none->h'.get? b=some o)
  (y:∀b o,b≠X.env.locals->b∈X.fs->b∉ch->s.heap.get? b=some o->H b=none->∃O,h'.get? b=some {o with slots:=O}) (free:∀b o,b∉ch->s.heap.get? b=some o->H b=none->H' b=none)
  (B:∀b o,b∉ch->s.heap.get? b=some o->∃G,h'.get? b=some G)
  (iD:∀b A,H b=some (.tup A)->H' b=some (.tup A)) (hZ:∀b o u,H b=some (.cK o u)->H' b=some (.cK o u)) (ir:∀b N,H b=some (.jM N)->∃J,H' b=some (.jM (N++J)))
  (ns:∀m,s.heap.Ns X.env.locals m->h'.Ns X.env.locals m) (aw:cT X.prog X.w H' h') (hg:AllBare g'):
  Inv X pins σ H' {s with heap:=h',gens:=g',drawn:=d',toks:=t'}:=by
 have L:∀b o,X.s₀.heap.get? b=some o->b≠X.env.locals:=λb o e=>Ls (Lw (Lf e) I.ok.above)
 have j:∀b o,X.s₀.heap.get? b=some o->b∉X.ex->b∉ch:=λb o e a C=>by
  rcases (f b C).1 with z|z
  .exact a z
  .rw [z] at e;cases e
 have g:∀x c,X.env.cells.lookup x=some c->∀v,s.heap.IsCell c v->h'.IsCell c v:=λx c e v ⟨o,E,Q⟩=>by
  have h:c∉ch:=λz=>(f c z).2.2.1 x c e rfl
  by_cases U:c∈X.fs
  .obtain ⟨O,q⟩:=y c o (I.jz x c e) U h E (I.gH x c e)
   exact ⟨_,q,Q⟩
  .exact ⟨o,keep c o (I.jz x c e) U h E (I.gH x c e),Q⟩
 refine ⟨I.ok,I.os,hg,⟨λb o e n C a=>?_,λb o e n C a=>?_,λb o e n a=>?_,λb o e a=>?_,λb A e=>iD b A (I.base.iD b A e),λb o A e=>hZ b o A (I.base.hZ b o A e),λb N e=>?_⟩,?_,λx c e=>?_,?_,λx c e=>?_,λp Y=>?_,aw,I.len⟩
 .exact keep b o (L b o e) C (j b o e a) (I.base.keep b o e n C a) (I.base.free b o e n a)
 .obtain ⟨O,t⟩:=I.base.slot b o e n C a
  obtain ⟨T,M⟩:=y b _ (L b o e) C (j b o e a) t (I.base.free b o e n a)
  exact ⟨T,M⟩
 .obtain ⟨G,t⟩:=I.base.there b o e a
  exact free b G (j b o e a) t (I.base.free b o e n a)
 .obtain ⟨G,t⟩:=I.base.there b o e a
  exact B b G (j b o e a) t
 .obtain ⟨m1,t⟩:=I.base.ir b N e
  obtain ⟨m2,M⟩:=ir b _ t
  exact ⟨m1++m2,by rw [M,Array.append_assoc]⟩
 .obtain ⟨m,hn,hl⟩:=I.loc
  refine ⟨m,ns m hn,λi x v t M e3=>?_⟩
  obtain ⟨u,r,l⟩:=hl i x v t M e3
  refine ⟨u,r,?_⟩
  rcases l with l|⟨k,c,e,z⟩
  .exact .inl l
  .exact .inr ⟨k,c,e,g x c e _ z⟩
 .obtain ⟨v,z⟩:=I.cell x c e
  exact ⟨v,g x c e v z⟩
 .obtain ⟨m,⟨o,_,_,E,_⟩,_⟩:=I.loc
  exact free _ o (λz=>(f _ z).2.1 rfl) E I.free
 .obtain ⟨v,o,E,Q⟩:=I.cell x c e
  exact free c o (λz=>(f c z).2.2.1 x c e rfl) E (I.gH x c e)
 .obtain ⟨e,n,ne,nf,d⟩:=I.pin p Y
  have h:p.1∉ch:=λz=>(f p.1 z).2.2.2 p Y rfl
  exact ⟨keep p.1 p.2 ne nf h e n,free p.1 p.2 h e n,ne,nf,d⟩
end
section
variable {X:Cx}{σ:St}{H:Hp}{s:Shared}{ea T:Addr}{cls fl:Value}{E:Value->St->Hp->Prop}
end
section
variable {P:Program}{w:World}{K:PySem.W.Frag}{mg:Str->Option Value}{base:Heap}
end
section
variable {X:Cx}{st:Stmt}{ca:List Stmt}{t u:TS}
end
section
variable {P:Program}{w:World}{K:PySem.W.Frag}{mg:Str->Option Value}{base:Heap}
end
end L2
namespace L2
open PySem PySem.Spec PyProof.Rows
section
variable {X:Cx}{pins:List (Addr×Obj)}{σ:St}{H:Hp}{s:Shared}
def Inv.freeze(I:Inv X pins σ H s)(e:H p=some (.dK a))(h:s.heap.get? p=some o):Inv X pins σ (upd H p (.cK o (.dK a))) s:=by
 have d:∀b u,H b=some u->u≠.dK a->b≠p:=λb u q i z=>by rw [z,e] at q;exact i (K8 q).symm
 refine I.Ga (h':=s.heap) (g':=s.gens) (d':=s.drawn) (t':=s.toks) (ch:=[]) (λb f=>nomatch f) (λb o _ _ _ q _=>q) (λb o _ _ _ q _=>⟨o.slots,q⟩) (λb o _ _ n=>?_) (λb o _ q=>⟨o,q⟩)
  (λb g q=>by rw [aC (d b _ q (by intro z;cases z))];exact q) (λb o u q=>by rw [aC (d b _ q (by intro z;cases z))];exact q) (λb k q=>⟨#[],by rw [aC (d b _ q (by intro z;cases z)),q];simp⟩) (λm j=>j) (λb u q=>?_) I.bare
 .rw [aC λz=>by rw [z,e] at n;cases n];exact n
 .by_cases f:b=p
  .subst f
   rw [aK] at q
   cases q
   refine ⟨h,?_⟩
   exact (I.aw b _ e).jO (λc v _ q=>q) (λc q=>by rw [aC (d c _ q (by intro z;cases z))];exact q) λc g q=>by rw [aC (d c _ q (by intro z;cases z))];exact q
  .rw [aC f] at q
   exact (I.aw b u q).jO (λc v _ q=>q) (λc q=>by rw [aC (d c _ q (by intro z;cases z))];exact q) λc g q=>by rw [aC (d c _ q (by intro z;cases z))];exact q
def An (te:TE):TE:=λσ H Q=>te σ H λx H1=>∃p kvs,x=.ref p/\H1 p=some (.dK kvs)/\∀o,Q x (upd H1 p (.cK o (.dK kvs)))
def Fv(h:PE X e c):PE X e (An c):=by
 intro pins s σ H Q I g
 refine aQ (h pins s σ H _ I g) λu i ⟨x,j,d,k,p,a,r,f,q⟩=>?_
 obtain ⟨_,_,t,_,l⟩:=(show bP X.prog X.w j i.heap p (.dK a) from d.aw p _ f)
 obtain ⟨m,b⟩:=l.dictAt
 obtain ⟨o,v,n,_⟩:=b
 exact ⟨x,_,d.freeze f n,k,q o⟩
def Ih {b:Type}{c:List (b×V)}{d:List (b×Value)}(h:KV c d):∀{i:Nat} {p:b×V},c[i]?=some p->∃q,d[i]?=some q/\p.1=q.1/\RelV p.2 q.2:=by
 unfold KV at h
 induction h with
 |nil=>intro i p e;cases e
 |cons a t f=>
  intro i p e
  cases i with
  |zero=>cases e;exact ⟨_,rfl,a⟩
  |succ i=>exact f e
def yG (d:Addr)(o:Obj)(kvs:List (aG×V)):It:=
 ⟨λi H=>i<kvs.length/\H d=some (.cK o (.dK kvs)),λi H x H'=>H'=H/\(kvs[i]?).map (·.2)=some x,λi H=>kvs.length<=i/\H d=some (.cK o (.dK kvs))⟩
def uX(I:Inv X pins σ H s)(e:H d=some (.cK o (.dK a)))(j:o.data=.dict i g):∃f,KV a f/\s.heap.DictAt (dq X.prog X.w) d f g:=by
 obtain ⟨k,_,_,f,bD,l⟩:=(show bP X.prog X.w H s.heap d (.cK o (.dK a)) from I.aw d _ e)
 obtain ⟨m,b⟩:=l.dictAt
 obtain ⟨p,n,c,q,h,r⟩:=id b
 rw [k] at c
 cases c
 rw [j] at h
 cases h
 exact ⟨f,bD,b⟩
end
def Es {P:Program}{w:World}{K:PySem.W.Frag}{tg:Expr}(d it:Addr)(o:Obj)(kvs:List (aG×V))(ep:Nat)(es:Array DictEntry)(hd:o.data=.dict es ep):iJ P w K tg (yG d o kvs) [it] it (λi h=>h.IsValIter it d i kvs.length ep) where
 mem:=by simp
 obj:=λi h st b hb=>by
  have e:b=it:=by simpa using hb
  subst e
  obtain ⟨o,e,c,d⟩:=st
  exact ⟨o,e,λv z=>by rw [d] at z;cases z⟩
 keep:=λi h h' st k=>let ⟨o,e,r⟩:=st;⟨o,k it Z8 o e,r⟩
 item:=by
  intro X hP hw hK hc i pins s σ H E I hf st hg
  subst hP hw hK
  obtain ⟨hi,hH⟩:=hg
  obtain ⟨vs,bD,hat⟩:=uX I hH hd
  have hl:=bD.length
  have hx:kvs[i]?=some kvs[i]:=KL hi
  obtain ⟨q,hq,rq⟩:=Ih bD hx
  obtain ⟨f0,f1,f2,f3,f4,f5⟩:=hf it Z8
  rw [hl] at st
  refine wpAny_pyNext_values_item (k:=q.1) (v:=q.2) st hat hq λh' st' sb=>?_
  have I1:Inv X pins σ H {s with heap:=h'}:=I.turned (t':=s.toks) (λb o hb e=>(sb.2 b hb).trans e) f0 f1 f3 f4 f5
  obtain ⟨o',e',c',d'⟩:=id st'
  rw [<-hl] at st'
  exact ⟨q.2,rfl,m5 (s:={s with heap:=h'}) e' c' d' Z5 ⟨kvs[i].2,H,I1,rq.2,⟨rfl,by rw [hx];rfl⟩,st',λb hb=>(hf b hb).1⟩⟩
 done:=by
  intro X hP hw hK hc i pins s σ H E I hf st hg
  subst hP hw hK
  obtain ⟨hi,hH⟩:=hg
  obtain ⟨vs,bD,hat⟩:=uX I hH hd
  have hl:=bD.length
  obtain ⟨f0,f1,f2,f3,f4,f5⟩:=hf it Z8
  rw [hl] at st
  exact wpAny_pyNext_values_end (I.ok.hd hc) st hat (LI Z6) λh' eb=>⟨rfl,I.turned (t':=s.toks) (λb o hb e=>eb b o hb e) f0 f1 f3 f4 f5⟩
 self:=λ_ _ _ _ _ st h=>wpAny_pyIter_valiter st h
abbrev pC (p d:Addr):HO:=.ext λh=>h.IsValuesView p d
section
variable {X:Cx}
def A5:V->List V->Hp->VK->Prop:=λx xs H Q=>∃d kvs,x=.ref d/\xs=[]/\Rd H d (.dK kvs)/\∀p,H p=none->Q (.ref p) (upd H p (pC p d))
def C5:qJ X "dict.values" A5:=by
 intro a s t H x y v A Q I f g h
 obtain ⟨d,i,rfl,rfl,e,q⟩:=h
 cases f
 cases g
 obtain ⟨z,j,l,bD,c⟩:=hJ I.aw e
 refine M5 OR c.typeIs PySem.F.entry_dict_values (PySem.F.args_dict_values_1 _) (meets_dict_values (dq X.prog X.w) d j) ⟨⟨l,c⟩,?_⟩
 have m:H s.heap.objs.size=none:=I.aw.fresh (KR _)
 refine ⟨.ref s.heap.objs.size,upd H s.heap.objs.size (pC s.heap.objs.size d),I.laid (t':=s.toks) (λb u q=>KO _ q) (KR _) ?_,rfl,q _ m⟩
 have n:(s.heap.push {cls:=.type "dict_values",data:=.fields #[.ref d]}).IsValuesView s.heap.objs.size d:=⟨_,Lc _ rfl,rfl,rfl⟩
 exact ⟨n,⟨_,Lc _ rfl⟩,λB C ⟨o,p,r⟩ k=>⟨o,k o p,r⟩⟩
def yT (to:TE):TE:=λσ H Q=>to σ H λx H1=>(∃d,x=.ref d/\qK H1 d)/\A5 x [] H1 Q
def Jj{a b:Pos}(k:PE X o g)(e:attributeBase o "values" X.env (eval o X.env)=eval o X.env:=by rfl)(f:(a.endLine==b.line)=true:=by rfl):PE X (.Call (.Attribute o "values" a) [] [] b) (yT g):=by
 intro c s i H Q I h
 refine wpAny_Call_method0_late e f (aQ (k c s i H _ I h) λv l ⟨x,m,j,n,⟨d,p,q⟩,r⟩=>?_)
 subst p
 cases n
 obtain ⟨t,u,_⟩:=uM j q
 exact ⟨"dict","dict.values",NJ,OR,PySem.F.type_dict_values,t,u,Mz rfl (PySem.evalArgs_none (C5 c l i m (.ref d) [] (.ref d) [] Q j rfl .nil r))⟩
def yt (tl:TE):TI:=λσ H R=>tl σ H λx H1=>∃p d o kvs,x=.ref p/\H1 p=some (pC p d)/\H1 d=some (.cK o (.dK kvs))/\R (yG d o kvs) H1
def Dr(B:PE X l r):PI X A l (yt r):=by
 intro f s C H R I h
 refine aQ (B f s C H _ I h) λv a ⟨x,m,c,t,E⟩=>?_
 obtain ⟨p,d,o,g,e,G,u,q⟩:=E
 subst e
 cases t
 obtain ⟨J,_,_⟩:=(show bP X.prog X.w m a.heap p (pC p d) from c.aw p _ G)
 obtain ⟨L,_,_,M,y,N⟩:=(show bP X.prog X.w m a.heap d (.cK o (.dK g)) from c.aw d _ u)
 obtain ⟨O,i⟩:=N.dictAt
 obtain ⟨U,Q,j,t,z,Y⟩:=id i
 rw [L] at j
 cases j
 obtain ⟨vs,bD,n⟩:=uX c u z
 have k:=bD.length
 refine wpAny_pyIter_values J n ?_
 refine ⟨a.heap.objs.size,[a.heap.objs.size],_,_,m,rfl,c.kept (t':=a.toks) λb o e=>KO _ e,Es d _ o g O Q z,⟨_,Lc _ rfl,rfl,by rw [k];rfl⟩,λb T=>?_,q⟩
 have e:b=a.heap.objs.size:=by simpa using T
 subst e
 exact c.gz (KR _) (c.aw.fresh (KR _))
end
end L2
namespace FL
open PySem L2
def mo (t:TE)(G:Hp)(σ:St)(a:Addr):Prop:=∀M H,ab G (but H M)->au M H->∀Q:VK,(∀H',ab H H'->Q (.ref a) H')->t σ H Q
def FO{i:Nat}(e:b[i]?=some (some (.ref a))):mo (aR i) G b a:=λM H s l Q k=>⟨.ref a,e,k H (ab.refl _)⟩
def Ja{is:List Int}(z:mo t G r d)(h:G d=some (.cK o (.dK a)))(u:a.map (·.2)=is.map V.int):Walk (yt (yT t)) G r (is.map D.int):=λM H s l R k=>z M H s l _ λw f=>by
 have i:=(ax ((s.trans (f.but M)) _ _ h)).2
 refine ⟨⟨d,rfl,.inl ⟨a,.inr ⟨o,i⟩⟩⟩,d,a,rfl,rfl,.inr ⟨o,i⟩,λp A=>?_⟩
 have g:ab w (upd w p (pC p d)):=cG A _
 have y:a.length=is.length:=by have:=LL List.length u;simpa using this
 refine ⟨p,d,o,a,rfl,aK,g _ _ i,k _ _ (f.trans g) (λj x B C c m E=>?_) (λB C m=>?_)⟩
 .have b:=(ax (m _ _ ((s.trans ((f.trans g).but M)) _ _ h))).2
  have I:j<is.length:=by have:=(KJ.mp c).1;simpa using this
  refine ⟨⟨by omega,b⟩,λv J ⟨L,N⟩=>?_⟩
  subst L
  refine ⟨ab.refl _,?_⟩
  have q:(a.map (·.2))[j]?=some v:=by rw [KZ];exact N
  rw [u,KZ] at q
  rw [KZ] at c
  cases e:is[j]? with
  |none=>rw [e] at c;cases c
  |some n=>
   rw [e] at q c
   cases q
   cases c
   exact .int n
 .have b:=(ax (m _ _ ((s.trans ((f.trans g).but M)) _ _ h))).2
  exact ⟨by simp;omega,b⟩
end FL
namespace FL
open PySem PySem.Spec PyProof.Rows L2
section
variable {X:Cx}{C:Addr}
def Dk(q:PE X o j)(c:dk X.K C)(h:d9 X.prog X.w X.K X.mg X.base n C m p i)(r:cI k X.A)(e:n<=k:=by decide)
  (s:eval (.Call (.Attribute o m a) [] [] d) X.env=(do
   let l<-eval o X.env
   standAt a.atName
   let (f,first)<-holding [l] (getMethod l m g)
   callWith d f first (backTo d (starEach [] X.env)) (backToKw d (keywordEach [] X.env))):=by rfl):
  PE X (.Call (.Attribute o m a) [] [] d) (kQ C m i [] E0 j bv):=by
 obtain ⟨f,t,F,b,M⟩:=h.ex
 exact J7 (pl:=g) q c M (F.mono e) r b .nil tm s
end
end FL
namespace FL
open PySem L2
def m9 (wi:TI)(G:Hp)(σ:St)(n:Nat)(R:Nat->Hp->V->Prop):Prop:=∀M H,ab G (but H M)->au M H->∀S:It->Hp->Prop,
 (∀J H1,ab H H1->(∀(j:Nat) M' H',j<n->ab (but H1 M) (but H' M')->au M' H'->J.go j H'/\∀x H'',J.nk j H' x H''->ab H' H''/\R j (but H'' M') x)->(∀M' H',ab (but H1 M) (but H' M')->J.stop n H')->S J H1)->wi σ H S
def Gv (ds:List D):Nat->Hp->V->Prop:=λj G x=>∃d,ds[j]?=some d/\al G x d
def EA (us:List V):Nat->Hp->V->Prop:=λj _ x=>us[j]?=some x
def w9 (us:List V):Nat->Hp->V->Prop:=λj G x=>∃T v,x=.ref T/\G T=some (.tup [.int (j:Nat),v])/\us[j]?=some v
section
variable {G:Hp}{σ:St}{wi:TI}{te:TE}{K:PySem.W.Frag}{a:Addr}{us:List V}
def JR(h:Walk wi G σ c):m9 wi G σ c.length (Gv c):=λM H s l S k=>h M H s l S λJ g i d b=>k J g i (λj m n f o r=>by
 obtain ⟨t,u⟩:=d j _ m n (KL f) o r
 exact ⟨t,λx e v=>let ⟨p,q⟩:=u x e v;⟨p,_,KL f,q⟩⟩) b
def u6 (h:mo te G σ a)(g:G a=some (.lst us)):m9 (λσ H R=>lF K te σ H R\/mO K te σ H R) G σ us.length (EA us):=λM H s l S k=>.inl (h M H s l _ λi d=>by
 have b:=(s.trans (d.but M)) _ _ g
 refine ⟨a,rfl,⟨us,aO.of (ax b).2⟩,k _ i d (λj m n o c r=>?_) (λm n c=>?_)⟩
 .have f:=(ax (c _ _ b)).2
  refine ⟨⟨us,us[j],aO.of f,KL o⟩,λx p ⟨e,q⟩=>?_⟩
  subst e
  exact ⟨ab.refl _,q us (aO.of f)⟩
 .exact ⟨us,aO.of (ax (c _ _ b)).2,KR _⟩)
def BK (h:mo te G σ a)(i:G a=some (.lst us)):m9 (yQ K (bb te bv)) G σ us.length (w9 us):=λM H s l S k=>h M H s l _ λm d=>by
 have b:=(s.trans (d.but M)) _ _ i
 refine ⟨a,rfl,⟨us,aO.of (ax b).2⟩,k _ m d (λj n o p c q=>?_) (λn o c=>?_)⟩
 .have f:=(ax (c _ _ b)).2
  refine ⟨⟨us,us[j],aO.of f,KL p⟩,λv r ⟨T,t,g,e,u,w⟩=>?_⟩
  subst e u
  refine ⟨cG g _,T,t,rfl,?_,w us (aO.of f)⟩
  rw [bh (q.fresh g),aK]
 .exact ⟨us,aO.of (ax (c _ _ b)).2,KR _⟩
def qV{g:TG}{E:Ends}(y:m9 wi (but H M) σ n R)(l:au M H)
  (k:∀q,ab H q->∃Pv:Nat->List Addr->St->Hp->Prop,Pv 0 M σ q/\(∀j d b c,Pv j d b c->ab (but q M) (but c d)/\au d c)/\
   (∀(j:Nat) d x b c f,j<n->Pv j d b c->ab c f->R j (but f d) x->g x b f λr v=>u {E with nx:=λσ H=>∃M,Pv (j+1) M σ H,ct:=λσ H=>∃M,Pv (j+1) M σ H,bk:=E.nx} r v)/\∀d b c,Pv n d b c->E.nx b c):
  na wi g u E σ H:=y M H (ab.refl _) l _ λJ q z t h=>by
 obtain ⟨Pv,A,B,i,s⟩:=k q z
 refine ⟨λj m b c=>m=n-j/\j<=n/\∃d,Pv j d b c,⟨n,by simp,Ll _,M,A⟩,?_⟩
 rintro j m b c ⟨rfl,U,d,p⟩
 obtain ⟨w,C⟩:=B j d b c p
 by_cases o:j<n
 .obtain ⟨I,L⟩:=t j d c o w C
  refine .inr ⟨I,λσ H=>∃M,Pv (j+1) M σ H,λr v N=>⟨n-(j+1),by omega,rfl,o,N⟩,λx f O=>?_⟩
  obtain ⟨Q,T⟩:=L x f O
  exact i j d x b c f o p Q T
 .have e:j=n:=by omega
  subst e
  exact .inl ⟨h d c w,s d b c p⟩
def sr(m:Nat):(List.range (m+1)).filter p=(List.range m).filter p++(if p m=true then [m] else []):=by
 rw [List.range_succ,Me]
 congr 1
 by_cases b:p m=true
 .simp [b]
 .simp [b]
def Jz{caps:St->St}{p:Nat->Bool}{f:Nat->D}(hw:m9 wi G σ n R)(hR:∀j G h v,ab G h->R j G v->R j h v)
  (ht:∀h v j,ab G h->j<n->R j h v->aY T h ((caps σ).set i (some v)) (p j))
  (he:∀h v j,ab G h->j<n->p j=true->R j h v->ae te h ((caps σ).set i (some v)) (f j)) (hz:n<sizeLine):
  ae (ij wi caps (ci i) T te) G σ (.lst (((List.range n).filter p).map f)):=λM H s l Q k=>hw M H s l _ λJ I L U z D N=>by
 have lf:D∉M:=(l.same L).fresh N
 have Y:ab G (but I M):=s.trans (L.but M)
 refine ⟨λj m τ r=>m=n-j/\j<=n/\(∀v,τ.set i (some v)=(caps σ).set i (some v))/\ab I r/\∃q,r D=some (.lst q)/\aD (but r (D::M)) q (((List.range j).filter p).map f),
  ⟨n,by simp,Ll _,λ_=>rfl,cG N _,[],aK,by simpa using aD.nil⟩,?_⟩
 rintro j m τ r ⟨rfl,hj,ac,A,q,t,O⟩
 have hs:ab (but I M) (but r (D::M)):=iW N A
 have hl:au (D::M) r:=((l.same L).same A).cons t
 by_cases u:j<n
 .obtain ⟨go,gy⟩:=U j (D::M) r u hs hl
  refine .inr ⟨go,λB d=>(∀v,B.set i (some v)=(caps σ).set i (some v))/\ab I d/\∃q,d D=some (.lst q)/\aD (but d (D::M)) q (((List.range (j+1)).filter p).map f),
   λB d ⟨a,b,c⟩=>⟨n-(j+1),by omega,rfl,u,a,b,c⟩,λx d hy=>?_⟩
  obtain ⟨y,rx⟩:=gy x d hy
  have sG:ab G (but d (D::M)):=Y.trans (hs.trans (y.but _))
  have C:=hl.same y
  show T (τ.set i (some x)) d _
  rw [ac x]
  refine ht _ x _ sG u rx (D::M) d (ab.refl _) C _ λH4 w=>?_
  have g:∀v,((caps σ).set i (some x)).set i (some v)=(caps σ).set i (some v):=λv=>by rw [PB]
  by_cases E:p j=true
  .rw [K4 E]
   refine he _ x _ (sG.trans (w.but _)) u E (hR _ _ _ _ (w.but _) rx) (D::M) H4 (ab.refl _) (C.same w) _ λv H5 s5 r5=>?_
   have af:H5 D=some (.lst q):=s5 _ _ (w _ _ (y _ _ t))
   have aj:=O.length
   have am:(((List.range j).filter p).map f).length<=j:=by
    rw [KP]
    have:=Lv p (List.range j)
    rw [MB] at this
    omega
   refine ⟨q,af,by omega,g,?_,q++[v],aK,?_⟩
   .intro b o e
    rw [aC (de e N)]
    exact s5 _ _ (w _ _ (y _ _ (A _ _ e)))
   .rw [dH KN,sr,K4 E,Lq]
    exact (O.mono (((y.trans w).trans s5).but _)).snoc r5
  .rw [KS E]
   refine ⟨g,A.trans (y.trans w),q,w _ _ (y _ _ t),?_⟩
   rw [sr,KS E,LA]
   exact O.mono ((y.trans w).but _)
 .have e:j=n:=by omega
  subst e
  exact .inl ⟨z (D::M) r hs,k _ r (L.trans A) (mf lf t O)⟩
def Ff{caps:St->St}(ac:i≠j){p:Nat->Bool}{f:Nat->D}(hw:m9 wi G σ n (w9 us))
  (ht:∀B v m,ab G B->us[m]?=some v->aY tt B (((caps σ).set i (some (.int (m:Nat)))).set j (some v)) (p m))
  (he:∀B v m,ab G B->us[m]?=some v->p m=true->ae te B (((caps σ).set i (some (.int (m:Nat)))).set j (some v)) (f m)) (hz:n<sizeLine):
  ae (ij wi caps (mY K 2 (jJ (ci i) (jJ (ci j) ph))) tt te) G σ (.lst (((List.range n).filter p).map f)):=λM H s l Q k=>hw M H s l _ λJ O U af A D Y=>by
 have lf:D∉M:=(l.same U).fresh Y
 have aj:ab G (but O M):=s.trans (U.but M)
 refine ⟨λm q τ r=>q=n-m/\m<=n/\(∀v w,(τ.set i (some v)).set j (some w)=((caps σ).set i (some v)).set j (some w))/\ab O r/\∃h,r D=some (.lst h)/\aD (but r (D::M)) h (((List.range m).filter p).map f),
  ⟨n,by simp,Ll _,λ_ _=>rfl,cG Y _,[],aK,by simpa using aD.nil⟩,?_⟩
 rintro m q τ r ⟨rfl,hj,am,C,h,t,ry⟩
 have hs:ab (but O M) (but r (D::M)):=iW Y C
 have hl:au (D::M) r:=((l.same U).same C).cons t
 by_cases E:m<n
 .obtain ⟨go,gy⟩:=af m (D::M) r E hs hl
  refine .inr ⟨go,λI d=>(∀v w,(I.set i (some v)).set j (some w)=((caps σ).set i (some v)).set j (some w))/\ab O d/\∃h,d D=some (.lst h)/\aD (but d (D::M)) h (((List.range (m+1)).filter p).map f),
   λI d ⟨a,b,c⟩=>⟨n-(m+1),by omega,rfl,E,a,b,c⟩,λx d hy=>?_⟩
  obtain ⟨u,T,y,rfl,hT,hv⟩:=gy x d hy
  have sG:ab G (but d (D::M)):=aj.trans (hs.trans (u.but _))
  have L:=hl.same u
  refine ⟨T,_,rfl,bo.of (ax hT).2,rfl,.int (m:Nat),[y],rfl,y,[],rfl,rfl,?_⟩
  show tt ((τ.set i (some (.int (m:Nat)))).set j (some y)) d _
  rw [am (.int (m:Nat)) y]
  refine ht _ y _ sG hv (D::M) d (ab.refl _) L _ λH4 z=>?_
  have g:∀v w,((((caps σ).set i (some (.int (m:Nat)))).set j (some y)).set i (some v)).set j (some w)=((caps σ).set i (some v)).set j (some w):=λv w=>by
   rw [List.set_comm (some y) (some v) (LN ac),PB,PB]
  by_cases N:p m=true
  .rw [K4 N]
   refine he _ y _ (sG.trans (z.but _)) hv N (D::M) H4 (ab.refl _) (L.same z) _ λv H5 s5 r5=>?_
   have an:H5 D=some (.lst h):=s5 _ _ (z _ _ (u _ _ t))
   have ao:=ry.length
   have as:(((List.range m).filter p).map f).length<=m:=by
    rw [KP]
    have:=Lv p (List.range m)
    rw [MB] at this
    omega
   refine ⟨h,an,by omega,g,?_,h++[v],aK,?_⟩
   .intro b o e
    rw [aC (de e Y)]
    exact s5 _ _ (z _ _ (u _ _ (C _ _ e)))
   .rw [dH KN,sr,K4 N,Lq]
    exact (ry.mono (((u.trans z).trans s5).but _)).snoc r5
  .rw [KS N]
   refine ⟨g,C.trans (u.trans z),h,z _ _ (u _ _ t),?_⟩
   rw [sr,KS N,LA]
   exact ry.mono ((u.trans z).but _)
 .have e:m=n:=by omega
  subst e
  exact .inl ⟨A (D::M) r hs,k _ r (U.trans C) (mf lf t ry)⟩
end
end FL
namespace FL
open PySem L2
def AX{u:TS}{D:Ends}(h:t {D with nx:=u D} a H):pP t u D a H:=h
def BO{K:PySem.W.Frag}{g:TE}{D:Ends}(h:ae i (but H M) b d)(l:au M H)(k:∀v c,ab H c->al (but c M) v d->g b c λx j=>∃a C m e,x=.ref a/\j a=some (.ins C m e)/\dk K C/\bO K C f/\e.length<1000/\D.nx b (upd j a (.ins C m (cM f v e)))):yy K g i f D b H:=h M H (ab.refl _) l _ k
def jq (f:List D):Prop:=f≠[]/\bM f
structure bu where
 cW:List D
 shared:List (Str×Nat)
 gs:List (List D×List Nat)
 of:List dO
 newest:Int
def lz (g:List D×List Nat):D:=.tup [.tup g.1,.lst (g.2.map λn=>D.int (n:Nat))]
def fH (sh:List (Str×Nat)):List (aG×V):=sh.map λp=>(Sum.inr p.1,V.int (p.2:Nat))
abbrev jn (v0:V)(sa:Addr)(v2:V)(ao:Addr)(n:Int):List (Str×V):=[("asker",v0),("shared",.ref sa),("guards",v2),("offers",.ref ao),("newest",.int n)]
def jB (C:Addr)(G:Hp)(v:V)(s:bu):Prop:=∃a dx v0 sa v2 ao oS,v=.ref a/\G a=some (.ins C dx (jn v0 sa v2 ao s.newest))/\al G v0 (.tup s.cW)/\G sa=some (.cK oS (.dK (fH s.shared)))/\al G v2 (.lst (s.gs.map lz))/\nI G ao s.of
def jB.mono(e:ab G b)(h:jB C G v s):jB C b v s:=by
 obtain ⟨a,c,d,f,g,i,j,k,l,m,n,o,p⟩:=h
 exact ⟨a,c,d,f,g,i,j,k,e _ _ l,m.mono e,e _ _ n,o.mono e,p.mono e⟩
structure kE (K:PySem.W.Frag)(C:Addr):Prop where
 cl:dk K C
 nA:bO K C "asker"
 nS:bO K C "shared"
 nG:bO K C "guards"
 nO:bO K C "offers"
 nN:bO K C "newest"
structure gK (C:Addr)(H:Hp)(Z:List Addr)(a:Addr)(os:List Addr)(s:bu):Prop where
 at_:∃dx v0 sa v2 ao ls oS,os=a::ao::ls/\H a=some (.ins C dx (jn v0 sa v2 ao s.newest))/\al (but H Z) v0 (.tup s.cW)/\but H Z sa=some (.cK oS (.dK (fH s.shared)))/\al (but H Z) v2 (.lst (s.gs.map lz))/\eR H Z ao ls s.of
def eR.weak{M:List Addr}(h:eR H Z p c d)(g:∀x∈M,x∈Z):eR H M p c d:=by
 obtain ⟨b,i,j,k,e,m⟩:=h.kvs
 refine ⟨⟨b,i,j,k,λa f=>⟨(e a f).1,λv n=>?_⟩,m⟩,h.lists,h.apart⟩
 obtain ⟨l,o,q,r,s,t⟩:=(e a f).2 v n
 refine ⟨l,o,q,r,s,t.mono (d6 λx u=>?_)⟩
 rcases Ld.mp u with z|z
 .exact K9 _ z
 .rcases KY.mp z with z|z
  .rw [z];exact KW _ KN
  .exact KW _ (KG _ (g x z))
def tq{Z b:List Addr}(c:p∈Z)(d:∀x∈b,x∈Z):∀a,a∈b++p::Z↔a∈Z:=λa=>by
 constructor
 .intro h
  rcases Ld.mp h with z|z
  .exact d a z
  .rcases KY.mp z with z|z
   .rw [z];exact c
   .exact z
 .intro h
  exact KW _ (KG _ h)
def eR.frame{e:Hp}{Z':List Addr}(h:eR H Z p a m)(s:p∈Z)(d:∀x∈a,x∈Z)(f:p∈Z')(g:∀x∈a,x∈Z')(k:∀b u,b∈p::a->H b=some u->e b=some u)(S:ab (but H Z) (but e Z')):eR e Z' p a m:=by
 obtain ⟨i,t,w,y,n,A⟩:=h.kvs
 refine ⟨⟨i,k _ _ KN t,w,y,λc o=>⟨(n c o).1,λv B=>?_⟩,A⟩,λl d=>?_,h.apart⟩
 .obtain ⟨l,j,C,q,E,r⟩:=(n c o).2 v B
  refine ⟨l,j,C,q,k _ _ (KG _ q) E,?_⟩
  rw [j7 (tq s d)] at r
  rw [j7 (tq f g)]
  exact r.mono S
 .obtain ⟨j,z⟩:=h.lists l d
  exact ⟨j,k _ _ (KG _ d) z⟩
def gK.rep{M:List Addr}{os:List Addr}(h:gK C H Z a os s)(c:∀x∈M,x∈Z)(b:∀x∈os,x∉M):jB C (but H M) (.ref a) s:=by
 obtain ⟨e,f,g,i,d,r,j,rfl,k,m,n,o,p⟩:=h.at_
 have S:ab (but H Z) (but H M):=d6 c
 refine ⟨a,e,f,g,i,d,j,rfl,?_,m.mono S,S _ _ n,o.mono S,(p.weak c).rep (b d Z8) λl q=>b l (by simp [q])⟩
 rw [bh (b a Z8)];exact k
def gK.frame{d:Hp}{Z':List Addr}{os:List Addr}(h:gK C H Z a os s)(f:∀x∈os,x∈Z)(c:∀x∈os,x∈Z')(k:∀b u,b∈os->H b=some u->d b=some u)(S:ab (but H Z) (but d Z')):gK C d Z' a os s:=by
 obtain ⟨g,i,j,l,m,n,o,rfl,p,r,t,v,w⟩:=h.at_
 exact ⟨⟨g,i,j,l,m,n,o,rfl,k _ _ Z8 p,r.mono S,S _ _ t,v.mono S,w.frame (f _ Z8) (λx e=>f _ (by simp [e])) (c _ Z8) (λx e=>c _ (by simp [e])) (λb u y q=>k b u (KG _ y) q) S⟩⟩
def gK.mono{os:List Addr}(h:gK C H Z a os s)(e:ab H b):gK C b Z a os s:=by
 obtain ⟨c,d,f,g,i,j,k,rfl,l,m,n,o,p⟩:=h.at_
 exact ⟨⟨c,d,f,g,i,j,k,rfl,e _ _ l,m.mono (e.but Z),(e.but Z) _ _ n,o.mono (e.but Z),p.same e⟩⟩
def ua {H d:Hp}{Z os a:List Addr}(h:∀x∈a,x∈os\/H x=none)(i:∀x∈os,x∈Z)(k:∀b u,b∉os->H b=some u->d b=some u):ab (but H Z) (but d (a++Z)):=λb u e=>by
 obtain ⟨f,c⟩:=ax e
 have g:b∉os:=λz=>f (i b z)
 rw [bh]
 .exact k b u g c
 .intro z
  rcases Ld.mp z with z|z
  .rcases h b z with w|w
   .exact g w
   .rw [w] at c;cases c
  .exact f z
def fm (s:bu):List Str:=s.shared.map (·.1)
def dw (s:bu)(n:Nat)(g:List D):bu:=match bw s.cW g [] with
 |some st=>{s with of:=s.of++[(du (fm s) st,(n,restOf (fm s) st))],newest:=n}
 |none=>s
def kz:upd (upd H x o) x a=upd H x a:=by
 funext b
 by_cases e:b=x
 .subst e;rw [aK,aK]
 .rw [aC e,aC e,aC e]
def G9(h:p≠x):upd (upd (upd H x o) p d) x c=upd (upd H p d) x c:=by
 funext b
 by_cases e:b=x
 .subst e;rw [aK,aK]
 .rw [aC e,aC e]
  by_cases a:b=p
  .subst a;rw [aK,aK]
  .rw [aC a,aC a,aC e]
def wW (C:Addr):Sp:=λvs H Q _=>∃x dx v1 v2 v3,vs=[.ref x,v1,v2,v3]/\H x=some (.ins C dx [])/\
 ∀p,H p=none->p≠x->Q .av (upd (upd H p (.dT [])) x (.ins C dx [("asker",v1),("shared",v2),("guards",v3),("offers",.ref p),("newest",.int (-1))]))
def BA (C:Addr):Sp:=λvs H Q _=>∃Z os s a n g v2,vs=[.ref a,.int ((n:Nat):Int),v2]/\au Z H/\gK C H Z a os s/\(∀x∈os,x∈Z)/\al (but H Z) v2 (.tup g)/\eV s.cW/\jq g/\s.of.length<1000/\
 ∀os' H',(∀x∈os',x∈os\/H x=none)->(∀x∈os,x∈os')->(∀b u,b∉os->H b=some u->H' b=some u)->au (os'++Z) H'->gK C H' (os'++Z) a os' (dw s n g)->Q .av H'
section
variable {K:PySem.W.Frag}{G:Hp}{σ:St}{ty:TE}{i:Nat}{a C dx sa:Addr}{fs:List (Str×V)}{oS:Obj}{sh:List (Str×Nat)}{n:Str}
def gx(T:dk K C)(n:bO K C x)(e:σ[i]?=some (some (.ref a)))(b:G a=some (.ins C dx fs))(c:fs.lookup x=some v)(r:al G v d):ae (kF K (aR i) x) G σ d:=
 λM H s l Q k=>⟨.ref a,e,a,C,dx,fs,v,rfl,(ax (s _ _ b)).2,T,n,c,k v H (ab.refl _) (r.mono s)⟩
def kB(T:dk K C)(n:bO K C x)(e:σ[i]?=some (some (.ref a)))(c:G a=some (.ins C dx fs))(d:fs.lookup x=some (.ref b)):mo (kF K (aR i) x) G σ b:=
 λM H s l Q k=>⟨.ref a,e,a,C,dx,fs,.ref b,rfl,(ax (s _ _ c)).2,T,n,d,k H (ab.refl _)⟩
def wI:∀(sh:List (Str×Nat)) (n:Str),(bn (fH sh) (Sum.inr n)).isSome=decide (n∈sh.map (·.1))
 |[],n=>rfl
 |p::r,n=>by
  show (bn ((Sum.inr p.1,V.int (p.2:Nat))::fH r) (Sum.inr n)).isSome=_
  by_cases e:p.1=n
  .subst e
   rw [f9 rfl]
   simp
  .have b:¬(Sum.inr p.1:aG)=Sum.inr n:=λz=>e (Pl z)
   have c:¬n=p.1:=λz=>e z.symm
   rw [fV (by exact b),wI r n]
   simp [c]
def En (T:dk K C)(f:bO K C "shared")(e:σ[i]?=some (some (.ref a)))(g:G a=some (.ins C dx fs))(j:fs.lookup ("shared":Str)=some (.ref sa))(m:G sa=some (.cK oS (.dK (fH sh))))(h:ae ty G σ (.str n)):aY (tB (oO ty (kF K (aR i) "shared"))) G σ (decide (n∈sh.map (·.1))):=λM H s l Q k=>h M H s l _ λv o b p=>by
 have q:=b _ _ (ax (s _ _ g)).2
 have c:=b _ _ (ax (s _ _ m)).2
 refine ⟨.ref a,e,a,C,dx,fs,.ref sa,rfl,q,T,f,j,sa,bn (fH sh) (Sum.inr n),rfl,.inl ⟨fH sh,Sum.inr n,.inr ⟨oS,c⟩,(fQ (d:=.str n) rfl p).2,rfl⟩,_,rfl,?_⟩
 rw [wI]
 exact k o b
def GI (T:dk K C)(f:bO K C "shared")(e:σ[i]?=some (some (.ref a)))(g:G a=some (.ins C dx fs))(j:fs.lookup ("shared":Str)=some (.ref sa))(m:G sa=some (.cK oS (.dK (fH sh))))(h:ae ty G σ (.str n)):aY (tB (pH ty (kF K (aR i) "shared"))) G σ (!decide (n∈sh.map (·.1))):=λM H s l Q k=>h M H s l _ λv o b p=>by
 have q:=b _ _ (ax (s _ _ g)).2
 have c:=b _ _ (ax (s _ _ m)).2
 refine ⟨.ref a,e,a,C,dx,fs,.ref sa,rfl,q,T,f,j,sa,bn (fH sh) (Sum.inr n),rfl,.inl ⟨fH sh,Sum.inr n,.inr ⟨oS,c⟩,(fQ (d:=.str n) rfl p).2,rfl⟩,_,rfl,?_⟩
 rw [wI]
 exact k o b
end
def vh:∀(L:List (D×D)) (F G:aP),fE F L=some G->(∀t∈F,t.2.sc=true)->(∀p∈L,p.2.sc=true)->∀t∈G,t.2.sc=true
 |[],F,G,h,a,_=>by
  have:F=G:=K8 h
  rw [<-this];exact a
 |p::r,F,G,h,a,b=>by
  have h:(fR F p.1 p.2).bind (λf=>fE f r)=some G:=h
  unfold fR at h
  have c:∀q∈r,q.2.sc=true:=λq g=>b q (KG _ g)
  by_cases e:(aB p.1&& !fi F p.1)=true
  .rw [K4 e] at h
   exact vh r _ G h (vk a (b p KN)) c
  .rw [KS e] at h
   by_cases d:bY F p.1=p.2
   .rw [K4 d] at h
    exact vh r F G h a c
   .rw [KS d] at h;cases h
def xw{st:aP}(h:bw A g S=some st)(a:∀t∈S,t.2.sc=true)(b:bM g):∀t∈st,t.2.sc=true:=by
 unfold bw at h
 by_cases z:A.headD .av=g.headD .av/\A.length=g.length
 .rw [K4 z] at h
  exact vh _ S st h a λp c=>b _ (Oa c).2
 .rw [KS z] at h;cases h
def Ag{st:aP}(h:bw A g []=some st):st.length<=A.length:=by
 obtain ⟨U,_,rfl,_⟩:=iC (V:=λ_=>.av) (B:=[]) eZ h
 unfold aq
 rw [KP]
 have:=kW A []
 rw [MR] at this
 omega
def jh (st:aP):List (D×D):=st.map λq=>(.str q.1,q.2)
def xL (st:aP):(jh st).map (λq=>D.tup [q.1,q.2])=pairD st:=by
 unfold jh pairD
 rw [LH]
 rfl
def IB (st:aP)(a:List Str):((jh st).filter λq=>decide (q.1.name∈a)).map (λq=>q.2)=du a st:=by
 unfold jh du
 rw [Mv,LH]
 rfl
def Cy (st:aP)(a:List Str):((jh st).filter λq=> !decide (q.1.name∈a)).map (λq=>D.tup [q.1,q.2])=pairD (restOf a st):=by
 unfold jh restOf pairD
 rw [Mv,LH]
 rfl
def Fh {st:aP}(h:∀t∈st,t.2.sc=true)(b:List Str):bM (du b st):=λx a=>by
 unfold du at a
 obtain ⟨t,c,rfl⟩:=Lg.mp a
 exact h t (La.mp c).1
end FL
namespace FL
open PySem L2
def xq (p:Str×D):D:=.tup [.str p.1,p.2]
def eh (S:aP)(is:List Nat):aP:=is.map λi=>S.getD i (("":Str),.av)
def gi (S:aP)(gs:List (List D×List Nat)):Bool:=gs.all λg=>holdsA (g.1.map (bY (eh S g.2)))
def ti (n:Nat)(g:List D×List Nat):Prop:=(∃r a b,g.1=[.str r,a,b]/\a.sc=true/\b.sc=true/\aB (.str r)=false)/\(∀i∈g.2,i<n)/\g.2.length<=100
def wk (C:Addr):Sp:=λvs H Q _=>∃M st S v0 v1,vs=[v0,v1]/\au M H/\jB C (but H M) v0 st/\al (but H M) v1 (.lst (pairD S))/\(∀p∈S,p.2.sc=true/\aB (.str p.1)=true)/\(∀g∈st.gs,ti S.length g)/\∀H',ab H H'->Q (.bl (gi S st.gs)) H'
def yB {S:aP}{is:List Nat}(h:∀p∈S,p.2.sc=true/\aB (.str p.1)=true)(a:∀i∈is,i<S.length):∀p∈eh S is,p.2.sc=true/\aB (.str p.1)=true:=λp b=>by
 obtain ⟨i,c,rfl⟩:=Lg.mp b
 have:=a i c
 rw [List.getD,KL this]
 exact h _ (Mm this)
def cR (w:aJ):D:=.tup [.lst (pairD w.1),.tup (w.2.map λn=>D.int (n:Nat))]
def gP (S:aP)(is:List Nat):List D:=(eh S is).map (·.2)
def jj (ps:aP):Prop:=∀p∈ps,p.2.sc=true/\aB (.str p.1)=true
def iG (st:bu):List Nat:=st.shared.map (·.2)
structure jQ (n:Nat)(st:bu):Prop where
 sh:∀i∈iG st,i<n
 shl:st.shared.length<=100
 of:∀o∈st.of,jj o.2.2/\o.2.2.length<=100/\∀g∈st.gs,ti (n+o.2.2.length) g
 uR:st.of.length<=900
abbrev ny (w:aJ)(o:dO):aJ:=(w.1++o.2.2,w.2++[o.2.1])
def fresh (lo:Int)(o:dO):Bool:=decide (lo<=((o.2.1:Nat):Int))
def gS (st:bu)(w:aJ)(lo:Int):List aJ:=(((fP st.of (gP w.1 (iG st))).reverse.takeWhile (fresh lo)).map (ny w)).filter λx=>gi x.1 st.gs
def ug (C:Addr):Sp:=λvs H Q _=>∃M st w0 lo v0 v1,vs=[v0,v1,.int lo]/\au M H/\jB C (but H M) v0 st/\al (but H M) v1 (cR w0)/\jj w0.1/\w0.1.length<=500/\w0.2.length<=500/\jQ w0.1.length st/\∀v H',ab H H'->al (but H' M) v (.lst ((gS st w0 lo).map cR))->Q v H'
def EI{is:List Nat}(a:jj S)(b:∀i∈is,i<S.length):bM (gP S is):=λx c=>by
 obtain ⟨p,d,rfl⟩:=Lg.mp c
 exact (yB a b p d).1
def zl{p:a->Bool}:∀{l:List a} {j:Nat} {y:a},(∀x∈l.take j,p x=true)->l[j]?=some y->p y=false->l.takeWhile p=l.take j
 |[],j,y,_,h,_=>by simp at h
 |x::r,0,y,_,h,b=>by
  simp at h
  subst h
  rw [Ol,b];simp
 |x::r,j+1,y,c,h,b=>by
  have d:p x=true:=c x Z8
  rw [Ol,d]
  show x::r.takeWhile p=x::r.take j
  rw [zl (l:=r) (j:=j) (λz e=>c z (by simp [e])) (by simpa using h) b]
def qk{p:a->Bool}:∀{l:List a},(∀x∈l,p x=true)->l.takeWhile p=l
 |[],_=>rfl
 |x::r,b=>by
  rw [Ol,b x Z8]
  show x::r.takeWhile p=_
  rw [qk λz c=>b z (by simp [c])]
section
variable {K:PySem.W.Frag}{G:Hp}{σ:St}{ty:TE}{i:Nat}{a C dx:Addr}{fs:List (Str×V)}{ao:Addr}{of:List dO}{key:List D}
def J9 (T:dk K C)(n:bO K C "offers")(e:σ[i]?=some (some (.ref a)))(u:G a=some (.ins C dx fs))(w:fs.lookup ("offers":Str)=some (V.ref ao))(x:nI G ao of)(m:bM key)(h:ae ty G σ (.tup key)):
  ae (oK (kF K (aR i) "offers") ty (jt bv)) G σ (.lst (g6 of key)):=λM H s l Q k=>by
 obtain ⟨d,y,E,p⟩:=x
 have z:=(ax (s _ _ u)).2
 have q:=(ax (s _ _ y)).2
 refine ⟨.ref a,e,a,C,dx,fs,.ref ao,rfl,z,T,n,w,ao,rfl,.inr ⟨d,.inl q⟩,h M H s l _ λI J f A=>⟨Ll _,λL g=>?_⟩⟩
 obtain ⟨b,N,rfl,B,o⟩:=A.e9
 have j:=(ax B).2
 rw [mL m o] at j
 have c:=cG g (.lst [])
 have eU:=c _ _ (f _ _ q)
 refine ⟨bn d (bW key),cN.t eU (c _ _ j),?_⟩
 cases r:bn d (bW key) with
 |none=>
  have:g6 of key=[]:=by unfold g6;rw [(p key m).1 r];rfl
  rw [this] at k
  exact k _ _ (f.trans c) (nZ (l.same f) g .nil)
 |some v=>exact k _ _ (f.trans c) (((p key m).2 v r).mono (s.trans ((f.trans c).but M)))
def Js {st:bu}{S:aP}{j:Nat}(e:σ[i]?=some (some (.ref a)))(hst:jB C G (.ref a) st)(hS:jj S)(hg:∀g∈st.gs,ti S.length g)(h:ae (aR j) G σ (.lst (pairD S))):
  aY (tB (kQ C "allows" (wk C) [] L2.E0 (aR i) (bb (aR j) bv))) G σ (gi S st.gs):=λM H s l Q k=>by
 obtain ⟨a',dx',v0,sa,v2,ao',oS,e1,g1,g2,g3,g4,g5⟩:=id hst
 cases e1
 refine ⟨.ref a,e,a,dx',_,rfl,(ax (s _ _ g1)).2,rfl,h M H s l _ λv H1 s1 r1=>?_⟩
 exact ⟨M,st,S,.ref a,v,rfl,l.same s1,hst.mono (s.trans (s1.but M)),r1,hS,hg,λH2 s2=>⟨_,rfl,k H2 (s1.trans s2)⟩⟩
end
end FL
namespace FL
open PySem L2
def uk {a:List (aG×V)}{k:aG}{v:V}(h:bn a k=none):bX a k v=a++[(k,v)]:=by
 unfold bX
 rw [jC,h]
 rfl
def za:∀(b:aP) (a:List (aG×V)),(b.map (·.1)).Nodup->(∀p∈b,bn a (Sum.inr p.1)=none)->bT a (bA b)=a++bA b
 |[],a,_,_=>by rw [show bA []=[] from rfl,LA];rfl
 |p::r,a,c,d=>by
  rw [LB,MP] at c
  show bT (bX a (Sum.inr p.1) p.2.toV) (bA r)=_
  rw [uk (d p Z8),za r _ c.2 ?_,LK]
  .rfl
  .intro x e
   have f:¬(Sum.inr x.1:aG)=Sum.inr p.1:=λz=>c.1 (by rw [<-Pl z];exact Lg.mpr ⟨x,e,rfl⟩)
   rw [<-uk (d p Z8),wU,KS f]
   exact d x (by simp [e])
section
variable {σ:St}{δ:Dn}{M:List Addr}{H:Hp}{te:TE}{E:Ends}{K:PySem.W.Frag}
theorem J6 {i:Nat}{ps:aP}(l:au M H)(hE:aA (but H M) σ δ)(hi:i<δ.length)(h:ae te (but H M) σ (.lst (pairD ps)))(hp:∀p∈ps,p.2.sc=true)(hn:(ps.map (·.1)).Nodup)
  (k:∀p o σ' H',(∀j:Nat,j≠i->σ'[j]?=σ[j]?)->σ'[i]?=some (some (.ref p))->H p=none->p∉M->H' p=some (.cK o (.dK (bA ps)))->ab H H'->au M H'->aA (but H' M) σ' (δ.set i none)->E.nx σ' H'):
  dW (An (cH (fun xs H Q=>∃a vs kvs,xs=[.ref a]/\aO K H a vs/\Pairs K H vs kvs/\∀p,H p=none->Q (.ref p) (upd H p (.dK (bT [] kvs)))) (bb te bv))) (ci i) E σ H:=
 h M H (ab.refl _) l _ fun v H1 s1 rv=>by
  obtain ⟨a,vs,rfl,h1,h2⟩:=rv.eA
  refine ⟨a,vs,bA ps,rfl,aO.of (ax h1).2,sY hp h2,fun p hpn=>⟨p,_,rfl,aK,fun o=>?_⟩⟩
  rw [kz,za ps [] hn fun p _=>rfl,nil_append]
  have hl:=hE.len
  have s2:ab H1 (upd H1 p (.cK o (.dK (bA ps)))):=cG hpn _
  refine k p o _ _ (fun j hj=>getElem?_set_ne (Ne.symm hj)) (getElem?_set_self (by omega)) ?_ ((l.same s1).fresh hpn) aK (s1.trans s2) ((l.same s1).same s2) ((hE.same (s1.trans s2)).off i _)
  cases q:H p with
  |none=>rfl
  |some u=>rw [s1 _ _ q] at hpn;cases hpn
end
def wE{H:Hp}:∀{os:List Addr},(∀x∈os,∃o,H x=some o/\Seen o=false)->al (but H M) v d->al (but H (os++M)) v d
 |[],_,r=>r
 |x::os,h,r=>by
  obtain ⟨o,a,b⟩:=h x Z8
  exact al.fk (M:=os++M) a b (wE (λy c=>h y (by simp [c])) r)
structure pB (C:Addr)(G:Hp)(us:List V)(ss:List bu):Prop where
 len:us.length=ss.length
 get:∀(j:Nat) s,ss[j]?=some s->∃v,us[j]?=some v/\jB C G v s
def pB.mono(h:pB C G d f)(e:ab G c):pB C c d f:=⟨h.len,λj s q=>let ⟨v,a,b⟩:=h.get j s q;⟨v,a,b.mono e⟩⟩
structure eC (C:Addr)(H:Hp)(Z:List Addr)(us:List V)(oss:List (List Addr))(ss:List bu):Prop where
 l1:us.length=ss.length
 l2:oss.length=ss.length
 get:∀(j:Nat) s,ss[j]?=some s->∃a os,us[j]?=some (.ref a)/\oss[j]?=some os/\gK C H Z a os s/\∀x∈os,x∈Z
 apart:∀(i j:Nat) oi oj,i≠j->oss[i]?=some oi->oss[j]?=some oj->∀x∈oi,x∉oj
def eC.mono(h:eC C H Z d b f)(e:ab H c):eC C c Z d b f:=⟨h.l1,h.l2,λj s q=>let ⟨a,os,g,i,k,l⟩:=h.get j s q;⟨a,os,g,i,k.mono e,l⟩,h.apart⟩
def eC.rep{M:List Addr}(h:eC C H Z c b d)(e:∀x∈M,x∈Z)(f:∀os∈b,∀x∈os,x∉M):pB C (but H M) c d:=⟨h.l1,λj s q=>by
 obtain ⟨a,os,g,i,k,l⟩:=h.get j s q
 exact ⟨_,g,k.rep e (f os (KU i))⟩⟩
def eC.frame{d:Hp}{Z':List Addr}(h:eC C H Z g c i)(l:∀x∈Z,x∈Z')(k:∀b u,(∃os∈c,b∈os)->H b=some u->d b=some u)(S:ab (but H Z) (but d Z')):eC C d Z' g c i:=⟨h.l1,h.l2,λj s q=>by
 obtain ⟨a,os,n,m,o,e⟩:=h.get j s q
 exact ⟨a,os,n,m,o.frame e (λx f=>l x (e x f)) (λb u p=>k b u ⟨os,KU m,p⟩) S,λx f=>l x (e x f)⟩,h.apart⟩
def eC.AK{d:Hp}{e:List Addr}(h:eC C H Z g c i)(l:∀os∈c,∀x∈os,x∈e)(k:∀b u,(∃os∈c,b∈os)->H b=some u->d b=some u)(S:ab (but H Z) (but d e)):eC C d e g c i:=⟨h.l1,h.l2,λj s q=>by
 obtain ⟨a,os,n,m,o,p⟩:=h.get j s q
 have f:=KU m
 exact ⟨a,os,n,m,o.frame p (l os f) (λb u r=>k b u ⟨os,f,r⟩) S,l os f⟩,h.apart⟩
def eR.fk(h:eR H Z p c e)(i:H x=some o)(j:Seen o=false):eR H (x::Z) p c e:=by
 obtain ⟨d,k,m,n,f,q⟩:=h.kvs
 refine ⟨⟨d,k,m,n,λb g=>⟨(f b g).1,λv r=>?_⟩,q⟩,h.lists,h.apart⟩
 obtain ⟨l,s,t,u,w,y⟩:=(f b g).2 v r
 refine ⟨l,s,t,u,w,?_⟩
 have A:=aD.fk i j y
 rwa [j7 (M':=c++p::x::Z) λa=>by
  simp only [KY,Ld]
  constructor
  .rintro (z|z|z|z)
   .exact .inr (.inr (.inl z))
   .exact .inl z
   .exact .inr (.inl z)
   .exact .inr (.inr (.inr z))
  .rintro (z|z|z|z)
   .exact .inr (.inl z)
   .exact .inr (.inr (.inl z))
   .exact .inl z
   .exact .inr (.inr (.inr z))] at A
def eC.fk(h:eC C H Z g b i)(d:H x=some (.ins k c l))(e:Seen (.ins k c l)=false):eC C H (x::Z) g b i:=⟨h.l1,h.l2,λj s q=>by
 obtain ⟨a,os,n,o,p,r⟩:=h.get j s q
 refine ⟨a,os,n,o,?_,λy t=>KG _ (r y t)⟩
 obtain ⟨u,v,m,w,A,B,E,G,I,J,L,M,N⟩:=p.at_
 refine ⟨⟨u,v,m,w,A,B,E,G,I,al.fk d e J,?_,al.fk d e M,N.fk d e⟩⟩
 obtain ⟨O,f⟩:=ax L
 have Q:m≠x:=λz=>by rw [z,d] at f;cases f
 rw [bh (by simp only [KY,PH];exact ⟨Q,O⟩)]
 exact f,h.apart⟩
def eC.put{G:Hp}{j:Nat}{os c:List Addr}(h:eC C H Z I f y)(l:au Z H)(U:y[j]?=some s)(Y:I[j]?=some (.ref a))(J:f[j]?=some os)
  (n:∀x∈c,x∈os\/H x=none) (k:∀b u,b∉os->H b=some u->G b=some u) (L:∀x∈os,x∈Z) (A:gK C G (c++Z) a c s'):eC C G (c++Z) I (f.set j c) (y.set j s'):=by
 have S:=ua n L k
 have M:=(KJ.mp U).1
 have ac:=h.l2
 have o:j<f.length:=by omega
 refine ⟨by rw [Mw];exact h.l1,by rw [Mw,Mw];exact h.l2,λi t q=>?_,λi m Q r g v p x d=>?_⟩
 .by_cases e:j=i
  .subst e
   rw [K6 M] at q
   cases q
   exact ⟨a,c,Y,K6 o,A,λx d=>K9 _ d⟩
  .rw [KQ e] at q
   obtain ⟨a2,N,h1,B,h3,E⟩:=h.get i t q
   refine ⟨a2,N,h1,by rw [KQ e];exact B,h3.frame E (λx d=>KW _ (E x d)) (λb u hb=>k b u λz=>h.apart j i os N e J B b z hb) S,λx d=>KW _ (E x d)⟩
 .have gc:∀{m:Nat} {r:List Addr} {x:Addr},f[m]?=some r->x∈r->x∈Z:=λ{m r x} q d=>by
   have hm:=(KJ.mp q).1
   have O:m<y.length:=by omega
   obtain ⟨_,N,_,B,_,E⟩:=h.get m y[m] (KL O)
   rw [q] at B
   cases B
   exact E x d
  by_cases e:j=i
  .subst e
   rw [K6 o] at v
   cases v
   rw [KQ g] at p
   rcases n x d with z|z
   .exact h.apart j m os r g J p x z
   .intro w
    exact l x (gc p w) z
  .rw [KQ e] at v
   by_cases T:j=m
   .subst T
    rw [K6 o] at p
    cases p
    intro w
    rcases n x w with z|z
    .exact h.apart i j Q os g v J x d z
    .exact l x (gc v d) z
   .rw [KQ T] at p
    exact h.apart i m Q r g v p x d
def oA (C:Addr)(G:Hp)(v:V)(os:List Addr)(s:bu):Prop:=∃a dx v0 sa v2 ao oS,v=.ref a/\os=[a,ao]/\G a=some (.ins C dx (jn v0 sa v2 ao s.newest))/\al G v0 (.tup s.cW)/\G sa=some (.cK oS (.dK (fH s.shared)))/\al G v2 (.lst (s.gs.map lz))/\G ao=some (.dT [])/\s.of=[]
def oA.mono{os:List Addr}(e:ab G b)(h:oA C G v os s):oA C b v os s:=by
 obtain ⟨a,c,d,f,g,i,j,k,l,m,n,o,p,q,r⟩:=h
 exact ⟨a,c,d,f,g,i,j,k,l,e _ _ m,n.mono e,e _ _ o,p.mono e,e _ _ q,r⟩
structure gg (C:Addr)(G:Hp)(us:List V)(oss:List (List Addr))(ss:List bu):Prop where
 l1:us.length=ss.length
 l2:oss.length=ss.length
 get:∀(j:Nat) s,ss[j]?=some s->∃v os,us[j]?=some v/\oss[j]?=some os/\oA C G v os s
 apart:∀(i j:Nat) oi oj,i≠j->oss[i]?=some oi->oss[j]?=some oj->∀x∈oi,x∉oj
def gg.nil:gg C G [] [] []:=⟨rfl,rfl,λj s q=>by simp at q,λi j a b _ q=>by simp at q⟩
def gg.mono(h:gg C G c a d)(e:ab G b):gg C b c a d:=⟨h.l1,h.l2,λj s q=>let ⟨v,os,f,g,i⟩:=h.get j s q;⟨v,os,f,g,i.mono e⟩,h.apart⟩
def gg.seen(h:gg C G i b c){j:Nat}{os:List Addr}(e:b[j]?=some os):∀x∈os,∃o,G x=some o/\Seen o=false:=λx f=>by
 have p:=(KJ.mp e).1
 have q:=h.l2
 have d:j<c.length:=by omega
 obtain ⟨v,r,_,g,a,s,t,u,w,k,y,A,l,m,B,E,H,n,I⟩:=h.get j c[j] (KL d)
 rw [e] at g
 cases g
 rw [l] at f
 rcases KY.mp f with z|z
 .rw [z];exact ⟨_,m,rfl⟩
 .have:x=k:=by simpa using z
  rw [this];exact ⟨_,n,rfl⟩
theorem gg.snoc {C:Addr}{G:Hp}{us:List V}{oss:List (List Addr)}{ss:List bu}{v:V}{os:List Addr}{s:bu}(h:gg C G us oss ss)(hs:oA C G v os s)(hn:∀o∈oss,∀x∈o,x∉os):gg C G (us++[v]) (oss++[os]) (ss++[s]):=by
 have hl1:=h.l1
 have hl2:=h.l2
 have at_:∀{α:Type} {l:List α} {x y:α} {j:Nat},(l++[x])[j]?=some y->(j<l.length/\l[j]?=some y)\/(j=l.length/\y=x):=fun {α l x y j} q=>by
  by_cases hj:j<l.length
  ·rw [getElem?_append_left hj] at q;exact .inl ⟨hj,q⟩
  ·rw [getElem?_append_right (Nat.le_of_not_lt hj)] at q
   have:j-l.length=0:=by
    have:=(List.getElem?_eq_some_iff.mp q).1
    simp at this
    exact this
   rw [this] at q
   exact .inr ⟨by omega,by simpa using q.symm⟩
 refine ⟨by simp [hl1],by simp [hl2],fun j t q=>?_,fun i j oi oj hij qi qj x hx=>?_⟩
 ·rcases at_ q with ⟨h1,h2⟩|⟨h1,h2⟩
  ·obtain ⟨w,o2,q1,q2,q3⟩:=h.get j t h2
   exact ⟨w,o2,by rw [getElem?_append_left (by omega)];exact q1,by rw [getElem?_append_left (by omega)];exact q2,q3⟩
  ·subst h2
   refine ⟨v,os,?_,?_,hs⟩
   ·rw [h1,<-hl1,getElem?_append_right (Nat.le_refl _)];simp
   ·rw [h1,<-hl2,getElem?_append_right (Nat.le_refl _)];simp
 ·rcases at_ qi with ⟨h1,h2⟩|⟨h1,h2⟩
  ·rcases at_ qj with ⟨h3,h4⟩|⟨h3,h4⟩
   ·exact h.apart i j oi oj hij h2 h4 x hx
   ·rw [h4];exact hn oi (mem_of_getElem? h2) x hx
  ·rcases at_ qj with ⟨h3,h4⟩|⟨h3,h4⟩
   ·rw [h2] at hx
    exact fun z=>hn oj (mem_of_getElem? h4) x z hx
   ·exact absurd (h1.trans h3.symm) hij
def gg.own(h:gg C (but H M) y b g):eC C H (b.flatten++M) y b g:=by
 have c:∀x∈b.flatten,∃o,H x=some o/\Seen o=false:=λx e=>by
  obtain ⟨os,G,e⟩:=LF.mp e
  obtain ⟨j,I⟩:=LM.mp G
  obtain ⟨o,m,k⟩:=h.seen I x e
  exact ⟨o,(ax m).2,k⟩
 refine ⟨h.l1,h.l2,λj s q=>?_,h.apart⟩
 obtain ⟨v,os,m,k,a,J,L,A,N,O,Q,rfl,T,U,Y,q5,q6,q7,q8⟩:=h.get j s q
 have n:∀x∈os,x∈b.flatten++M:=λx e=>K9 _ (LF.mpr ⟨os,KU k,e⟩)
 refine ⟨a,os,m,k,⟨⟨J,L,A,N,O,[],Q,T,(ax U).2,wE c Y,?_,wE c q6,?_⟩⟩,n⟩
 .obtain ⟨r1,d⟩:=ax q5
  rw [bh]
  .exact d
  .intro z
   rcases Ld.mp z with z|z
   .obtain ⟨ac,p,f⟩:=LF.mp z
    obtain ⟨i,B⟩:=LM.mp p
    have r:i<g.length:=by have:=(KJ.mp B).1;have:=h.l2;omega
    obtain ⟨v',o2,_,E,a',af,aj,am,an,t,as,e1,e2,e3,e4,e5,e6,e7,e8⟩:=h.get i g[i] (KL r)
    rw [B] at E
    cases E
    rw [e2] at f
    rcases KY.mp f with w|w
    .rw [w] at d;rw [(ax e3).2] at d;cases d
    .have w:A=t:=by simpa using w
     rw [w,(ax e7).2] at d;cases d
   .exact r1 z
 .rw [q8]
  exact ⟨⟨[],(ax q7).2,KR _,⟨λ_=>rfl,λ_=>rfl⟩,λa0 hk=>⟨λ_=>rfl,λv u=>by simp [bn] at u⟩,λ_ _ _ _ _ u=>by simp [bn] at u⟩,(λl hl=>nomatch hl),(λz=>nomatch z)⟩
def jp (a:List D)(B:List Str):List (Str×Nat):=((ak [] a).filter λb=>decide (b∈B)).map λb=>(b,B.idxOf b)
def oo (a:List D)(B:List Str)(W:List (List D)):bu:=⟨a,jp a B,(W.filter λg=>ck g (ak B a)).map λg=>(g,cO g (ak B a)),[],-1⟩
def cL:List (List D)->List Str->List (List D)->List bu
 |[],_,_=>[]
 |a::r,B,W=>oo a B W::cL r (ak B a) (W.filter λg=> !ck g (ak B a))
def Ic (B:List Str)(n:Str)(h:n∉B):bX (dX B) (Sum.inr n) (V.int (B.length:Nat))=dX (B++[n]):=by
 have a:=slot_get B n
 rw [KS h] at a
 unfold bX
 rw [jC,a]
 show dX B++_=_
 unfold dX
 rw [OA,Lq,M8]
 rfl
def zi (B:List Str):(dX B).length=B.length:=by unfold dX;rw [KP,OB]
def EN{E:Ends}{i:Nat}(l:au M H)(y:aA (but H M) f w)(s:p∈M)(e:f[i]?=some (some (.ref p)))(t:H p=some (.dK (dX B)))(z:B.length<sizeLine)(h:ae x (but H M) f (.str n))
  (k:∀g,(∀b o,b≠p->H b=some o->g b=some o)->au M g->g p=some (.dK (dX (if n∈B then B else B++[n])))->aA (but g M) f w->E.nx f g):lw (uA (aR i) x (cH t0 (bb (aR i) bv))) E f H:=by
 refine ⟨.ref p,e,p,rfl,.inl ⟨_,.inl t⟩,h M H (ab.refl _) l _ λv m c A=>⟨.ref p,e,.inl ⟨p,dX B,rfl,.inl (c _ _ t),?_⟩⟩⟩
 have a:=c _ _ t
 have u:=(fQ (d:=.str n) rfl A).2
 have r:=slot_get B n
 by_cases j:n∈B
 .rw [K4 j] at r
  refine ⟨_,m,.inl ⟨by rw [u,<-r];exact cN.k a,rfl,_,a⟩,k m (λb o _ q=>c _ _ q) (l.same c) (by rw [K4 j];exact a) (y.same c)⟩
 .rw [KS j] at r
  refine ⟨_,_,.inr ⟨by rw [u,<-r];exact cN.k a,rfl,by rw [u];exact f6.k (k:=Sum.inr n) a (by rw [zi];exact z)⟩,?_⟩
  have C:but (upd m p (.dK (bX (dX B) (Sum.inr n) (.int ((dX B).length:Nat))))) M=but m M:=dH s
  refine k _ (λb o G q=>by rw [aC G];exact c _ _ q) (l.same c).upd ?_ (by rw [C];exact y.same c)
  rw [aK,zi,Ic B n j,KS j]
section
variable {H:Hp}{M:List Addr}{b p:Addr}{σ:St}{δ:Dn}{kvs:List (aG×V)}
def vM:ab (but H (b::p::M)) (but H (b::M)):=d6 λx a=>by
 rcases KY.mp a with z|z
 .rw [z];exact KN
 .exact KG _ (KG _ z)
def Fj:ab (but H (p::b::M)) (but H (b::p::M)):=d6 λx a=>by
 rcases KY.mp a with z|z
 .rw [z];exact KG _ KN
 .rcases KY.mp z with z|z
  .rw [z];exact KN
  .exact KG _ (KG _ z)
def AB (h:aA (but H (b::M)) σ δ)(a:H p=some (.dK kvs)):aA (but H (b::p::M)) σ δ:=(h.fk a rfl).mono Fj
end
def JB{a L:List Str}{k:Nat}(f:L.Nodup)(h:L[k]?=some n):(if n∈a++(L.take k).filter (λx=> !decide (x∈a)) then a++(L.take k).filter (λx=> !decide (x∈a)) else a++(L.take k).filter (λx=> !decide (x∈a))++[n])=a++(L.take (k+1)).filter (λx=> !decide (x∈a)):=by
 have d:n∉L.take k:=λz=>by
  obtain ⟨i,e⟩:=LM.mp z
  have b:i<k:=by
   have:=(KJ.mp e).1
   rw [Lx] at this
   omega
  rw [MQ b] at e
  exact Ls b (yK f e h)
 rw [LG,h,Me]
 by_cases c:n∈a
 .rw [K4 (K9 _ c)]
  simp [c]
 .rw [KS (by
   intro z
   rcases Ld.mp z with z|z
   .exact c z
   .exact d (La.mp z).1),LK]
  simp [c]
def c9 (g:List D):Bool:= !((ak [] g).map D.str).isEmpty
def mV (as:List (List D)):Prop:=(∀a∈as,eV a)/\as.length<=100
def eX (as:List (List D)):List bu:=cL (as.filter λa=> !aN a) [] ((as.filter aN).filter c9)
def xl (C:Addr):Sp:=λvs H Q _=>∃M as v0,vs=[v0]/\au M H/\al (but H M) v0 (c8 as)/\mV as/\
 ∀p us oss H',ab H H'->but H' M p=some (.lst us)->gg C (but H' M) us oss (eX as)->(∀os∈oss,∀x∈os,H x=none)->H p=none->Q (.ref p) H'
def sv (q:D->Bool)(r:List D->Bool)(F:D->D)(c:List D->D)(b:List (List D))(h:∀a∈b,q (.tup a)=r a)(d:∀a∈b,F (.tup a)=c a):((b.map D.tup).filter q).map F=(b.filter r).map c:=by
 rw [Mv,LH]
 have e:b.filter (q∘D.tup)=b.filter r:=MO h
 rw [e]
 exact Ly λa f=>d a (La.mp f).1
def qh (r:List D->Bool):D->Bool
 |.tup a=>r a
 |_=>false
def xG (r:List D->D):D->D
 |.tup a=>r a
 |_=>.av
end FL
namespace FL
open PySem L2
structure cc where
 steps:List bu
 iT:Bool
 taken:Nat
 fresh:Nat
 last:Int
abbrev iy (sl:Addr)(b:Bool)(t f l:Int):List (Str×V):=[("steps",.ref sl),("is_barred",.bl b),("taken_in",.int t),("fresh",.int f),("last_fresh_step",.int l)]
structure lC (K:PySem.W.Frag)(C:Addr):Prop where
 cl:dk K C
 nS:bO K C "steps"
 nB:bO K C "is_barred"
 nT:bO K C "taken_in"
 nF:bO K C "fresh"
 nL:bO K C "last_fresh_step"
def gG (C CL:Addr)(H:Hp)(Z:List Addr)(a:Addr)(oss:List (List Addr))(lm:cc):Prop:=∃dx sl us,H a=some (.ins CL dx (iy sl lm.iT lm.taken lm.fresh lm.last))/\but H Z sl=some (.lst us)/\eC C H Z us oss lm.steps/\a∈Z/\∀os∈oss,a∉os
def ik (C CL:Addr)(G:Hp)(v:V)(lm:cc):Prop:=∃a dx sl us,v=.ref a/\G a=some (.ins CL dx (iy sl lm.iT lm.taken lm.fresh lm.last))/\G sl=some (.lst us)/\pB C G us lm.steps
def ik.mono(h:ik C b G v d)(e:ab G c):ik C b c v d:=by
 obtain ⟨a,f,g,i,j,k,l,m⟩:=h
 exact ⟨a,f,g,i,j,e _ _ k,e _ _ l,m.mono e⟩
def gG.rep{M:List Addr}(h:gG C c H Z a b d)(e:∀x∈M,x∈Z)(f:a∉M)(g:∀os∈b,∀x∈os,x∉M):ik C c (but H M) (.ref a) d:=by
 obtain ⟨i,j,k,l,m,n,o,p⟩:=h
 exact ⟨a,i,j,k,rfl,by rw [bh f];exact l,(d6 e) _ _ m,n.rep e g⟩
def lh (as:List (List D)):Bool:= !((as.filter aN).filter λg=> !c9 g).all holdsA
def cU (as:List (List D)):cc:=⟨eX as,lh as,0,0,-1⟩
def oh (as:List (List D)):Prop:=∀g∈as,aN g=true->∃r a b,g=[.str r,a,b]
def vP (C CL:Addr):Sp:=λvs H Q _=>∃M as x dx v1,vs=[.ref x,v1]/\H x=some (.ins CL dx [])/\au M H/\al (but H M) v1 (c8 as)/\mV as/\oh as/\
 ∀oss H',(∀b u,b≠x->H b=some u->H' b=some u)->(∀os∈oss,∀y∈os,H y=none)->au (oss.flatten++x::M) H'->gG C CL H' (oss.flatten++x::M) x oss (cU as)->Q .av H'
def dv (s:bu)(n:Nat)(facts:List (List D)):bu:=(facts.zipIdx n).foldl (λs p=>dw s p.2 p.1) s
def J1 {s:bu}{n j:Nat}{a:List (List D)}{g:List D}(h:a[j]?=some g):dv s n (a.take (j+1))=dw (dv s n (a.take j)) (n+j) g:=by
 have c:j<a.length:=(KJ.mp h).1
 unfold dv
 rw [LG,h,OA,Mq]
 have b:(a.take j).length=j:=by rw [Lx];omega
 rw [b]
 rfl
def JM (s:bu)(n:Nat)(g:List D):(dw s n g).of.length<=s.of.length+1:=by
 unfold dw
 split
 .simp
 .omega
def JI (s:bu)(n:Nat)(g:List D):(dw s n g).cW=s.cW:=by
 unfold dw
 split<;>rfl
def uy (n:Nat)(s:bu):∀(l:List (List D×Nat)) (s:bu),((l.foldl (λs p=>dw s p.2 p.1) s).of.length<=s.of.length+l.length)/\(l.foldl (λs p=>dw s p.2 p.1) s).cW=s.cW
 |[],s=>⟨KR _,rfl⟩
 |p::r,s=>by
  obtain ⟨b,a⟩:=uy n s r (dw s p.2 p.1)
  have c:=JM s p.2 p.1
  refine ⟨?_,?_⟩
  .show (r.foldl _ (dw s p.2 p.1)).of.length<=_
   rw [Lr]
   omega
  .show (r.foldl _ (dw s p.2 p.1)).cW=_
   rw [a,JI]
def y2 (s:bu)(n:Nat)(a:List (List D)):(dv s n a).of.length<=s.of.length+a.length:=by
 have:=(uy n s (a.zipIdx n) s).1
 rw [OB] at this
 exact this
def Fn (s:bu)(n:Nat)(a:List (List D)):(dv s n a).cW=s.cW:=(uy n s (a.zipIdx n) s).2
def AL (ss:List bu)(n:Nat):Int:=jc (((List.range ss.length).filter λj=>decide ((n:Int)<=(ss.getD j ⟨[],[],[],[],-1⟩).newest)).map λj=>((j:Nat):Int)) (-1)
def cx (lm:cc)(facts:List (List D)):cc:=⟨lm.steps.map λs=>dv s lm.taken facts,lm.iT,lm.taken+facts.length,lm.taken,AL (lm.steps.map λs=>dv s lm.taken facts) lm.taken⟩
def Bw (C CL:Addr):Sp:=λvs H Q _=>∃Z oss lm facts a v1,vs=[.ref a,v1]/\au Z H/\gG C CL H Z a oss lm/\al (but H Z) v1 (.lst (facts.map D.tup))/\(∀g∈facts,jq g)/\(∀s∈lm.steps,eV s.cW/\s.of.length+facts.length<1000)/\lm.steps.length<=100/\lm.taken+facts.length<2^60/\
 ∀oss' H',(∀os∈oss',∀x∈os,(∃o∈oss,x∈o)\/H x=none)->(∀b u,b≠a->(∀os∈oss,b∉os)->H b=some u->H' b=some u)->au (oss'.flatten++Z) H'->gG C CL H' (oss'.flatten++Z) a oss' (cx lm facts)->Q .av H'
structure ip (C:Addr)(us:List V)(H2:Hp)(Z2:List Addr)(oss:List (List Addr))(H':Hp)(Z':List Addr)(oss':List (List Addr))(ss':List bu):Prop where
 st:eC C H' Z' us oss' ss'
 own:∀os∈oss',∀x∈os,(∃o∈oss,x∈o)\/H2 x=none
 keep:∀b u,(∀os∈oss,b∉os)->H2 b=some u->H' b=some u
 live:au Z' H'
 sub:∀x∈Z2,x∈Z'
 sup:∀x∈Z',x∈Z2\/∃os∈oss',x∈os
section
variable {C:Addr}{us:List V}{H2 H' H'':Hp}{Z2 Z':List Addr}{oss oss':List (List Addr)}{ss':List bu}
def ip.same (h:ip C us H2 Z2 oss H' Z' oss' ss')(j:∀os∈oss,∀x∈os,x∈Z2):ab (but H2 Z2) (but H' Z'):=λb u e=>by
 obtain ⟨g,a⟩:=ax e
 have i:∀os∈oss,b∉os:=λos c z=>g (j os c b z)
 rw [bh]
 .exact h.keep b u i a
 .intro z
  rcases h.sup b z with w|⟨os,c,w⟩
  .exact g w
  .rcases h.own os c b w with ⟨o,d,f⟩|f
   .exact i o d f
   .rw [f] at a;cases a
def ip.mono (h:ip C us H2 Z2 oss H' Z' oss' ss')(e:ab H' H''):ip C us H2 Z2 oss H'' Z' oss' ss':=⟨h.st.mono e,h.own,λb u a q=>e _ _ (h.keep b u a q),h.live.same e,h.sub,h.sup⟩
def ip.put{j:Nat}{os c:List Addr}(h:ip C us H2 Z2 oss H' Z' oss' ss')(E:ss'[j]?=some s)(G:us[j]?=some (.ref a))(m:oss'[j]?=some os)(r:∀x∈os,x∈Z')
  (n:∀x∈c,x∈os\/H' x=none) (t:∀x∈os,x∈c) (k:∀b u,b∉os->H' b=some u->H'' b=some u) (l:au (c++Z') H'') (A:gK C H'' (c++Z') a c s'):ip C us H2 Z2 oss H'' (c++Z') (oss'.set j c) (ss'.set j s'):=by
 have p:j<oss'.length:=(KJ.mp m).1
 have mem_set:∀{o:List Addr},o∈oss'.set j c->o=c\/o∈oss':=λ{o} q=>by
  rcases MJ q with z|z
  .exact .inr z
  .exact .inl z
 have g:∀{x:Addr},H' x=none->(∃o∈oss,x∈o)\/H2 x=none:=λ{x} e=>by
  by_cases z:∃o∈oss,x∈o
  .exact .inl z
  .cases q:H2 x with
   |none=>exact .inr rfl
   |some u=>
    have:=h.keep x u (λo d f=>z ⟨o,d,f⟩) q
    rw [e] at this;cases this
 refine ⟨h.st.put h.live E G m n k r A,λo H x f=>?_,λb u B q=>?_,l,λx f=>KW _ (h.sub x f),λx f=>?_⟩
 .rcases mem_set H with z|z
  .subst z
   rcases n x f with w|w
   .exact h.own os (KU m) x w
   .exact g w
  .exact h.own o z x f
 .have v:=h.keep b u B q
  refine k b u (λz=>?_) v
  rcases h.own os (KU m) b z with ⟨o,d,w⟩|w
  .exact B o d w
  .rw [q] at w;cases w
 .rcases Ld.mp f with z|z
  .exact .inr ⟨c,LM.mpr ⟨j,K6 p⟩,z⟩
  .rcases h.sup x z with w|⟨o,d,w⟩
   .exact .inl w
   .obtain ⟨i,y⟩:=LM.mp d
    by_cases e:j=i
    .subst e
     rw [m] at y
     cases y
     exact .inr ⟨c,LM.mpr ⟨j,K6 p⟩,t x w⟩
    .exact .inr ⟨o,LM.mpr ⟨i,by rw [KQ e];exact y⟩,w⟩
end
end FL
namespace FL
open PySem L2
def fe (lm:cc):List aJ:=if (lm.iT||(decide (lm.last<0)&&decide ((0:Int)<lm.fresh)))=true then [] else if (lm.steps.all λs=>decide ((0:Int)<=s.newest))=true then [([],[])] else []
def kD (lm:cc)(w:aJ):Int:=if (decide (((w.2.length:Nat):Int)=lm.last)&&decide (jc (w.2.map λn=>((n:Nat):Int)) (-1)<lm.fresh))=true then lm.fresh else 0
def db (lm:cc)(w:aJ):List aJ:=match lm.steps[w.2.length]? with
 |some st=>gS st w (kD lm w)
 |none=>[]
def dY (lm:cc):Nat->aJ->List aJ
 |0,w=>[w]
 |n+1,w=>(db lm w).reverse.flatMap (dY lm n)
def dN (lm:cc):Nat->aJ->Nat
 |0,_=>1
 |n+1,w=>1+((db lm w).map (dN lm n)).sum
def B9 (a:cc):∀(n:Nat) (w:aJ),1<=dN a n w
 |0,_=>KR _
 |n+1,w=>LS _ _
def bZ (lm:cc)(w:aJ):Nat:=lm.steps.length-w.2.length
def mB(h:x∈db lm w):x.2.length=w.2.length+1:=by
 unfold db at h
 split at h
 .unfold gS at h
  obtain ⟨o,a,rfl⟩:=Lg.mp (La.mp h).1
  show (w.2++[o.2.1]).length=_
  rw [Lh]
  rfl
 .cases h
def Gx {a:cc}{w:aJ}(h:w.2.length<a.steps.length):dY a (bZ a w) w=(db a w).reverse.flatMap λx=>dY a (bZ a x) x:=by
 have e:bZ a w=bZ a w-1+1:=by unfold bZ;omega
 rw [e]
 show (db a w).reverse.flatMap (dY a (bZ a w-1))=_
 have:∀(L:List aJ),(∀x∈L,x.2.length=w.2.length+1)->L.flatMap (dY a (bZ a w-1))=L.flatMap λx=>dY a (bZ a x) x:=by
  intro L
  induction L with
  |nil=>exact λ_=>rfl
  |cons x r c=>
   intro b
   have d:bZ a x=bZ a w-1:=by have:=b x KN;unfold bZ;omega
   rw [MA,MA,c λy f=>b y (KG _ f),d]
 exact this _ λx b=>mB (NK.mp b)
def G8 {a:cc}{w:aJ}(h:w.2.length<a.steps.length):dN a (bZ a w) w=1+((db a w).map λx=>dN a (bZ a x) x).sum:=by
 have e:bZ a w=bZ a w-1+1:=by unfold bZ;omega
 rw [e]
 show 1+((db a w).map (dN a (bZ a w-1))).sum=_
 congr 2
 exact Ly λx b=>by
  have c:bZ a x=bZ a w-1:=by have:=mB b;unfold bZ;omega
  rw [c]
def vt (a:cc):∀(l:List aJ),l.length<=(l.map λw=>dN a (bZ a w) w).sum
 |[]=>KR _
 |w::r=>by
  rw [LB,OS,Lr]
  have:=vt a r
  have:=B9 a (bZ a w) w
  omega
structure jN (sz:Nat->Nat)(ss:List bu):Prop where
 zero:sz 0=0
 st:∀k s,ss[k]?=some s->jQ (sz k) s/\∀o∈s.of,sz k+o.2.2.length=sz (k+1)
 le:∀k,sz k<=500
 len:ss.length<=100
structure GoodW (sz:Nat->Nat)(ss:List bu)(w:aJ):Prop where
 one:w.1.length=sz w.2.length
 two:w.2.length<=ss.length
 ok:jj w.1
def GoodW.nil(h:jN a b):GoodW a b ([],[]):=⟨h.zero.symm,Ll _,λp c=>nomatch c⟩
def xp{e:cc}(h:jN d e.steps)(g:GoodW d e.steps w):∀x∈db e w,GoodW d e.steps x:=λx a=>by
 have b:=mB a
 unfold db at a
 split at a
 .rename_i s i
  unfold gS at a
  obtain ⟨o,j,rfl⟩:=Lg.mp (La.mp a).1
  have f:o∈(fP s.of (gP w.1 (iG s))).reverse:=(NT _).subset j
  have c:o∈s.of:=(La.mp (NK.mp f)).1
  obtain ⟨k,l⟩:=h.st _ s i
  have m:=(KJ.mp i).1
  refine ⟨?_,?_,λp n=>?_⟩
  .show (w.1++o.2.2).length=d (w.2++[o.2.1]).length
   have b:(w.2++[o.2.1]).length=w.2.length+1:=b
   rw [Lh,g.one,l o c,b]
  .have b:(ny w o).2.length=w.2.length+1:=b
   rw [b];omega
  .rcases Ld.mp n with z|z
   .exact g.ok p z
   .exact (k.of o c).1 p z
 .cases a
def A8 (C CL:Addr):Sp:=λvs H Q _=>∃M lm v0,vs=[v0]/\au M H/\ik C CL (but H M) v0 lm/\lm.steps.length<=100/\∀p us H',ab H H'->H p=none->H' p=some (.lst us)->aD (but H' (p::M)) us ((fe lm).map cR)->Q (.ref p) H'
def vC (C CL:Addr):Sp:=λvs H Q _=>∃M lm w0 v0 v1,vs=[v0,v1]/\au M H/\ik C CL (but H M) v0 lm/\al (but H M) v1 (cR w0)/\∀H',ab H H'->Q (.bl (decide (w0.2.length=lm.steps.length))) H'
def uD (C CL:Addr):Sp:=λvs H Q _=>∃M lm w0 v0 v1 sz,vs=[v0,v1]/\au M H/\ik C CL (but H M) v0 lm/\al (but H M) v1 (cR w0)/\jN sz lm.steps/\GoodW sz lm.steps w0/\w0.2.length<lm.steps.length/\∀v H',ab H H'->al (but H' M) v (.lst ((db lm w0).map cR))->Q v H'
def iU (as facts:List (List D)):List aJ:=(fe (cx (cU as) facts)).flatMap λw=>dY (cx (cU as) facts) (bZ (cx (cU as) facts) w) w
section
variable {K:PySem.W.Frag}{G:Hp}{σ:St}{te:TE}{a:Addr}{us:List V}
def Kk (h:mo te G σ a)(d:G a=some (.lst us)):ae (cH (λe H Q=>∃p b,e=[.ref p]/\(aO K H p b\/bo K H p b)/\Q (.int b.length) H) (bb te bv)) G σ (.int (us.length:Nat)):=
 λM H s l Q k=>h M H s l _ λf c=>⟨a,us,rfl,.inl (aO.of (c _ _ (ax (s _ _ d)).2)),k _ f c (.int _)⟩
def yz{st:bu}{d:aJ}{lo:Int}(h:mo te G σ a)(A:G a=some (.lst us))(B:ae (aR i) G σ (.int (m:Nat)))(E:us[m]?=some v)(j:jB C G v st)(I:jj d.1)(o:d.1.length<=500)(p:d.2.length<=500)(J:jQ d.1.length st)(L:ae (aR n) G σ (cR d))(r:ae (aR q) G σ (.int lo)):
  ae (kQ C "carry_on" (ug C) [] L2.E0 (bz (eF K) te (aR i)) (bb (aR n) (bb (aR q) bv))) G σ (.lst ((gS st d lo).map cR)):=λM H s l Q k=>by
 refine h M H s l _ λN f=>B M N (s.trans (f.but M)) (l.same f) _ λy O w T=>.inl ⟨a,us,_,v,rfl,T.dP,aO.of (w _ _ (f _ _ (ax (s _ _ A)).2)),su E,?_⟩
 have b:=f.trans w
 have c:=j.mono (s.trans (b.but M))
 obtain ⟨x,t,w1,sa,w3,U,oS,rfl,Y,g2,g3,g4,g5⟩:=id c
 refine ⟨x,t,_,rfl,(ax Y).2,rfl,L M O (s.trans (b.but M)) (l.same b) _ λu H2 e ru=>r M H2 (s.trans ((b.trans e).but M)) (l.same (b.trans e)) _ λz H3 g rz=>?_⟩
 have ez:=rz.dP
 subst ez
 exact ⟨M,st,d,lo,.ref x,u,rfl,l.same (b.trans (e.trans g)),c.mono ((e.trans g).but M),ru.mono (g.but M),I,o,p,J,λv' H4 s4 r4=>k v' H4 (b.trans (e.trans (g.trans s4))) r4⟩
def Cr {C CL:Addr}{i j:Nat}{lm:cc}{w0:aJ}(e:σ[i]?=some (some (.ref a)))(hL:ik C CL G (.ref a) lm)(h:ae (aR j) G σ (cR w0)):aY (tB (kQ CL "is_whole" (vC C CL) [] L2.E0 (aR i) (bb (aR j) bv))) G σ (decide (w0.2.length=lm.steps.length)):=λM H s l Q k=>by
 obtain ⟨a',dx',sl,us,e1,g1,g2,g3⟩:=id hL
 cases e1
 refine ⟨.ref a,e,a,dx',_,rfl,(ax (s _ _ g1)).2,rfl,h M H s l _ λv H1 s1 r1=>?_⟩
 exact ⟨M,lm,w0,.ref a,v,rfl,l.same s1,hL.mono (s.trans (s1.but M)),r1,λH2 s2=>⟨_,rfl,k H2 (s1.trans s2)⟩⟩
def Jf {C CL:Addr}{i j:Nat}{lm:cc}{w0:aJ}{sz:Nat->Nat}(e:σ[i]?=some (some (.ref a)))(hL:ik C CL G (.ref a) lm)(hR:jN sz lm.steps)(hW:GoodW sz lm.steps w0)(hlt:w0.2.length<lm.steps.length)(h:ae (aR j) G σ (cR w0)):ae (kQ CL "carried_on" (uD C CL) [] L2.E0 (aR i) (bb (aR j) bv)) G σ (.lst ((db lm w0).map cR)):=λM H s l Q k=>by
 obtain ⟨a',dx',sl,us,e1,g1,g2,g3⟩:=id hL
 cases e1
 refine ⟨.ref a,e,a,dx',_,rfl,(ax (s _ _ g1)).2,rfl,h M H s l _ λv H1 s1 r1=>?_⟩
 exact ⟨M,lm,w0,.ref a,v,sz,rfl,l.same s1,hL.mono (s.trans (s1.but M)),r1,hR,hW,hlt,λv2 H2 s2 r2=>k v2 H2 (s1.trans s2) r2⟩
def jo(s:ab H b)(h:b p=none):H p=none:=by
 cases q:H p with
 |none=>rfl
 |some u=>rw [s _ _ q] at h;cases h
def wO{E:Ends}(l:au M H)(h:dI t (but H M) σ ds)(g:ds.length<=sizeLine)(k:∀p b c,ab H c->H p=none->c p=some (.lst b)->aD (but c (p::M)) b ds->E.rt (.ref p) c):pS (jt t) E σ H:=
 h M H (ab.refl _) l _ λb i e f=>⟨by rw [f.length];exact g,λp d=>k p b _ (e.trans (cG d _)) (by
  cases q:H p with
  |none=>rfl
  |some u=>rw [e _ _ q] at d;cases d) aK (qv d f)⟩
end
def yL:∀(b:List (List D)) (B:List Str) (W:List (List D)) (s:bu),s∈cL b B W->s.cW∈b/\s.of=[]/\s.newest=-1
 |[],_,_,s,h=>by cases h
 |a::r,B,W,s,h=>by
  rcases KY.mp h with z|z
  .subst z;exact ⟨KN,rfl,rfl⟩
  .obtain ⟨c,d,e⟩:=yL r _ _ s z
   exact ⟨KG _ c,d,e⟩
def mC:∀(b:List (List D)) (B:List Str) (W:List (List D)),(cL b B W).length=b.length
 |[],_,_=>rfl
 |a::r,B,W=>LL (· +1) (mC r _ _)
end FL
namespace O5
open PySem L2 FL
structure iX where
 shared:List Nat
 of:List dO
 gs:List (List D×List Nat)
structure jQ (n:Nat)(st:iX):Prop where
 sh:∀i∈st.shared,i<n
 shl:st.shared.length<=100
 of:∀o∈st.of,jj o.2.2/\o.2.2.length<=100/\∀g∈st.gs,ti (n+o.2.2.length) g
 uR:st.of.length<=200
def g9 (st:iX)(w:aJ):List aJ:=(on st.of (gP w.1 st.shared) w).filter λx=>gi x.1 st.gs
def cL (facts:List (List D)):List (List D)->List Str->List (List D)->List iX
 |[],_,_=>[]
 |a::r,B,W=>⟨cO a B,el a facts B,(W.filter λg=>ck g (ak B a)).map λg=>(g,cO g (ak B a))⟩::cL facts r (ak B a) (W.filter λg=> !ck g (ak B a))
def eX (facts as:List (List D)):List iX:=cL facts (as.filter λa=> !aN a) [] ((as.filter aN).filter c9)
def ii:List iX->aJ->List aJ
 |[],w=>[w]
 |s::r,w=>(g9 s w).flatMap (ii r)
def nodes:List iX->aJ->Nat
 |[],_=>1
 |s::r,w=>1+((g9 s w).map (nodes r)).sum
def tQ (facts as:List (List D)):List aJ:=if (((as.filter aN).filter λg=> !c9 g).all holdsA&&(eX facts as).all λs=> !s.of.isEmpty)=true then ii (eX facts as) ([],[]) else []
structure jN (sz:Nat->Nat)(ss:List iX):Prop where
 zero:sz 0=0
 st:∀k s,ss[k]?=some s->jQ (sz k) s/\∀o∈s.of,sz k+o.2.2.length=sz (k+1)
 le:∀k,sz k<=500
 len:ss.length<=100
def EK (A:List D)(a:List (List D))(b:List Str):(el A a b).length<=a.length:=by
 unfold el
 have:=List.length_filterMap_le (λp:List D×Nat=>(bw A p.1 []).map λst=>(du b st,(p.2,restOf b st))) a.zipIdx
 rw [OB] at this
 exact this
def CU{V:Str->D}{B:List Str}(h:b∈B)(d:Str×D):(aq V B).getD (B.idxOf b) d=(b,V b):=by
 have a:=Oq h
 unfold aq
 rw [List.getD,KZ,KL a]
 show (B[B.idxOf b],V B[B.idxOf b])=(b,V b)
 rw [List.getElem_idxOf a]
def yH (V:Str->D)(B:List Str)(g:List D):eh (aq V B) (cO g B)=aq V ((ak [] g).filter λb=>decide (b∈B)):=by
 unfold eh cO
 rw [LH]
 unfold aq
 refine Ly λb a=>?_
 have:=Le (La.mp a).2
 exact CU this _
def zw (V:Str->D)(B:List Str)(a:List D):gP (aq V B) (cO a B)=((ak [] a).filter λb=>decide (b∈B)).map V:=by
 unfold gP
 rw [yH]
 unfold aq
 rw [LH]
 rfl
def xD(h:ck g B=true):(ak [] g).filter (λb=>decide (b∈B))=ak [] g:=by
 have:=Le h
 unfold cO at this
 rw [KP] at this
 exact LZ.mpr (List.length_filter_eq_length_iff.mp this)
def tX{V:Str->D}(a:cp B)(h:∀b∈ak [] g,b∈B):g.map (bY (aq V B))=g.map (a6 V):=
 Ly λx c=>jK a λe=>h _ (ng c e)
def g8 (W:List (List D))(B:List Str)(S:aP):Bool:=(W.filter λg=>ck g B).all λg=>holdsA (g.map (bY S))
def DQ{V:Str->D}(W:List (List D))(f:cp B):gi (aq V B) ((W.filter λg=>ck g B).map λg=>(g,cO g B))=g8 W B (aq V B):=by
 unfold gi g8
 rw [NP]
 have e:∀L:List (List D),(∀g∈L,ck g B=true)->L.all ((λg=>holdsA (g.1.map (bY (eh (aq V B) g.2))))∘λg=>(g,cO g B))=L.all λg=>holdsA (g.map (bY (aq V B))):=by
  intro L
  induction L with
  |nil=>exact λ_=>rfl
  |cons g r i=>
   intro h
   rw [Nm,Nm,i λx j=>h x (KG _ j)]
   congr 1
   have c:=xD (h g KN)
   show holdsA (g.map (bY (eh (aq V B) (cO g B))))=holdsA (g.map (bY (aq V B)))
   have a:∀b∈ak [] g,b∈B:=λb d=>by
    rw [<-c] at d
    exact Le (La.mp d).2
   rw [yH,c,tX (iE eZ) (λb d=>d),tX f a]
 exact e _ λg c=>(La.mp c).2
def g7:List (List D)->List Str->List (List D)->List i6
 |[],_,_=>[]
 |a::r,B,W=>⟨a,g8 W (ak B a)⟩::g7 r (ak B a) (W.filter λg=> !ck g (ak B a))
def t6{V:Str->D}(e:cp B)(f:x∈ext b a (aq V B,d)):∃c,x.1=aq c (ak B a):=by
 obtain ⟨S,h⟩:=x
 obtain ⟨i,g,_,j,_⟩:=lg.mp f
 obtain ⟨c,_,k,_⟩:=iC e j
 exact ⟨c,k⟩
def xM (b:List (List D)):∀(d:List (List D)) (B:List Str) (W:List (List D)) (V:Str->D) (f:List Nat),cp B->(∀a∈d,iR a)->ii (cL b d B W) (aq V B,f)=fo b (g7 d B W) [(aq V B,f)]
 |[],B,W,V,f,_,_=>rfl
 |a::r,B,W,V,f,k,p=>by
  have i:=iE (l:=a) k
  have q:g9 ⟨cO a B,el a b B,(W.filter λg=>ck g (ak B a)).map λg=>(g,cO g (ak B a))⟩ (aq V B,f)=np b ⟨a,g8 W (ak B a)⟩ (aq V B,f):=by
   unfold g9 np
   show (on (el a b B) (gP (aq V B) (cO a B)) (aq V B,f)).filter _=(ext b a (aq V B,f)).filter _
   rw [zw,uj k (p a KN)]
   refine MO λx m=>?_
   obtain ⟨j,e⟩:=t6 k m
   rw [e]
   exact DQ W i
  show (g9 ⟨cO a B,el a b B,_⟩ (aq V B,f)).flatMap (ii (cL b r (ak B a) _))=fo b (g7 r (ak B a) _) ([(aq V B,f)].flatMap (np b ⟨a,g8 W (ak B a)⟩))
  rw [q,NU,xr]
  have n:∀L:List aJ,(∀x∈L,∃j,x.1=aq j (ak B a))->L.flatMap (ii (cL b r (ak B a) (W.filter λg=> !ck g (ak B a))))=L.flatMap λw=>fo b (g7 r (ak B a) (W.filter λg=> !ck g (ak B a))) [w]:=by
   intro L
   induction L with
   |nil=>exact λ_=>rfl
   |cons x t s=>
    intro h
    obtain ⟨j,e⟩:=h x KN
    obtain ⟨S,o⟩:=x
    have e:S=aq j (ak B a):=e
    subst e
    rw [MA,MA,s λy u=>h y (KG _ u),xM b r (ak B a) _ j o i λc v=>p c (KG _ v)]
  exact n _ λx m=>t6 k (La.mp m).1
def gq (gs:List (List D))(S:aP):Bool:=gs.all λg=>holdsA (g.map (bY S))
def wm:ck g B=true↔∀b∈ak [] g,b∈B:=by
 constructor
 .intro h b a
  rw [<-xD h] at a
  exact Le (La.mp a).2
 .intro h
  unfold ck cO
  rw [KP,LZ.mpr λb a=>Ln (h b a)]
  exact Ln rfl
def uw(p f:a->Bool):∀l:List a,l.all f=((l.filter p).all f&&(l.filter λx=> !p x).all f)
 |[]=>rfl
 |x::r=>by
  rw [Nm,uw p f r,Pq,Pq]
  by_cases h:p x=true
  .rw [K4 h,KS (by simp [h]),Nm,Bool.and_assoc]
  .have b:p x=false:=by simpa using h
   rw [KS h,K4 (by simp [b]),Nm]
   cases f x<;>simp
def Ad (S:aP):∀(c:List (List D)) (B:List Str) (W:List (List D)),(∀g∈W,ck g B=false)->(∀g∈W,∀b∈ak [] g,b∈aW B c)->((g7 c B W).all λs=>s.ok S)=gq W S
 |[],B,W,f,d=>by
  have:W=[]:=by
   cases W with
   |nil=>rfl
   |cons g r=>
    have a:=f g KN
    have b:=wm.mpr (d g KN)
    rw [show ck g B=true from b] at a;cases a
  rw [this];rfl
 |a::r,B,W,f,d=>by
  show (g8 W (ak B a) S&&(g7 r (ak B a) _).all λs=>s.ok S)=_
  rw [Ad S r (ak B a) _ (λg e=>by simpa using (La.mp e).2) (λg e=>d g (La.mp e).1)]
  unfold gq g8
  exact (uw (λg=>ck g (ak B a)) _ W).symm
def wR:∀(b:List (List D)) (B:List Str) (W:List (List D)),(g7 b B W).map (·.atom)=b
 |[],_,_=>rfl
 |a::r,B,W=>by
  show a::(g7 r _ _).map (·.atom)=a::r
  rw [wR r]
def Ae:∀(b:List (List D)) (B:List Str) (W:List (List D)) (i:Nat) (s:i6),(g7 b B W)[i]?=some s->∃c,s.ok=g8 c (aW B (b.take (i+1)))
 |[],_,_,i,s,h=>by simp [g7] at h
 |a::r,B,W,0,s,h=>by
  have h:i6.mk a (g8 W (ak B a))=s:=K8 h
  refine ⟨W,?_⟩
  rw [<-h]
  rfl
 |a::r,B,W,i+1,s,h=>by
  have h:(g7 r (ak B a) (W.filter λg=> !ck g (ak B a)))[i]?=some s:=h
  obtain ⟨c,e⟩:=Ae r _ _ i s h
  exact ⟨c,by rw [e];rfl⟩
def Hl(V a:Str->D)(C:List Str)(i:cp (B++C))(h:∀b∈B,a b=V b):g8 W B (aq a (B++C))=g8 W B (aq V B):=by
 unfold g8
 have c:∀L:List (List D),(∀g∈L,ck g B=true)->L.all (λg=>holdsA (g.map (bY (aq a (B++C)))))=L.all λg=>holdsA (g.map (bY (aq V B))):=by
  intro L
  induction L with
  |nil=>exact λ_=>rfl
  |cons g r l=>
   intro j
   rw [Nm,Nm,l λx d=>j x (KG _ d)]
   congr 2
   have m:=wm.mp (j g KN)
   refine Ly λx d=>?_
   by_cases e:aB x=true
   .have f:=m _ (ng d e)
    have n:=nQ (V:=a) (B:=B++C) (K9 _ f)
    have o:=nQ (V:=V) f
    rw [gT e,n,o,h _ f]
   .have k:aB x=false:=by simpa using e
    rw [jv (nh i k),jv (nh (λb p=>i b (K9 _ p)) k)]
 exact c _ λg q=>(La.mp q).2
def IW{c:List (List D)}{W:List (List D)}(j:∀a∈c,iR a)(k:∀g∈W,ck g []=false)(l:∀g∈W,∀b∈ak [] g,b∈aW [] c):ii (cL facts c [] W) ([],[])=(fw facts c [([],[])]).filter λw=>gq W w.1:=by
 have m:=xM facts c [] W (λ_=>.av) [] eZ j
 have d:=AA facts (g7 c [] W) [] [([],[])] eZ (λw n=>⟨λ_=>.av,by rw [Li.mp n];rfl⟩) (λi s o V p C f h=>by
  obtain ⟨q,e⟩:=Ae c [] W i s o
  rw [OT,wR] at f h⊢
  rw [e]
  exact Hl V p C f h)
 rw [wR] at d
 refine (show ii (cL facts c [] W) ([],[])=_ from m).trans (d.trans ?_)
 refine MO λw _=>?_
 exact Ad w.1 c [] W k l
def Au (b:List (List D)):∀(d:List (List D)) (B:List Str) (W:List (List D)) (i:List aJ),cp B->(∀a∈d,iR a)->(∀w∈i,∃V,w.1=aq V B)->((cL b d B W).all λs=> !s.of.isEmpty)=false->fw b d i=[]
 |[],_,_,_,_,_,_,h=>by cases h
 |a::r,B,W,i,j,m,n,h=>by
  show fw b r (i.flatMap (ext b a))=[]
  by_cases o:el a b B=[]
  .have:i.flatMap (ext b a)=[]:=by
    rw [List.flatMap_eq_nil_iff]
    intro w f
    obtain ⟨V,e⟩:=n w f
    obtain ⟨S,p⟩:=w
    have e:S=aq V B:=e
    subst e
    rw [<-uj j (m a KN),o]
    rfl
   rw [this,zW]
  .refine Au b r (ak B a) (W.filter λg=> !ck g (ak B a)) _ (iE j) (λc q=>m c (KG _ q)) (λx k=>?_) ?_
   .obtain ⟨w,f,k⟩:=Mb.mp k
    obtain ⟨V,e⟩:=n w f
    obtain ⟨S,p⟩:=w
    have e:S=aq V B:=e
    subst e
    exact t6 j k
   .have h:((!(el a b B).isEmpty)&&(cL b r (ak B a) (W.filter λg=> !ck g (ak B a))).all λs=> !s.of.isEmpty)=false:=h
    have l:(!(el a b B).isEmpty)=true:=by
     cases t:el a b B with
     |nil=>exact absurd t o
     |cons _ _=>rfl
    rw [l,N4] at h
    exact h
def FZ{S:aP}(b:∀p∈S,aB (.str p.1)=true)(h:c9 g=false):g.map (bY S)=g:=by
 have c:ak [] g=[]:=by
  unfold c9 at h
  cases e:ak [] g with
  |nil=>rfl
  |cons x r=>rw [e] at h;cases h
 have:∀x∈g,bY S x=x:=λx d=>by
  have a:aB x=false:=by
   cases e:aB x with
   |false=>rfl
   |true=>
    have:=ng (B:=[]) d e
    rw [c] at this;cases this
  refine jv ?_
  cases q:fi S x with
  |false=>rfl
  |true=>
   obtain ⟨p,f,e⟩:=Pp.mp q
   have e:D.str p.1=x:=Le e
   have:=b p f
   rw [e,a] at this;cases this
 exact (Ly this).trans (NS g)
def Ib{as:List (List D)}(z:∀a∈as,aN a=false->iR a)(A:∀g∈as,aN g=true->∀b∈ak [] g,b∈aW [] (as.filter λa=> !aN a)):tQ facts as=(fw facts (as.filter λa=> !aN a) [([],[])]).filter λw=>gq (as.filter aN) w.1:=by
 have d:∀a∈as.filter λa=> !aN a,iR a:=λa v=>z a (La.mp v).1 (by simpa using (La.mp v).2)
 have l:∀g∈(as.filter aN).filter c9,ck g []=false:=λg f=>by
  have m:=(La.mp f).2
  cases e:ck g [] with
  |false=>rfl
  |true=>
   have:=wm.mp e
   have n:ak [] g=[]:=by
    cases q:ak [] g with
    |nil=>rfl
    |cons x r=>have:=this x (by rw [q];exact KN);cases this
   unfold c9 at m
   rw [n] at m;cases m
 have o:∀g∈(as.filter aN).filter c9,∀b∈ak [] g,b∈aW [] (as.filter λa=> !aN a):=λg f=>by
  have:=(La.mp f).1
  exact A g (La.mp this).1 (La.mp this).2
 have B:=IW (facts:=facts) d l o
 have t:∀w∈fw facts (as.filter λa=> !aN a) [([],[])],∀p∈w.1,aB (.str p.1)=true:=λw i p C=>by
  obtain ⟨S,H⟩:=w
  obtain ⟨V,rfl,_⟩:=(t8 d).mp i
  obtain ⟨b,n,rfl⟩:=Lg.mp C
  exact iV eZ b n
 have c:∀w∈fw facts (as.filter λa=> !aN a) [([],[])],gq (as.filter aN) w.1=(gq ((as.filter aN).filter c9) w.1&&((as.filter aN).filter λg=> !c9 g).all holdsA):=λw i=>by
  unfold gq
  rw [uw c9]
  congr 1
  have:∀L:List (List D),(∀g∈L,c9 g=false)->(L.all λg=>holdsA (g.map (bY w.1)))=L.all holdsA:=by
   intro L
   induction L with
   |nil=>exact λ_=>rfl
   |cons g r E=>
    intro h
    rw [Nm,Nm,E λx G=>h x (KG _ G),FZ (t w i) (h g KN)]
  exact this _ λg f=>by simpa using (La.mp f).2
 rw [MO c]
 unfold tQ
 by_cases u:((as.filter aN).filter λg=> !c9 g).all holdsA=true
 .by_cases y:((eX facts as).all λs=> !s.of.isEmpty)=true
  .rw [K4 (by rw [u,y];rfl)]
   unfold eX
   rw [B]
   refine MO λw _=>?_
   rw [u,OP]
  .have j:((eX facts as).all λs=> !s.of.isEmpty)=false:=by simpa using y
   rw [KS (by rw [j];simp),Au facts _ [] _ _ eZ d (λw i=>⟨λ_=>.av,by rw [Li.mp i];rfl⟩) j]
   rfl
 .have k:((as.filter aN).filter λg=> !c9 g).all holdsA=false:=by simpa using u
  rw [KS (by rw [k];simp),O7.mpr λw _=>by rw [k,Ov];exact K0]
def rZ (g:List D):Prop:=eV g/\∃r x y,g=[.str r,x,y]/\aB (.str r)=false
def zd:∀i∈cO g B,i<B.length:=λi a=>by
 obtain ⟨b,c,rfl⟩:=Lg.mp a
 exact Oq (Le (La.mp c).2)
def AV (g:List D)(B:List Str):(cO g B).length<=g.length:=by
 unfold cO
 rw [KP]
 have c:=Lv (λb=>decide (b∈B)) (ak [] g)
 have a:=kW g []
 rw [MR] at a
 omega
def IY{c:List (List D)}{B:List Str}{W:List (List D)}(v:∀g∈c,jq g)(w:c.length<=200)(s:eV a)(z:∀g∈W,rZ g):
  jQ B.length ⟨cO a B,el a c B,(W.filter λg=>ck g (ak B a)).map λg=>(g,cO g (ak B a))⟩/\∀o∈el a c B,B.length+o.2.2.length=(ak B a).length:=by
 have k:∀o∈el a c B,jj o.2.2/\o.2.2.length<=100/\B.length+o.2.2.length=(ak B a).length:=λo j=>by
  unfold el at j
  obtain ⟨⟨g,i⟩,m,e⟩:=ND.mp j
  have n:g∈c:=KU (Nc.mp m)
  cases l:bw a g [] with
  |none=>
   have e:(bw a g []).map (λst=>(du B st,(i,restOf B st)))=some o:=e
   rw [l] at e;cases e
  |some st=>
   have e:(bw a g []).map (λst=>(du B st,(i,restOf B st)))=some o:=e
   rw [l] at e
   have e:=K8 e
   rw [<-e]
   have cq:=xw l (λt A=>nomatch A) (v g n).2
   have C:=Ag l
   have E:=s.len
   obtain ⟨U,_,d,_⟩:=iC (V:=λ_=>.av) (B:=[]) eZ l
   have d:st=aq U (ak [] a):=d
   refine ⟨λp G=>?_,?_,?_⟩
   .have f:=(La.mp (show p∈restOf B st from G)).1
    refine ⟨cq p f,?_⟩
    rw [d] at f
    obtain ⟨b,H,rfl⟩:=Lg.mp f
    exact iE eZ b H
   .have:=Lv (λp:Str×D=> !decide (p.1∈B)) st
    show (restOf B st).length<=100
    unfold restOf
    omega
   .show B.length+(restOf B st).length=_
    have I:(restOf B st).length=((ak [] a).filter λb=> !decide (b∈B)).length:=by
     unfold restOf
     rw [d,v9 U _ (λb=> !decide (b∈B))]
     unfold aq
     rw [KP]
    rw [I,mn a B,Lh]
 refine ⟨⟨zd,Lk (AV a B) s.len,λo j=>?_,Lk (EK a c B) w⟩,λo j=>(k o j).2.2⟩
 obtain ⟨J,L,M⟩:=k o j
 refine ⟨J,L,λg m=>?_⟩
 obtain ⟨u,q,rfl⟩:=Lg.mp m
 obtain ⟨h,r,x,y,e,N⟩:=z u (La.mp q).1
 refine ⟨⟨r,x,y,e,(h.sc x (by rw [e];simp)).1,(h.sc y (by rw [e];simp)).1,N⟩,?_,Lk (AV u _) h.len⟩
 rw [M]
 exact zd
def yI {b:List (List D)}(i:∀g∈b,jq g)(j:b.length<=200):∀(d:List (List D)) (B:List Str) (W:List (List D)),(∀a∈d,eV a)->(∀g∈W,rZ g)->∀(k:Nat) (s:iX),(cL b d B W)[k]?=some s->
  jQ (aW B (d.take k)).length s/\∀o∈s.of,(aW B (d.take k)).length+o.2.2.length=(aW B (d.take (k+1))).length
 |[],_,_,_,_,k,s,h=>by simp [cL] at h
 |a::r,B,W,e,f,0,s,h=>by
  have h:=K8 h
  rw [<-h]
  exact IY i j (e a KN) f
 |a::r,B,W,e,f,k+1,s,h=>by
  have h:(cL b r (ak B a) (W.filter λg=> !ck g (ak B a)))[k]?=some s:=h
  exact yI i j r (ak B a) _ (λc l=>e c (KG _ l)) (λg m=>f g (La.mp m).1) k s h
def mC (b:List (List D)):∀(c:List (List D)) (B:List Str) (W:List (List D)),(cL b c B W).length=c.length
 |[],_,_=>rfl
 |a::r,B,W=>LL (· +1) (mC b r _ _)
def HP {b c:List (List D)}(e:∀g∈b,jq g)(f:b.length<=200)(i:∀a∈c,eV a)(j:c.length<=100)(l:∀g∈c,aN g=true->rZ g)(m:∀k,(aW [] ((c.filter λa=> !aN a).take k)).length<=500):
  jN (λk=>(aW [] ((c.filter λa=> !aN a).take k)).length) (eX b c):=by
 refine ⟨rfl,λk s h=>?_,m,?_⟩
 .exact yI e f _ [] _ (λa n=>i a (La.mp n).1) (λg d=>l g (La.mp (La.mp d).1).1 (La.mp (La.mp d).1).2) k s h
 .unfold eX
  rw [mC]
  exact Lk (Lv _ _) j
def pw (F:Nat):Nat->Nat
 |0=>1
 |n+1=>1+F*pw F n
def xQ(f:a->Nat)(c:Nat):∀l:List a,(∀x∈l,f x<=c)->(l.map f).sum<=l.length*c
 |[],_=>Ll _
 |x::r,h=>by
  rw [LB,OS,Lr,Pa]
  have d:=xQ f c r λy b=>h y (KG _ b)
  have e:=h x KN
  omega
end O5
namespace FL
open PySem L2
def oC (a:List D)(B:List Str)(l:List (List D×Nat)):List dO:=l.filterMap λp=>(bw a p.1 []).map λst=>(du B st,(p.2,restOf B st))
def Ax:∀(l:List (List D×Nat)) (s:bu),let t:=l.foldl (λs p=>dw s p.2 p.1) s
  t.cW=s.cW/\t.shared=s.shared/\t.gs=s.gs/\t.of=s.of++oC s.cW (fm s) l
 |[],s=>⟨rfl,rfl,rfl,(LA _).symm⟩
 |p::r,s=>by
  obtain ⟨a,b,c,d⟩:=Ax r (dw s p.2 p.1)
  have e:(dw s p.2 p.1).cW=s.cW/\(dw s p.2 p.1).shared=s.shared/\(dw s p.2 p.1).gs=s.gs/\(dw s p.2 p.1).of=s.of++(match bw s.cW p.1 [] with|some st=>[(du (fm s) st,(p.2,restOf (fm s) st))]|none=>[]):=by
   unfold dw
   cases f:bw s.cW p.1 [] with
   |none=>exact ⟨rfl,rfl,rfl,(LA _).symm⟩
   |some st=>exact ⟨rfl,rfl,rfl,rfl⟩
  have g:fm (dw s p.2 p.1)=fm s:=by unfold fm;rw [e.2.1]
  refine ⟨a.trans e.1,b.trans e.2.1,c.trans e.2.2.1,d.trans ?_⟩
  rw [e.2.2.2,e.1,g,LK]
  congr 1
  unfold oC
  rw [Mx]
  cases f:bw s.cW p.1 [] with
  |none=>rfl
  |some st=>rfl
def pA (s:bu):Prop:=decide ((0:Int)<=s.newest)= !s.of.isEmpty
def AQ:∀(l:List (List D×Nat)) (s:bu),pA s->pA (l.foldl (λs p=>dw s p.2 p.1) s)
 |[],s,h=>h
 |p::r,s,h=>by
  refine AQ r (dw s p.2 p.1) ?_
  unfold dw
  cases a:bw s.cW p.1 [] with
  |none=>exact h
  |some st=>
   show decide ((0:Int)<=((p.2:Nat):Int))= !(s.of++[_]).isEmpty
   simp
def Ju{st:aP}(h:bw a g []=some st):∀p∈st,p.1∈ak [] a:=λp c=>by
 obtain ⟨U,_,rfl,_⟩:=iC (V:=λ_=>.av) (B:=[]) eZ h
 obtain ⟨b,d,rfl⟩:=Lg.mp c
 exact d
def Kl (a:List D)(B:List Str):(jp a B).map (·.1)=(ak [] a).filter λb=>decide (b∈B):=by
 unfold jp
 rw [LH]
 exact NS _
def HM (a:List D)(B:List Str):(jp a B).map (·.2)=cO a B:=by
 unfold jp cO
 rw [LH]
 rfl
def yR{B:List Str}(h:b∈ak [] a):decide (b∈(ak [] a).filter λb=>decide (b∈B))=decide (b∈B):=
 N0.mpr ⟨λw=>Le (La.mp w).2,λz=>La.mpr ⟨h,Ln z⟩⟩
def GB (a:List D)(B:List Str)(c:List (List D)):oC a ((ak [] a).filter λb=>decide (b∈B)) (c.zipIdx 0)=el a c B:=by
 unfold oC el
 have:∀l:List (List D×Nat),l.filterMap (λp=>(bw a p.1 []).map λst=>(du ((ak [] a).filter λb=>decide (b∈B)) st,(p.2,restOf ((ak [] a).filter λb=>decide (b∈B)) st)))=l.filterMap λp=>(bw a p.1 []).map λst=>(du B st,(p.2,restOf B st)):=by
  intro l
  induction l with
  |nil=>rfl
  |cons p r f=>
   rw [Mx,Mx,f]
   cases g:bw a p.1 [] with
   |none=>rfl
   |some st=>
    have e:=Ju g
    have h:du ((ak [] a).filter λb=>decide (b∈B)) st=du B st:=by
     unfold du
     rw [MO λq d=>yR (e q d)]
    have i:restOf ((ak [] a).filter λb=>decide (b∈B)) st=restOf B st:=by
     unfold restOf
     refine MO λq d=>?_
     rw [yR (e q d)]
    show (_,_)::_=(_,_)::_
    rw [h,i]
 exact this _
def dU (s:bu):O5.iX:=⟨iG s,s.of,s.gs⟩
def IK (a:List D)(B:List Str)(W facts:List (List D)):dU (dv (oo a B W) 0 facts)=⟨cO a B,el a facts B,(W.filter λg=>ck g (ak B a)).map λg=>(g,cO g (ak B a))⟩/\pA (dv (oo a B W) 0 facts):=by
 obtain ⟨h1,h2,h3,h4⟩:=Ax (facts.zipIdx 0) (oo a B W)
 refine ⟨?_,AQ _ _ (show decide ((0:Int)<= -1)= !([]:List dO).isEmpty from rfl)⟩
 have e:(dv (oo a B W) 0 facts).of=el a facts B:=by
  unfold dv
  rw [h4]
  show []++oC a ((jp a B).map (·.1)) _=_
  rw [Na,Kl,GB]
 unfold dU iG
 rw [e]
 unfold dv
 rw [h2,h3]
 show O5.iX.mk ((jp a B).map (·.2)) _ _=_
 rw [HM]
 rfl
def qe (facts:List (List D)):∀(asks:List (List D)) (B:List Str) (W:List (List D)),((cL asks B W).map λs=>dv s 0 facts).map dU=O5.cL facts asks B W/\∀s∈(cL asks B W).map λs=>dv s 0 facts,pA s
 |[],_,_=>⟨rfl,λs h=>nomatch h⟩
 |a::r,B,W=>by
  obtain ⟨h1,h2⟩:=qe facts r (ak B a) (W.filter λg=> !ck g (ak B a))
  obtain ⟨h3,h4⟩:=IK a B W facts
  refine ⟨?_,λs hs=>?_⟩
  .show dU _::List.map dU (List.map _ (cL r _ _))=_::O5.cL facts r _ _
   rw [h1,h3]
  .rcases KY.mp hs with z|z
   .rw [z];exact h4
   .exact h2 s z
theorem AN (s:bu)(w:aJ):gS s w 0=(O5.g9 (dU s) w).reverse:=by
 unfold gS O5.g9 on
 rw [qk fun o _=>(by unfold FL.fresh;exact decide_eq_true (by omega)),List.map_reverse,List.filter_reverse]
 rfl
def IN {a:cc}(h:a.fresh=0)(w:aJ):kD a w=0:=by
 unfold kD
 rw [h]
 split<;>rfl
theorem uK {lm:cc}(h:lm.fresh=0):∀(n:Nat) (w:aJ),w.2.length+n=lm.steps.length->dY lm n w=O5.ii ((lm.steps.map dU).drop w.2.length) w/\dN lm n w=O5.nodes ((lm.steps.map dU).drop w.2.length) w
 |0,w,hn=>by
  rw [List.drop_eq_nil_of_le (by rw [length_map];omega)]
  exact ⟨rfl,rfl⟩
 |n+1,w,hn=>by
  have hlt:w.2.length<lm.steps.length:=by omega
  have hs:=getElem?_eq_getElem hlt
  have hc:db lm w=(O5.g9 (dU lm.steps[w.2.length]) w).reverse:=by
   unfold db
   rw [hs,IN h]
   exact AN _ w
  have hl:∀x∈O5.g9 (dU lm.steps[w.2.length]) w,x.2.length=w.2.length+1:=fun x hx=>mB (lm:=lm) (by rw [hc];exact mem_reverse.mpr hx)
  have ed:(lm.steps.map dU).drop w.2.length=dU lm.steps[w.2.length]::(lm.steps.map dU).drop (w.2.length+1):=by
   rw [List.drop_eq_getElem_cons (by rw [length_map];exact hlt),List.getElem_map]
  rw [ed]
  constructor
  ·show (db lm w).reverse.flatMap (dY lm n)=(O5.g9 _ w).flatMap (O5.ii _)
   rw [hc,List.reverse_reverse]
   have:∀L:List aJ,(∀x∈L,x.2.length=w.2.length+1)->L.flatMap (dY lm n)=L.flatMap (O5.ii ((lm.steps.map dU).drop (w.2.length+1))):=by
    intro L
    induction L with
    |nil=>exact fun _=>rfl
    |cons x r ih=>
     intro hx
     have e:=hx x mem_cons_self
     rw [flatMap_cons,flatMap_cons,ih fun y hy=>hx y (mem_cons_of_mem _ hy),(uK h n x (by omega)).1,e]
   exact this _ hl
  ·show 1+((db lm w).map (dN lm n)).sum=1+((O5.g9 _ w).map (O5.nodes _)).sum
   rw [hc,List.map_reverse,List.sum_reverse]
   congr 2
   refine map_congr_left fun x hx=>?_
   rw [(uK h n x (by have:=hl x hx;omega)).2,hl x hx]
def EW {ss:List bu}(h:∀s∈ss,pA s):(ss.all λs=>decide ((0:Int)<=s.newest))=(ss.map dU).all λs=> !s.of.isEmpty:=by
 induction ss with
 |nil=>rfl
 |cons s r a=>
  rw [Nm,LB,Nm,a λx b=>h x (KG _ b)]
  congr 1
  exact h s KN
def Io (as facts:List (List D)):iU as facts=O5.tQ facts as:=by
 obtain ⟨h1,h2⟩:=qe facts (as.filter λa=> !aN a) [] ((as.filter aN).filter c9)
 have e1:(cx (cU as) facts).steps.map dU=O5.eX facts as:=h1
 have e2:=EW (ss:=(cx (cU as) facts).steps) h2
 rw [e1] at e2
 have hb:(cx (cU as) facts).iT=lh as:=rfl
 have hf:(cx (cU as) facts).fresh=0:=rfl
 unfold iU fe O5.tQ
 generalize cx (cU as) facts=lm at e1 e2 hb hf
 rw [hb,hf,e2]
 unfold lh
 generalize ((as.filter aN).filter λg=> !c9 g).all holdsA=c1
 cases c1 with
 |false=>simp
 |true=>
  have e0:((!true)||(decide (lm.last<0)&&decide ((0:Int)<((0:Nat):Int))))=false:=by simp
  rw [KS (by rw [e0];exact K0),N4]
  split
  .rw [NU]
   have:=(uK hf (bZ lm ([],[])) ([],[]) (by unfold bZ;simp)).1
   rw [this]
   show O5.ii ((lm.steps.map dU).drop 0) _=_
   rw [List.drop_zero,e1]
  .rfl
def DC {facts as:List (List D)}(hF:∀g∈facts,jq g)(hz:facts.length<=200)(hA:∀a∈as,eV a)(hl:as.length<=100)(hg:∀g∈as,aN g=true->O5.rZ g)(hb:∀k,(aW [] ((as.filter λa=> !aN a).take k)).length<=500):
  jN (λk=>(aW [] ((as.filter λa=> !aN a).take k)).length) (cx (cU as) facts).steps:=by
 obtain ⟨h1,_⟩:=qe facts (as.filter λa=> !aN a) [] ((as.filter aN).filter c9)
 have e1:(cx (cU as) facts).steps.map dU=O5.eX facts as:=h1
 have R:=O5.HP hF hz hA hl hg hb
 refine ⟨R.zero,λk s hs=>?_,R.le,?_⟩
 .have ho:(O5.eX facts as)[k]?=some (dU s):=by rw [<-e1,KZ,hs];rfl
  obtain ⟨q1,q2⟩:=R.st k _ ho
  refine ⟨⟨q1.sh,?_,q1.of,Lk q1.uR Z5⟩,q2⟩
  have:=q1.shl
  unfold dU iG at this
  rw [KP] at this
  exact this
 .have:=R.len
  rw [<-e1,KP] at this
  exact this
end FL
namespace L2
open PySem PySem.Spec PyProof.Rows
section
variable {X:Cx}
def As:List V->Hp->VK->Prop:=λxs H Q=>∃a kvs,xs=[.ref a]/\Rd H a (.dK kvs)/\∀p,H p=none->Q (.ref p) (upd H p (.dK kvs))
def Hj:h9 X (.type "dict") As:=by
 intro f s l H m n Q I r h
 obtain ⟨a,c,rfl,e,q⟩:=h
 obtain ⟨u,rfl,g⟩:=OU r
 cases g
 obtain ⟨z,i,p,bD,j⟩:=hJ I.aw e
 have t:=bD.length
 refine kt_call_dict i j Z6 λv d k=>?_
 refine ⟨.ref s.heap.objs.size,_,I.laid (a:=s.heap.objs.size) (o:=.dK c) (t':=s.toks) (λb o e=>?_) (KR _) (tG z (L0.mpr (LN (Ls I.qX))) bD d),rfl,q _ (I.aw.fresh (KR _))⟩
 exact (k.2 b (Ls (Lf e))).trans (KO _ e)
end
end L2
namespace FL
open PySem L2
section
variable {X:Cx}{e:Expr}{te:TE}{p pos:Pos}
def DE (B:Bl X.mg)(h:PE X e te)(b:Gl X "dict":=by rfl)(a:starEach [e] X.env=(false,eval e X.env)::starEach [] X.env:=by rfl):PE X (.Call (.Name "dict" p) [e] [] pos) (cH As (bb te bv)):=
 px Hj b B.dict O6 (ah h ap a) (he:=a)
end
def cJ:List D:=[.str "X",.str "Xy",.str "Z"]
structure xA (as:List (List D)):Prop where
 ne:∀a∈as,a≠[]/\aB (a.headD .av)=false
 sc:∀a∈as,∀x∈a,x.sc=true
 bl:∀a∈as,∀x∈a.tail,aB x=decide (x∈cJ)
 fc:as.length<=100/\∀a∈as,a.length<=10
def IH (B:List Str)(x:D)(c:x.sc=true):ce B x=if (aB x&& !decide (x∈B.map D.str))=true then B++[x.name] else B:=by
 unfold ce
 have:decide (x∈B.map D.str)=decide (x.name∈B)\/aB x=false:=by
  by_cases e:aB x=true
  .left
   rw [gT e]
   refine N0.mpr ⟨λh=>?_,λh=>Lg.mpr ⟨_,h,rfl⟩⟩
   obtain ⟨y,a,b⟩:=Lg.mp h
   have:y=x.name:=by injection b
   rw [<-this];exact a
  .right;simpa using e
 rcases this with e|e
 .rw [e]
 .simp [e]
def Hn(b:List (List D))(j:Nat)(h:b[j]?=some a):aW [] (b.take (j+1))=ak (aW [] (b.take j)) a:=by
 unfold aW
 rw [LG,h,Mq]
 rfl
def D0(h:a≠[])(b:aB (a.headD .av)=false):ak B a=ak B a.tail:=by
 cases a with
 |nil=>exact absurd rfl h
 |cons x r=>
  show ak (ce B x) r=ak B r
  rw [vE (show aB x=false from b)]
def G3 {B:List Str}{l:List D}{j:Nat}{x:D}(h:l[j]?=some x):ak B (l.take (j+1))=ce (ak B (l.take j)) x:=by
 unfold ak
 rw [LG,h,Mq]
 rfl
theorem nu {a b:List D}(ha:∀x∈a,x.sc=true)(hb:∀x∈b,x.sc=true):cn (.tup a) (.tup b)=true/\(D.tup a).cS<=40:=by
 have h:∀a b:List D,(∀x∈a,x.sc=true)->(∀x∈b,x.sc=true)->f7 a b=true/\D.fq a<=0:=by
  intro a
  induction a with
  |nil=>
   intro b _ _
   cases b<;>exact ⟨rfl,Nat.le_refl _⟩
  |cons x r ih=>
   intro b hx hb
   have hr:=ih b.tail (fun y hy=>hx y (mem_cons_of_mem _ hy)) (fun y hy=>hb y (List.mem_of_mem_tail hy))
   have hx0:=hx x mem_cons_self
   have dx:x.cS=0:=by
    cases x with
    |int _=>rfl
    |str _=>rfl
    |_=>simp [D.sc] at hx0
   have hd:D.fq (x::r)<=0:=by
    show Nat.max x.cS (D.fq r)<=0
    rw [dx]
    exact Nat.max_le.mpr ⟨Nat.le_refl _,hr.2⟩
   cases b with
   |nil=>exact ⟨rfl,hd⟩
   |cons y t=>
    refine ⟨?_,hd⟩
    show (cn x y&&f7 r t)=true
    rw [(eT hx0 (hb y mem_cons_self)).1]
    exact hr.1
 obtain ⟨h1,h2⟩:=h a b ha hb
 exact ⟨h1,Nat.le_trans (show (D.tup a).cS<=D.fq a+1 from Nat.le_refl _) (by omega)⟩
def me (pl:List Nat):D:=.tup (pl.map λn=>D.int (n:Nat))
def cw (S:aP)(a:List D):List D:=a.headD .av::a.tail.map (bY S)
def rQ:List Da->D->Prop:=λxs d=>∃a S,xs=[.d (.tup a),.k (bT [] (bA S))]/\a≠[]/\(∀x∈a,x.sc=true)/\(∀p∈S,p.2.sc=true)/\a.length<=10/\d=.tup (cw S a)
def eW (fs:List (List D))(a:List D):Bool:=if a.headD .av=.str "unlike" then (match a with|[_,x,y]=> !decide (x=y)|_=>false) else if a.headD .av=.str "less" then (match a with|[_,.int i,.int j]=>decide (i<j)|_=>false) else decide (a∈fs)
def AF (a:List D):Prop:=a≠[]/\(∀x∈a,x.sc=true)/\(aN a=true->∃r x y,a=[.str r,x,y])
structure gJ (G:Hp)(us:List V)(cs:List aP):Prop where
 len:us.length=cs.length
 get:∀(j:Nat) c,cs[j]?=some c->∃a,us[j]?=some (.ref a)/\G a=some (.dK (bT [] (bA c)))
def gJ.mono(h:gJ G d f)(e:ab G b):gJ b d f:=⟨h.len,λj c q=>let ⟨a,g,i⟩:=h.get j c q;⟨a,g,e _ _ i⟩⟩
def gJ.nil:gJ G [] []:=⟨rfl,λj c q=>by simp at q⟩
theorem gJ.snoc {G:Hp}{us:List V}{cs:List aP}{a:Addr}{c:aP}(h:gJ G us cs)(ha:G a=some (.dK (bT [] (bA c)))):gJ G (us++[.ref a]) (cs++[c]):=by
 have hl:=h.len
 refine ⟨by simp [hl],fun j d q=>?_⟩
 by_cases hj:j<cs.length
 ·rw [getElem?_append_left hj] at q
  obtain ⟨b,h1,h2⟩:=h.get j d q
  exact ⟨b,by rw [getElem?_append_left (by omega)];exact h1,h2⟩
 ·rw [getElem?_append_right (Nat.le_of_not_lt hj)] at q
  have h0:j-cs.length=0:=by
   have:=(List.getElem?_eq_some_iff.mp q).1
   simp at this
   exact this
  rw [h0] at q
  have e:c=d:=by simpa using q
  subst e
  exact ⟨a,by rw [getElem?_append_right (by omega),show j-us.length=0 by omega];rfl,ha⟩
def yY (a:List D)(b:Str):∀(l:List Str) (d:List aP),dE a (l++[b]) d=(dE a l d).flatMap λc=>a.map λt=>c++[(b,t)]
 |[],d=>rfl
 |x::r,d=>yY a b r _
def Bq (a:List D):∀(l:List Str) (b:List aP),(dE a l b).length=b.length*a.length^l.length
 |[],b=>by simp [dE]
 |x::r,b=>by
  show (dE a r _).length=_
  rw [Bq a r,List.length_flatMap]
  have:(b.map λc=>(a.map λt=>c++[(x,t)]).length).sum=b.length*a.length:=by
   have e:(λc:aP=>(a.map λt=>c++[(x,t)]).length)=λ_=>a.length:=by funext c;exact KP _
   rw [e]
   induction b with
   |nil=>simp
   |cons m t d=>rw [LB,OS,d,Lr,Pa,Pb]
  rw [this,Lr,Nat.pow_succ,Nat.mul_assoc,Nat.mul_comm a.length]
def sq (a:List D):∀(l:List Str) (b:List aP) (c:aP),(∀x∈a,x.sc=true)->(∀m∈b,(∀p∈m,p.2.sc=true))->c∈dE a l b->∀p∈c,p.2.sc=true
 |[],b,c,_,d,h=>d c h
 |x::r,b,c,f,d,h=>by
  refine sq a r _ c f (λm e=>?_) h
  obtain ⟨g,i,j⟩:=Mb.mp e
  obtain ⟨t,k,rfl⟩:=Lg.mp j
  exact vk (d g i) (f t k)
def xR (a:List D):∀(l:List Str) (b:List aP) (k:Nat),(∀m∈b,m.length=k)->∀c∈dE a l b,c.length=k+l.length
 |[],b,k,d,c,h=>d c h
 |x::r,b,k,d,c,h=>by
  have:=xR a r _ (k+1) (λm e=>by
   obtain ⟨f,g,i⟩:=Mb.mp e
   obtain ⟨t,j,rfl⟩:=Lg.mp i
   rw [Lh,d f g]
   rfl) c h
  rw [this,Lr]
  omega
def tO:Sp:=λvs H Q _=>∃M Bs pool v0 v1,vs=[v0,v1]/\au M H/\al (but H M) v0 (fU Bs)/\al (but H M) v1 (.lst pool)/\(∀x∈pool,x.sc=true)/\Bs.length<=3/\pool.length<=10/\
 ∀p us H',ab H H'->but H' M p=some (.lst us)->gJ (but H' M) us (dE pool Bs [[]])->Q (.ref p) H'
def Fu{c:List (List D)}:D.tup a∈c.map D.tup↔a∈c:=by
 rw [Lg]
 constructor
 .rintro ⟨b,d,e⟩
  have:b=a:=by injection e
  rw [<-this];exact d
 .exact λh=>⟨a,h,rfl⟩
end FL
namespace FL
open PySem L2
def nz (pre:List D->Prop)(post:List D->D->Prop):Sp:=λvs H Q _=>∃M ds,au M H/\aD (but H M) vs ds/\pre ds/\∀d v H',post ds d->ab H H'->al (but H' M) v d->Q v H'
def BG{a:List D->Prop}(f:∀c,a c->c.length=n):∀d H Q E,nz a b d H Q E->d.length=n:=λd H Q E ⟨M,c,l,r,e,k⟩=>by rw [r.length];exact f c e
section
variable {σ:St}{δ:Dn}{M:List Addr}{H:Hp}{t:TA}{E:Ends}{ds:List D}
end
def GP (x:D):Prop:=x.sc=true/\lO x/\aB x=decide (x∈cJ)
structure lA (a:List D):Prop where
 ne:a≠[]
 hd:aB (a.headD .av)=false
 ok:∀x∈a,x.sc=true/\lO x
 bl:∀x∈a.tail,aB x=decide (x∈cJ)
 len:a.length<=10
def DZ{a:List D}(d:lO (.str r))(e:aB (.str r)=false)(b:∀x∈a,GP x)(f:a.length<=9):lA (.str r::a):=
 ⟨(λz=>nomatch z),e,(λx c=>by
  rcases KY.mp c with z|z
  .rw [z];exact ⟨rfl,d⟩
  .exact ⟨(b x z).1,(b x z).2.1⟩),(λx c=>(b x c).2.2),(by rw [Lr];omega)⟩
def lA.qA(h:lA a):eV a:=⟨h.ok,h.ne,by have:=h.len;omega⟩
def Iz {c:List (List D)}(h:∀a∈c,lA a)(d:c.length<=100):xA c:=⟨λa b=>⟨(h a b).ne,(h a b).hd⟩,λa b x e=>((h a b).ok x e).1,λa b=>(h a b).bl,d,λa b=>(h a b).len⟩
def tP:GP (.str "X"):=⟨rfl,⟨by decide,_,_,rfl⟩,Z9⟩
def sL:GP (.str "Xy"):=⟨rfl,⟨by decide,_,_,rfl⟩,Z9⟩
def tF:GP (.str "Z"):=⟨rfl,⟨by decide,_,_,rfl⟩,Z9⟩
def qH:∀x∈cJ,GP x:=λx a=>by
 simp only [cJ,KY,Lu,LO] at a
 rcases a with rfl|rfl|rfl
 .exact tP
 .exact sL
 .exact tF
def sW (i:Int):GP (.int i):=⟨rfl,trivial,by simp [cJ,aB]⟩
structure sC (pool:List D):Prop where
 len:pool.length=3
 nodup:pool.Nodup
 gp:∀x∈pool,GP x
 nb:∀x∈pool,aB x=false
structure BI (base bs:List (List D)):Prop where
 ask:bs.filter (fun a=> !aN a)=base
 at_:∀a∈bs,lA a
 gd:∀g∈bs,aN g=true->(∃r x y,g=[.str r,x,y])/\∀b∈ak [] g,b∈aW [] base
 nU:base.length<=3
def C0{B:List Str}(g:aB (.str r)=false)(i:aB x=true->x.name∈B)(j:aB y=true->y.name∈B):∀b∈ak [] [.str r,x,y],b∈B:=λb d=>by
 have e:ak [] [.str r,x,y]=ce (ce (ce [] (.str r)) x) y:=rfl
 rw [e,vE (B:=[]) g] at d
 have a:∀{C:List Str} {z:D},b∈ce C z->b∈C\/(aB z=true/\b=z.name):=λ{C z} h=>by
  unfold ce at h
  split at h
  .rename_i f
   rcases Ld.mp h with w|w
   .exact .inl w
   .exact .inr ⟨by simp at f;exact f.1,by simpa using w⟩
  .exact .inl h
 rcases a d with w|⟨w,c⟩
 .rcases a w with w|⟨k,c⟩
  .cases w
  .rw [c];exact i k
 .rw [c];exact j w
def Ks{d:List (List D)}(h:∀a∈d,lA a)(g:b∈aW [] d):D.str b∈cJ/\aB (.str b)=true:=by
 rcases Bh g with z|⟨a,i,x,f,c,rfl⟩
 .cases z
 .have A:=h a i
  have e:=gT c
  cases a with
  |nil=>cases f
  |cons y r=>
   rcases KY.mp f with z|z
   .subst z
    have:=A.hd
    rw [show aB x=false from this] at c;cases c
   .have:=A.bl x z
    rw [c] at this
    rw [<-e]
    exact ⟨Le this.symm,c⟩
end FL
namespace FL
open PySem L2
def wz:∀{l:List D},(∀x∈l,x.fB=true)->D.jr l=true
 |[],_=>by simp [D.jr]
 |x::r,h=>by
  rw [D.jr,h x KN,wz λy a=>h y (KG _ a)]
  rfl
def kR {d:D}(h:d.sc=true):d.fB=true:=by
 cases d<;>first|rfl|(simp [D.sc] at h)
def qG {l:List D}(h:∀x∈l,x.fB=true):(D.tup l).fB=true:=by rw [D.fB];exact wz h
def gN {l:List D}(h:∀x∈l,x.sc=true):(D.tup l).fB=true:=qG λx a=>kR (h x a)
def m6:HO->Bool
 |.lst _=>true|.dK _=>true|.dT _=>true|_=>false
mutual
theorem al.narrow {H:Hp}{M own:List Addr}(hk:∀a∈own,∃o,H a=some o/\m6 o=true):∀{v:V} {d:D},d.fB=true->al (but H M) v d->al (but H (own++M)) v d
 |_,_,_,.av=>.av
 |_,_,_,.bl b=>.bl b
 |_,_,_,.int b=>.int b
 |_,_,_,.str b=>.str b
 |_,_,hd,.tup (a:=c) h r=>by
  refine .tup ?_ (aD.narrow hk (by rw [D.fB] at hd;exact hd) r)
  obtain ⟨h1,h2⟩:=ax h
  rw [bh]
  ·exact h2
  ·intro z
   rcases mem_append.mp z with z|z
   ·obtain ⟨o,e,ko⟩:=hk c z
    rw [e] at h2;cases h2;cases ko
   ·exact h1 z
 |_,_,hd,.lst _ _=>by cases hd
theorem aD.narrow {H:Hp}{M own:List Addr}(hk:∀a∈own,∃o,H a=some o/\m6 o=true):∀{vs:List V} {ds:List D},D.jr ds=true->aD (but H M) vs ds->aD (but H (own++M)) vs ds
 |_,_,_,.nil=>.nil
 |_,_,hd,.cons h r=>by
  rw [D.jr,Bool.and_eq_true] at hd
  exact .cons (al.narrow hk hd.1 h) (aD.narrow hk hd.2 r)
end
inductive dQ (G:Hp):List (List aG×V)->List (List D×D)->Prop
 |nil:dQ G [] []
 |cons {v:V} {ks:List (List aG×V)} {ps:List (List D×D)} {key:List D} {d:D}:bM key->al G v d->dQ G ks ps->dQ G ((bW key,v)::ks) ((key,d)::ps)
def dQ.mono(e:ab G a):∀{b:List (List aG×V)} {c:List (List D×D)},dQ G b c->dQ a b c
 |_,_,.nil=>.nil
 |_,_,.cons h r t=>.cons h (r.mono e) (t.mono e)
def dQ.length:∀{a:List (List aG×V)} {b:List (List D×D)},dQ G a b->a.length=b.length
 |_,_,.nil=>rfl
 |_,_,.cons _ _ t=>LL (· +1) t.length
def cX (ps:List (List D×D))(key:List D):Option D:=(ps.find? λp=>decide (p.1=key)).map (·.2)
def ma (ps:List (List D×D))(key:List D)(d:D):List (List D×D):=
 if (ps.any λp=>decide (p.1=key))=true then ps.map (λp=>if p.1=key then (p.1,d) else p) else ps++[(key,d)]
def dQ.val(f:bM a):∀{c:List (List aG×V)} {b:List (List D×D)},dQ G c b->(bn c (bW a)=none/\cX b a=none)\/∃v d,bn c (bW a)=some v/\cX b a=some d/\al G v d
 |_,_,.nil=>.inl ⟨rfl,rfl⟩
 |_,_,.cons (v:=v) (ks:=c) (ps:=b) (key:=k) (d:=d) h r t=>by
  by_cases e:k=a
  .subst e
   exact .inr ⟨v,d,f9 rfl,by simp [cX],r⟩
  .have g:¬bW k=bW a:=λz=>e (pq h f z)
   have i:cX ((k,d)::b) a=cX b a:=by simp [cX,LY,e]
   rw [fV (p:=(bW k,v)) g,i]
   exact t.val f
def dQ.app:∀{a b:List (List aG×V)} {c d:List (List D×D)},dQ G a c->dQ G b d->dQ G (a++b) (c++d)
 |_,_,_,_,.nil,s=>s
 |_,_,_,_,.cons h r t,s=>.cons h r (t.app s)
def dQ.mv(b:bM a)(r:al G v d):∀{f:List (List aG×V)} {g:List (List D×D)},dQ G f g->dQ G (f.map λc=>if c.1=bW a then (c.1,v) else c) (g.map λp=>if p.1=a then (p.1,d) else p)
 |_,_,.nil=>.nil
 |_,_,.cons (v:=j) (key:=k) (d:=l) h i t=>by
  rw [LB,LB]
  by_cases e:k=a
  .rw [K4 (by rw [e]),K4 e];exact .cons h r (t.mv b r)
  .rw [KS (λz=>e (pq h b z)),KS e];exact .cons h i (t.mv b r)
def vq (a:List D):∀b:List (List D×D),(b.any λp=>decide (p.1=a))=(cX b a).isSome
 |[]=>rfl
 |p::r=>by
  rw [OO,vq a r]
  by_cases e:p.1=a
  .simp [cX,LY,e]
  .simp [cX,LY,e]
def dQ.put(b:bM a)(r:al G v d)(t:dQ G c f):dQ G (bX c (bW a) v) (ma f a d):=by
 unfold bX ma
 have e:(c.any λi=>decide (i.1=bW a))=(f.any λp=>decide (p.1=a)):=by
  rw [jC,vq]
  rcases t.val b with ⟨g,h⟩|⟨v,d,g,h,_⟩<;>rw [g,h]<;>rfl
 rw [e]
 split
 .exact t.mv b r
 .exact t.app (.cons b r .nil)
def yc(h:cX b a=none):ma b a d=b++[(a,d)]:=by
 unfold ma
 rw [vq,h]
 rfl
def ml (a:List D):∀b:List (List D×D),(cX b a).isSome=decide (a∈b.map (·.1))
 |[]=>rfl
 |p::r=>by
  by_cases e:p.1=a
  .simp [cX,LY,e]
  .have c:cX (p::r) a=cX r a:=by simp [cX,LY,e]
   have d:¬a=p.1:=λz=>e z.symm
   rw [c,ml a r]
   simp [d]
inductive Sl where
 |no
 |d (x:D)
 |l (xs:List D)
 |k (S:aP)
 |t (ps:List (List D×D))
 |kd (S:aP)
 |td (ps:List (List D×D))
def Sl.own:Sl->Bool
 |.l _=>true|.k _=>true|.t _=>true|_=>false
def Sl.jb:Sl->Option D
 |.d x=>some x|.l xs=>some (.lst xs)|_=>none
def Sl.dat:Sl->Option D
 |.d x=>some x|_=>none
def mq (G H:Hp)(own:List Addr)(o:Option (Option V)):Sl->Prop
 |.no=>True
 |.d x=>∃v,o=some (some v)/\al G v x
 |.l xs=>∃a us,o=some (some (.ref a))/\a∈own/\H a=some (.lst us)/\aD G us xs
 |.k S=>∃a,o=some (some (.ref a))/\a∈own/\H a=some (.dK (bT [] (bA S)))/\∀p∈S,p.2.sc=true
 |.t ps=>∃a kvs,o=some (some (.ref a))/\a∈own/\H a=some (.dT kvs)/\dQ G kvs ps
 |.kd S=>∃a,o=some (some (.ref a))/\G a=some (.dK (bT [] (bA S)))/\∀p∈S,p.2.sc=true
 |.td ps=>∃a kvs,o=some (some (.ref a))/\G a=some (.dT kvs)/\dQ G kvs ps
def io (G:Hp)(o:Option (Option V)):Sl->Prop
 |.no=>True
 |.d x=>∃v,o=some (some v)/\al G v x
 |.l xs=>∃v,o=some (some v)/\al G v (.lst xs)
 |.k S=>∃a,o=some (some (.ref a))/\G a=some (.dK (bT [] (bA S)))/\∀p∈S,p.2.sc=true
 |.t ps=>∃a kvs,o=some (some (.ref a))/\G a=some (.dT kvs)/\dQ G kvs ps
 |.kd S=>∃a,o=some (some (.ref a))/\G a=some (.dK (bT [] (bA S)))/\∀p∈S,p.2.sc=true
 |.td ps=>∃a kvs,o=some (some (.ref a))/\G a=some (.dT kvs)/\dQ G kvs ps
def io.mono(e:ab G c):∀{s:Sl},io G o s->io c o s
 |.no,_=>trivial
 |.d _,⟨v,h,r⟩=>⟨v,h,r.mono e⟩
 |.l _,⟨v,h,r⟩=>⟨v,h,r.mono e⟩
 |.k _,⟨a,h,r,z⟩=>⟨a,h,e _ _ r,z⟩
 |.t _,⟨a,b,h,r,z⟩=>⟨a,b,h,e _ _ r,z.mono e⟩
 |.kd _,⟨a,h,r,z⟩=>⟨a,h,e _ _ r,z⟩
 |.td _,⟨a,b,h,r,z⟩=>⟨a,b,h,e _ _ r,z.mono e⟩
structure bE (G:Hp)(σ:St)(δ:List Sl):Prop where
 len:σ.length=δ.length
 get:∀(i:Nat) (s:Sl),δ[i]?=some s->io G σ[i]? s
def bE.mono(h:bE G b c)(e:ab G a):bE a b c:=⟨h.len,λi s q=>(h.get i s q).mono e⟩
def bE.env(h:bE G b a):aA G b (a.map Sl.jb):=by
 refine ⟨by rw [KP];exact h.len,λi d q=>?_⟩
 rw [KZ] at q
 cases e:a[i]? with
 |none=>rw [e] at q;cases q
 |some s=>
  rw [e] at q
  have q:s.jb=some d:=K8 q
  have w:=h.get i s e
  cases s with
  |no=>cases q
  |d x=>cases q;exact w
  |l x=>cases q;exact w
  |k x=>cases q
  |t x=>cases q
  |kd x=>cases q
  |td x=>cases q
def bE.v{i:Nat}(h:bE G b a)(e:(a[i]?).bind Sl.jb=some d):ae (aR i) G b d:=by
 refine aI h.env (d:=d) ?_
 rw [KZ]
 cases q:a[i]? with
 |none=>rw [q] at e;cases e
 |some s=>rw [q] at e;exact LL some e
def aA.vd{a:List Sl}{i:Nat}(h:aA G b (a.map Sl.dat))(e:(a[i]?).bind Sl.dat=some d):ae (aR i) G b d:=by
 refine aI h (d:=d) ?_
 rw [KZ]
 cases q:a[i]? with
 |none=>rw [q] at e;cases e
 |some s=>rw [q] at e;exact LL some e
structure Bx (B:Hp)(M0 own:List Addr)(σ:St)(H:Hp)(δ:List Sl):Prop where
 len:σ.length=δ.length
 same:ab B H
 gr:au M0 B
 kind:∀a∈own,B a=none/\∃o,H a=some o/\m6 o=true
 slot:∀(i:Nat) (s:Sl),δ[i]?=some s->mq (but H (own++M0)) H own σ[i]? s
 apart:∀(i j:Nat) (s t:Sl) (a:Addr),i≠j->δ[i]?=some s->δ[j]?=some t->s.own=true->t.own=true->σ[i]?=some (some (.ref a))->σ[j]?=some (some (.ref a))->False
section
variable {B:Hp}{M0 own:List Addr}{σ:St}{H H':Hp}{δ:List Sl}
def mq.mono(e:ab G c)(k:∀a∈own,∀u,H a=some u->H' a=some u):∀{s:Sl},mq G H own o s->mq c H' own o s
 |.no,_=>trivial
 |.d _,⟨v,h,r⟩=>⟨v,h,r.mono e⟩
 |.l _,⟨a,f,h,m,q,r⟩=>⟨a,f,h,m,k a m _ q,r.mono e⟩
 |.k _,⟨a,h,m,q,z⟩=>⟨a,h,m,k a m _ q,z⟩
 |.t _,⟨a,b,h,m,q,z⟩=>⟨a,b,h,m,k a m _ q,z.mono e⟩
 |.kd _,⟨a,h,r,z⟩=>⟨a,h,e _ _ r,z⟩
 |.td _,⟨a,b,h,r,z⟩=>⟨a,b,h,e _ _ r,z.mono e⟩
def Bx.live (b:Bx B M0 own σ H δ):au M0 H:=b.gr.same b.same
def Bx.out(b:Bx B M0 own σ H δ)(h:a∈own):a∉M0:=λz=>b.gr a z (b.kind a h).1
def Bx.kd (b:Bx B M0 own σ H δ):∀a∈own,∃o,H a=some o/\m6 o=true:=λa h=>(b.kind a h).2
def Bx.iN (b:Bx B M0 own σ H δ):au (own++M0) H:=λa c=>by
 rcases Ld.mp c with z|z
 .obtain ⟨o,e,_⟩:=b.kd a z
  rw [e];exact λz=>nomatch z
 .exact b.live a z
def Bx.seen (b:Bx B M0 own σ H δ):ab (but H (own++M0)) (but H M0):=d6 λa h=>KW _ h
def Bx.wide (b:Bx B M0 own σ H δ):bE (but H M0) σ δ:=⟨b.len,λi s q=>by
 have w:=b.slot i s q
 cases s with
 |no=>trivial
 |d x=>obtain ⟨v,h,r⟩:=w;exact ⟨v,h,r.mono b.seen⟩
 |l x=>obtain ⟨a,f,h,m,e,r⟩:=w;exact ⟨.ref a,h,.lst (by rw [bh (b.out m)];exact e) (r.mono b.seen)⟩
 |k x=>obtain ⟨a,h,m,e,r⟩:=w;exact ⟨a,h,by rw [bh (b.out m)];exact e,r⟩
 |t x=>obtain ⟨a,c,h,m,e,r⟩:=w;exact ⟨a,c,h,by rw [bh (b.out m)];exact e,r.mono b.seen⟩
 |kd x=>exact io.mono (s:=.kd x) b.seen w
 |td x=>exact io.mono (s:=.td x) b.seen w⟩
def Bx.ki (b:Bx B M0 own σ H δ):aA (but H (own++M0)) σ (δ.map Sl.dat):=by
 refine ⟨by rw [KP];exact b.len,λi d q=>?_⟩
 rw [KZ] at q
 cases e:δ[i]? with
 |none=>rw [e] at q;cases q
 |some s=>
  rw [e] at q
  have q:s.dat=some d:=K8 q
  have w:=b.slot i s e
  cases s with
  |no=>cases q
  |d x=>cases q;exact w
  |l x=>cases q
  |k x=>cases q
  |t x=>cases q
  |kd x=>cases q
  |td x=>cases q
def Bx.grow (b:Bx B M0 own σ H δ)(s:ab H H'):Bx B M0 own σ H' δ:=
 ⟨b.len,b.same.trans s,b.gr,λa h=>⟨(b.kind a h).1,let ⟨o,e,k⟩:=b.kd a h;⟨o,s _ _ e,k⟩⟩,λi t q=>(b.slot i t q).mono (s.but _) λa _ u e=>s _ _ e,b.apart⟩
def Ms{l:List b}{j:Nat}(h:(l.set i x)[j]?=some s):(i=j/\s=x/\i<l.length)\/(i≠j/\l[j]?=some s):=by
 by_cases e:i=j
 .subst e
  by_cases a:i<l.length
  .rw [K6 a] at h
   exact .inl ⟨rfl,(K8 h).symm,a⟩
  .rw [LI (by simpa using LC a)] at h;cases h
 .rw [KQ e] at h
  exact .inr ⟨e,h⟩
def Bx.set(b:Bx B M0 own σ H δ)(i:Nat)(r:al (but H (own++M0)) v x):Bx B M0 own (σ.set i (some v)) H (δ.set i (.d x)):=by
 refine ⟨by simp [b.len],b.same,b.gr,b.kind,λj s q=>?_,λj k s t a m c e f g h l=>?_⟩
 .rcases Ms q with ⟨rfl,rfl,n⟩|⟨o,q⟩
  .exact ⟨v,K6 (by rw [b.len];exact n),r⟩
  .rw [KQ o];exact b.slot j s q
 .rcases Ms c with ⟨rfl,rfl,_⟩|⟨p,c⟩
  .cases f
  .rcases Ms e with ⟨rfl,rfl,_⟩|⟨u,e⟩
   .cases g
   .rw [KQ p] at h
    rw [KQ u] at l
    exact b.apart j k s t a m c e f g h l
def JY {H:Hp}{M:List Addr}{p:Addr}{o:HO}(h:H p=none):but (upd H p o) (p::M)=but H M:=by
 funext c
 unfold FL.but
 by_cases e:c=p
 .subst e
  rw [K4 KN]
  split
  .rfl
  .exact h.symm
 .by_cases z:c∈M
  .rw [K4 (KG _ z),K4 z]
  .rw [KS (λw=>by rcases KY.mp w with w|w;exact e w;exact z w),KS z,aC e]
def Bx.new(b:Bx B M0 own σ H δ)(i:Nat)(n:H p=none)(ho:m6 o=true)(hs:mq (but H (own++M0)) (upd H p o) (p::own) (some (some (.ref p))) s):Bx B M0 (p::own) (σ.set i (some (.ref p))) (upd H p o) (δ.set i s):=by
 have eb:but (upd H p o) (p::own++M0)=but H (own++M0):=JY n
 have c:∀{a:Addr},a∈own->a≠p:=λ{a} G=>by
  obtain ⟨u,e,_⟩:=b.kd a G
  exact de e n
 have hB:B p=none:=by
  cases q:B p with
  |none=>rfl
  |some u=>rw [b.same _ _ q] at n;cases n
 refine ⟨by simp [b.len],b.same.trans (cG n o),b.gr,λa G=>?_,λj t q=>?_,λj k s' t' a M h1 N O Q v g=>?_⟩
 .rcases KY.mp G with z|z
  .exact ⟨by rw [z];exact hB,o,by rw [z];exact aK,ho⟩
  .obtain ⟨u,e,ku⟩:=b.kd a z
   exact ⟨(b.kind a z).1,u,by rw [aC (c z)];exact e,ku⟩
 .rw [eb]
  rcases Ms q with ⟨rfl,rfl,y⟩|⟨ne,q⟩
  .rw [K6 (by rw [b.len];exact y)];exact hs
  .rw [KQ ne]
   have w:=b.slot j t q
   have keep:∀{a:Addr} {u:HO},a∈own->H a=some u->upd H p o a=some u:=λ{a u} m e=>by rw [aC (c m)];exact e
   cases t with
   |no=>trivial
   |d x=>exact w
   |l x=>obtain ⟨a,T,h,m,e,r⟩:=w;exact ⟨a,T,h,KG _ m,keep m e,r⟩
   |k x=>obtain ⟨a,h,m,e,r⟩:=w;exact ⟨a,h,KG _ m,keep m e,r⟩
   |t x=>obtain ⟨a,A,h,m,e,r⟩:=w;exact ⟨a,A,h,KG _ m,keep m e,r⟩
   |kd x=>exact w
   |td x=>exact w
 .have f:∀{m:Nat} {s:Sl},δ[m]?=some s->s.own=true->∀{a:Addr},σ[m]?=some (some (.ref a))->a∈own:=λ{m s} h E {a} I=>by
   have w:=b.slot m s h
   cases s with
   |no=>cases E
   |d x=>cases E
   |l x=>obtain ⟨U,T,h,C,_⟩:=w;rw [I] at h;cases h;exact C
   |k x=>obtain ⟨U,h,C,_⟩:=w;rw [I] at h;cases h;exact C
   |t x=>obtain ⟨U,A,h,C,_⟩:=w;rw [I] at h;cases h;exact C
   |kd x=>cases E
   |td x=>cases E
  rcases Ms h1 with ⟨rfl,_,y⟩|⟨n1,Y⟩
  .rw [K6 (by rw [b.len];exact y)] at v
   cases v
   rcases Ms N with ⟨rfl,_,_⟩|⟨J,L⟩
   .exact M rfl
   .rw [KQ J] at g
    exact c (f L Q g) rfl
  .rw [KQ n1] at v
   rcases Ms N with ⟨rfl,_,y⟩|⟨J,L⟩
   .rw [K6 (by rw [b.len];exact y)] at g
    cases g
    exact c (f Y O v) rfl
   .rw [KQ J] at g
    exact b.apart j k s' t' a M Y L O Q v g
def Bx.put(b:Bx B M0 own σ H δ){i:Nat}(p:δ[i]?=some s)(v:s.own=true)(y:a∈own)(e:σ[i]?=some (some (.ref a)))(E:m6 o=true)(h:mq (but H (own++M0)) (upd H a o) own (some (some (.ref a))) s')(G:s'.own=true):Bx B M0 own σ (upd H a o) (δ.set i s'):=by
 have I:but (upd H a o) (own++M0)=but H (own++M0):=dH (K9 _ y)
 refine ⟨by simp [b.len],λc u q=>?_,b.gr,λc A=>?_,λj t q=>?_,λj k s1 t1 c J L M N O Q T=>?_⟩
 .rw [aC (λz:c=a=>by rw [z,(b.kind a y).1] at q;cases q)];exact b.same _ _ q
 .refine ⟨(b.kind c A).1,?_⟩
  by_cases z:c=a
  .exact ⟨o,by rw [z];exact aK,E⟩
  .rw [aC z];exact b.kd c A
 .rw [I]
  rcases Ms q with ⟨rfl,rfl,_⟩|⟨U,q⟩
  .rw [e];exact h
  .have w:=b.slot j t q
   have keep:∀{c:Addr} {u:HO},t.own=true->σ[j]?=some (some (.ref c))->H c=some u->upd H a o c=some u:=λ{c u} Y ec hu=>by
    rw [aC (λz:c=a=>by subst z;exact b.apart i j s t c U p q v Y e ec)];exact hu
   cases t with
   |no=>trivial
   |d x=>exact w
   |l x=>obtain ⟨c,us,h,m,e,r⟩:=w;exact ⟨c,us,h,m,keep rfl h e,r⟩
   |k x=>obtain ⟨c,h,m,e,r⟩:=w;exact ⟨c,h,m,keep rfl h e,r⟩
   |t x=>obtain ⟨c,g,h,m,e,r⟩:=w;exact ⟨c,g,h,m,keep rfl h e,r⟩
   |kd x=>exact w
   |td x=>exact w
 .have f:∀{m:Nat} {u:Sl},(δ.set i s')[m]?=some u->u.own=true->∃C,δ[m]?=some C/\C.own=true:=λ{m u} n ku=>by
   rcases Ms n with ⟨rfl,rfl,_⟩|⟨_,n⟩
   .exact ⟨s,p,v⟩
   .exact ⟨u,n,ku⟩
  obtain ⟨u1,g1,m1⟩:=f L N
  obtain ⟨u2,g2,m2⟩:=f M O
  exact b.apart j k u1 u2 c J g1 g2 m1 m2 Q T
def Bx.show(b:Bx B M0 own σ H δ){i:Nat}(y:δ[i]?=some (.l u)):∃f,Bx B M0 f σ H (δ.set i (.d (.lst u))):=by
 obtain ⟨a,A,e,m,G,r⟩:=b.slot i _ y
 refine ⟨own.filter λc=>decide (c≠a),by simp [b.len],b.same,b.gr,λc g=>b.kind c (La.mp g).1,λj t q=>?_,λj k I J c L n o C E M N=>?_⟩
 .have S:ab (but H (own++M0)) (but H (own.filter (λc=>decide (c≠a))++M0)):=d6 λc g=>by
   rcases Ld.mp g with z|z
   .exact K9 _ (La.mp z).1
   .exact KW _ z
  rcases Ms q with ⟨rfl,rfl,_⟩|⟨O,q⟩
  .refine ⟨.ref a,e,.lst ?_ (r.mono S)⟩
   rw [bh]
   .exact G
   .intro z
    rcases Ld.mp z with z|z
    .exact absurd rfl (Le (La.mp z).2)
    .exact b.out m z
  .have w:=b.slot j t q
   have keep:∀{c:Addr},t.own=true->σ[j]?=some (some (.ref c))->c∈own->c∈own.filter (λc=>decide (c≠a)):=λ{c} Q T U=>
    La.mpr ⟨U,Ln λz=>by subst z;exact b.apart i j _ t c O y q rfl Q e T⟩
   cases t with
   |no=>trivial
   |d x=>obtain ⟨v,h,r⟩:=w;exact ⟨v,h,r.mono S⟩
   |l x=>obtain ⟨c,A,h,m,e,r⟩:=w;exact ⟨c,A,h,keep rfl h m,e,r.mono S⟩
   |k x=>obtain ⟨c,h,m,e,r⟩:=w;exact ⟨c,h,keep rfl h m,e,r⟩
   |t x=>obtain ⟨c,p,h,m,e,r⟩:=w;exact ⟨c,p,h,keep rfl h m,e,r.mono S⟩
   |kd x=>exact io.mono (s:=.kd x) S w
   |td x=>exact io.mono (s:=.td x) S w
 .rcases Ms n with ⟨rfl,rfl,_⟩|⟨Y,n⟩
  .cases C
  .rcases Ms o with ⟨rfl,rfl,_⟩|⟨n2,o⟩
   .cases E
   .exact b.apart j k I J c L n o C E M N
def Bx.base (b:Bx B M0 own σ H δ):Bx (but H own) M0 own σ H δ:=by
 refine ⟨b.len,rO H own,λa ha=>?_,λa ha=>⟨by unfold FL.but;rw [K4 ha],b.kd a ha⟩,b.slot,b.apart⟩
 rw [bh (λz=>b.out z ha)]
 exact b.live a ha
def Bx.back(b:Bx c M0 own σ H δ)(s:ab B c)(l:au M0 B):Bx B M0 own σ H δ:=
 ⟨b.len,s.trans b.same,l,λa d=>⟨(by
  cases q:B a with
  |none=>rfl
  |some u=>exact absurd (b.kind a d).1 (by rw [s _ _ q];exact λz=>nomatch z)),b.kd a d⟩,b.slot,b.apart⟩
def Bx.sub (b:Bx B M0 own σ H δ):ab B (but H own):=λc u q=>by
 rw [bh (λz=>by rw [(b.kind c z).1] at q;cases q)]
 exact b.same _ _ q
end
def aU (B:Hp)(M0:List Addr)(δ:List Sl)(P:St->Hp->Prop):Prop:=∀own σ H,Bx B M0 own σ H δ->P σ H
def aU.run(b:Bx B d a c H e)(h:aU B d e P):P c H:=h a c H b
def aU.back(h:aU B a e P)(s:ab B d)(l:au a B):aU d a e P:=λc f H b=>h c f H (b.back s l)
def js {M:List Addr}{H:Hp}{vs:List V}{ds:List D}(l:au M H)(r:aD (but H M) vs ds)(N:List Str):Bx H M [] (L2.start N vs) H (ds.map Sl.d++List.replicate (N.length-ds.length) .no):=by
 have E:=gZ r N
 refine ⟨?_,ab.refl _,l,(λa ha=>nomatch ha),λi s q=>?_,λi j s t a _ hs _ ks _ _ _=>?_⟩
 .rw [E.len];simp
 .by_cases hi:i<ds.length
  .rw [Lm (by simpa using hi),KZ,KL hi] at q
   have q:=K8 q
   subst q
   refine E.get i ds[i] ?_
   rw [Lm (by simpa using hi),KZ,KL hi]
   rfl
  .rw [Lo (by simpa using LC hi)] at q
   obtain ⟨h1,h2⟩:=KJ.mp q
   simp at h2
   subst h2
   trivial
 .by_cases hi:i<ds.length
  .rw [Lm (by simpa using hi),KZ,KL hi] at hs
   have q:=K8 hs
   subst q
   cases ks
  .rw [Lo (by simpa using LC hi)] at hs
   obtain ⟨h1,h2⟩:=KJ.mp hs
   simp at h2
   subst h2
   cases ks
section
variable {B:Hp}{M0:List Addr}{δ:List Sl}{E:Ends}{te ty tv:TE}{t:TA}{tt:TT}{d:D}{ds xs:List D}{K:PySem.W.Frag}
def ei(h:∀G a,bE G a δ->ae te G a d)(e:d.fB=true)(k:aU B M0 (δ.set i (.d d)) E.nx):aU B M0 δ (dW te (ci i) E):=λc a H b=>
 (h _ a b.wide).at b.live λv f s r=>k c _ f ((b.grow s).set i (al.narrow (b.grow s).kd e r))
def ff(h:∀G a,aA G a (δ.map Sl.dat)->ae te G a d)(k:aU B M0 (δ.set i (.d d)) E.nx):aU B M0 δ (dW te (ci i) E):=λc a H b=>
 (h _ a b.ki).at b.iN λv e s r=>k c _ e ((b.grow s).set i r)
def fj (h:∀G c,bE G c δ->ae te G c d)(k:∀v a,ab B a->al (but a M0) v d->E.rt v a):aU B M0 δ (pS te E):=λe c H b=>
 (h _ c b.wide).at b.live λv a s r=>k v a (b.same.trans s) r
def dg{i j:TS}(h:∀G a,bE G a δ->aY tt G a b)(k:b=true->aU B M0 δ (i E))(l:b=false->aU B M0 δ (j E)):aU B M0 δ (mM tt i j E):=λc a H f=>
 x9 f.live (h _ a f.wide) (λe g s=>k e c a g (f.grow s)) (λe g s=>l e c a g (f.grow s))
def Go{c e:TS}(P:List Sl->Prop)(h:∀G f,bE G f δ->aY tt G f b)(i:(∀a,P a->aU B M0 a E.nx)->b=true->aU B M0 δ (c E))(j:(∀a,P a->aU B M0 a E.nx)->b=false->aU B M0 δ (e E))(g:∀a,P a->aU B M0 a E.nx):aU B M0 δ (mM tt c e E):=
 dg h (i g) (j g)
def eQ (h:aU B M0 δ E.nx):aU B M0 δ (qE E):=h
def u9(h:∀G a,aA G a (δ.map Sl.dat)->dI t G a ds)(f:ds.length<=sizeLine)(k:aU B M0 (δ.set i (.l ds)) E.nx):aU B M0 δ (dW (jt t) (ci i) E):=λc a H b=>
 h _ a b.ki _ H (ab.refl _) b.iN _ λg n j e=>⟨by rw [e.length];exact f,λp m=>k (p::c) _ _ ((b.grow j).new i m rfl ⟨p,g,rfl,KN,aK,e⟩)⟩
def ud(k:aU B M0 (δ.set i (.l [])) E.nx):aU B M0 δ (dW (jt bv) (ci i) E):=u9 (λ_ _ _=>ag) (Ll _) k
def tY {j:Nat}(g:δ[j]?=some (.l xs))(h:∀G c,bE G c δ->ae te G c d)(p:d.fB=true)(q:xs.length<sizeLine)(k:aU B M0 (δ.set j (.l (xs++[d]))) E.nx):aU B M0 δ (lw (lJ K "list" nK (aR j) (bb te bv)) E):=λf c H b=>by
 obtain ⟨a,i,e,m,n,r⟩:=b.slot j _ g
 refine ⟨.ref a,e,(show gj K "list" (.ref a) H from .inl ⟨rfl,i,aO.of n⟩),(h _ c b.wide).at b.live λv w s u=>?_⟩
 have o:=b.grow s
 refine ⟨a,i,v,rfl,rfl,s _ _ n,by rw [r.length];exact q,k f c _ (o.put g rfl m e rfl ⟨a,_,rfl,m,aK,?_⟩ rfl)⟩
 exact (r.mono (s.but _)).snoc (al.narrow o.kd p u)
def rn{j:Nat}(i:δ[j]?=some (.l xs))(h:∀G f,aA G f (δ.map Sl.dat)->ae te G f (.lst ys))(q:xs.length+ys.length<=sizeLine)(k:aU B M0 (δ.set j (.l (xs++ys))) E.nx):aU B M0 δ (lw (lJ K "list" Bg (aR j) (bb te bv)) E):=λg f H b=>by
 obtain ⟨a,n,e,m,o,r⟩:=b.slot j _ i
 refine ⟨.ref a,e,(show gj K "list" (.ref a) H from .inl ⟨rfl,n,aO.of o⟩),(h _ f b.ki).at b.iN λv z s u=>?_⟩
 have w:=b.grow s
 obtain ⟨c,x,rfl,y,p⟩:=u.eA
 refine ⟨a,c,n,x,rfl,rfl,s _ _ o,(ax y).2,by rw [r.length,p.length];exact q,k g f _ (w.put i rfl m e rfl ⟨a,_,rfl,m,aK,?_⟩ rfl)⟩
 exact (r.mono (s.but _)).append p
def Ch{j:Nat}(h:δ[j]?=some (.l (xs++[d])))(k:aU B M0 ((δ.set j (.l xs)).set i (.d d)) E.nx):aU B M0 δ (dW (ri K "list" Bp (aR j)) (ci i) E):=λc x H b=>by
 obtain ⟨a,f,e,m,n,r⟩:=b.slot j _ h
 have g:=r.length
 rw [Lh,Mi] at g
 obtain ⟨u,q,s⟩:=r.get (i:=f.length-1) (d:=d) (by rw [g,MG,Lo (KR _),PF];rfl)
 refine ⟨.ref a,e,(show gj K "list" (.ref a) H from .inl ⟨rfl,f,aO.of n⟩),a,f,u,rfl,rfl,n,q,?_⟩
 have v:aD (but H (c++M0)) f.dropLast xs:=by
  have p:=r.take xs.length
  rw [N8 (KR _),Lz (KR _)] at p
  rw [Pj,g,MG]
  exact p
 have w:=b.put (o:=.lst f.dropLast) h rfl m e rfl (s':=.l xs) ⟨a,_,rfl,m,aK,v⟩ rfl
 refine k c _ _ (w.set i ?_)
 rw [dH (K9 _ m)]
 exact s
def Ho(k:aU B M0 (δ.set i (.k [])) E.nx):aU B M0 δ (dW vH (ci i) E):=λa e H b=>λp c=>
 k (p::a) _ _ (b.new i c rfl ⟨p,rfl,KN,aK,λ_ h=>nomatch h⟩)
def yj(k:aU B M0 (δ.set i (.t [])) E.nx):aU B M0 δ (dW wx (ci i) E):=λa e H b=>λp c=>
 k (p::a) _ _ (b.new i c rfl ⟨p,[],rfl,KN,aK,.nil⟩)
def Bd:∀(b a:List (aG×V)),(bT a b).length<=a.length+b.length
 |[],a=>KR _
 |p::r,a=>by
  have c:=Bd r (bX a p.1 p.2)
  have e:=mx a p.1 p.2
  show (bT (bX a p.1 p.2) r).length<=_
  rw [Lr]
  omega
def C1 (S:aP)(n:Str)(x:D):bT [] (bA (S++[(n,x)]))=bX (bT [] (bA S)) (Sum.inr n) x.toV:=by
 unfold bT bA
 rw [Lq,Mq]
 rfl
def Gg{j:Nat}(g:δ[j]?=some (.k S))(l:∀G c,bE G c δ->ae tv G c d)(o:∀G c,bE G c δ->ae ty G c (.str n))(h:d.sc=true)(J:S.length<1000)(k:aU B M0 (δ.set j (.k (S++[(n,d)]))) E.nx):aU B M0 δ (pz (aR j) ty tv E):=λf c H b=>by
 refine (l _ c b.wide).at b.live λv L q r=>?_
 have b1:=b.grow q
 obtain ⟨a,e,m,s,u⟩:=b1.slot j _ g
 refine ⟨.ref a,e,(o _ c b1.wide).at b1.live λy M i w=>?_⟩
 have b2:=b1.grow i
 have x:=w.ro
 subst x
 have A:=Bd (bA S) []
 have C:(bA S).length=S.length:=by unfold bA;rw [KP]
 refine ⟨a,_,rfl,f6.k (k:=Sum.inr n) (i _ _ s) (cr (by rw [MR] at A;omega)),k f c _ (b2.put g rfl m e rfl ⟨a,rfl,m,?_,λp I=>?_⟩ rfl)⟩
 .rw [C1,(fQ h r).1];exact aK
 .rcases Ld.mp I with z|z
  .exact u p z
  .rw [Li.mp z];exact h
def AG{j:Nat}(n:δ[j]?=some (.t i))(o:bM key)(q:∀G f,aA G f (δ.map Sl.dat)->ae tv G f d)(r:∀G f,bE G f δ->ae ty G f (.tup key))(s:i.length<1000)(k:aU B M0 (δ.set j (.t (ma i key d))) E.nx):aU B M0 δ (pz (aR j) ty tv E):=λl f H b=>by
 refine (q _ f b.ki).at b.iN λv J u w=>?_
 have b1:=b.grow u
 obtain ⟨a,x,e,m,z,p⟩:=b1.slot j _ n
 refine ⟨.ref a,e,(r _ f b1.wide).at b1.live λy L h A=>?_⟩
 have b2:=b1.grow h
 obtain ⟨c,M,rfl,C,I⟩:=A.e9
 have g:=(ax C).2
 rw [mL o I] at g
 refine ⟨a,_,rfl,f6.t (k:=bW key) (h _ _ z) g (cr (by rw [p.length];exact My s)),k l f _ (b2.put n rfl m e rfl ⟨a,_,rfl,m,aK,(p.mono (h.but _)).put o (w.mono (h.but _))⟩ rfl)⟩
end
section
variable {G:Hp}{σ:St}{δ:List Sl}{ty:TE}{d:D}{j:Nat}
def cN.wu{H:Hp}{ps:List (List D×D)}(g:H a=some (.dT e))(h:bM b)(r:al (but H M) v (.tup b)):cN H a v (bn e (bW b)):=by
 obtain ⟨c,l,rfl,i,k⟩:=r.e9
 have f:=(ax i).2
 rw [mL h k] at f
 exact cN.t g f
def bE.vI(e:bE G σ δ)(o:δ[j]?=some (.t c))(g:bM b)(h:ae ty G σ (.tup b)):ae (oO ty (aR j)) G σ (.bl (decide (b∈c.map (·.1)))):=λM H s l Q k=>h M H s l _ λv p i q=>by
 obtain ⟨a,f,r,u,w⟩:=(e.mono s).get j _ o
 have x:=i _ _ (ax u).2
 refine ⟨.ref a,r,a,_,rfl,cN.wu (ps:=c) x g q,?_⟩
 have y:(bn f (bW b)).isSome=decide (b∈c.map (·.1)):=by
  rw [<-ml]
  rcases w.val g with ⟨m,n⟩|⟨v,d,m,n,_⟩<;>rw [m,n]<;>rfl
 rw [y]
 exact k _ p i (.bl _)
def bE.Jk(e:bE G σ δ)(o:δ[j]?=some (.t c))(g:bM b)(h:ae ty G σ (.tup b)):ae (pH ty (aR j)) G σ (.bl (!decide (b∈c.map (·.1)))):=λM H s l Q k=>h M H s l _ λv p i q=>by
 obtain ⟨a,f,r,u,w⟩:=(e.mono s).get j _ o
 have x:=i _ _ (ax u).2
 refine ⟨.ref a,r,a,_,rfl,cN.wu (ps:=c) x g q,?_⟩
 have y:(bn f (bW b)).isSome=decide (b∈c.map (·.1)):=by
  rw [<-ml]
  rcases w.val g with ⟨m,n⟩|⟨v,d,m,n,_⟩<;>rw [m,n]<;>rfl
 rw [y]
 exact k _ p i (.bl _)
def bE.atT(e:bE G σ δ)(o:δ[j]?=some (.t f))(i:bM b)(m:cX f b=some d)(h:ae ty G σ (.tup b)):ae (sX (aR j) ty) G σ d:=λM H s l Q k=>by
 obtain ⟨a,p,q,r,w⟩:=(e.mono s).get j _ o
 refine ⟨.ref a,q,h M H s l _ λv x g y=>?_⟩
 have z:=g _ _ (ax r).2
 rcases w.val i with ⟨n,c⟩|⟨u,B,n,c,A⟩
 .rw [m] at c;cases c
 .rw [m] at c
  cases c
  exact ⟨a,u,rfl,by rw [<-n];exact cN.wu (ps:=f) z i y,k u x g (A.mono (g.but M))⟩
end
def dm (B:Hp)(M0:List Addr)(δ:List Sl)(wi:TI)(ds:List D):Prop:=∀own σ H,Bx B M0 own σ H δ->∀R:It->Hp->Prop,
 (∀J H1,ab H H1->(∀(j:Nat) d M' H',ds[j]?=some d->ab (but H1 (own++M0)) (but H' M')->au M' H'->J.go j H'/\∀x H'',J.nk j H' x H''->ab H' H''/\al (but H'' M') x d)->(∀M' H',ab (but H1 (own++M0)) (but H' M')->J.stop ds.length H')->R J H1)->wi σ H R
section
variable {B:Hp}{M0:List Addr}{δ:List Sl}{E:Ends}{wi:TI}{g:TG}{tb:TS}{t:TA}{ds:List D}
def dm.of (h:∀G a,aA G a (δ.map Sl.dat)->Walk wi G a ds):dm B M0 δ wi ds:=λc a H b R k=>h _ a b.ki _ H (ab.refl _) b.iN R k
def dm.kb {n:Nat}(v:n<2^62)(h:∀G a,bE G a δ->dI t G a [.int n]):dm B M0 δ (wT t) ((List.range n).map λ(k:Nat)=>D.int (0+k)):=λc a H b R k=>h _ a b.wide _ H (ab.refl _) b.live _ λw f i l=>by
 obtain ⟨x,rfl,m⟩:=jw l
 refine ⟨(n:Int),by rw [m.dP],by omega,by omega,?_⟩
 refine k _ f i (λj d o p q r y=>?_) (λo p r=>?_)
 .obtain ⟨z,rfl⟩:=hX 0 n j d q
  refine ⟨by show j<((n:Int)).toNat;omega,λx s ⟨e,u⟩=>?_⟩
  subst e;subst u
  exact ⟨ab.refl _,.int _⟩
 .show ((n:Int)).toNat<=_
  simp
def dm.Gy(f:-(2^62)<=a/\a<2^62)(i:-(2^62)<=b/\b<2^62)(h:∀G c,bE G c δ->dI t G c [.int a,.int b]):dm B M0 δ (uQ t) ((List.range (b-a).toNat).map λ(k:Nat)=>D.int (a+k)):=λm c H l R k=>h _ c l.wide _ H (ab.refl _) l.live _ λI n o p=>by
 obtain ⟨x,y,rfl,q,r⟩:=lI p
 refine ⟨a,b,by rw [q.dP,r.dP],⟨f.1,f.2,i.1,i.2⟩,?_⟩
 refine k _ n o (λj d s u v w J=>?_) (λs u w=>?_)
 .obtain ⟨z,rfl⟩:=hX a _ j d v
  refine ⟨z,λx A ⟨e,C⟩=>?_⟩
  subst e;subst C
  exact ⟨ab.refl _,.int _⟩
 .show (b-a).toNat<=_
  simp
abbrev pR (E:Ends)(B:Hp)(M0:List Addr)(P:List Sl->Prop):Ends:={E with nx:=λσ H=>∃own δ,Bx B M0 own σ H δ/\P δ,ct:=λσ H=>∃own δ,Bx B M0 own σ H δ/\P δ,bk:=E.nx}
def dB {P:List Sl->Prop}(h:P δ):aU B M0 δ (pR E B M0 P).nx:=λa c H b=>⟨a,δ,b,h⟩
def EF (Q:dm B M0 δ wi ds)(Pv:Nat->List Sl->Prop)(T:Pv 0 δ)
  (k:∀A,ab B A->(∀a,aU B M0 a E.nx->aU A M0 a E.nx)->∀(j:Nat) x a,ds[j]?=some x->Pv j a->∀f C H v,Bx A M0 f C H a->al (but H (f++M0)) v x->g v C H (tb (pR E A M0 (Pv (j+1)))))
  (o:∀a,Pv ds.length a->aU B M0 a E.nx):aU B M0 δ (na wi g tb E):=λf C H b=>Q f C H b _ λJ r U G l=>by
 have b1:=b.grow U
 have I:ab B (but r f):=b1.sub
 refine ⟨λj m i n=>m=ds.length-j/\j<=ds.length/\∃d a,Bx (but r f) M0 d i n a/\Pv j a,⟨ds.length,by simp,Ll _,f,δ,b1.base,T⟩,?_⟩
 rintro j m i n ⟨rfl,hj,d,a,s,p⟩
 have M:ab (but r (f++M0)) (but n (d++M0)):=λc u q=>by
  obtain ⟨N,Y⟩:=ax q
  have L:but r f c=some u:=by rw [bh (λz=>N (K9 _ z))];exact Y
  rw [bh]
  .exact s.same _ _ L
  .intro z
   rcases Ld.mp z with z|z
   .rw [(s.kind c z).1] at L;cases L
   .exact N (KW _ z)
 by_cases w:j<ds.length
 .have O:ds[j]?=some ds[j]:=KL w
  obtain ⟨go,gy⟩:=G j _ (d++M0) n O M s.iN
  refine .inr ⟨go,_,λac H2 p2=>⟨ds.length-(j+1),by omega,rfl,w,p2⟩,λx y hy=>?_⟩
  obtain ⟨s3,rx⟩:=gy x y hy
  exact k (but r f) I (λa h=>h.back I b.gr) j _ a O p d i y x (s.grow s3) rx
 .have e:j=ds.length:=by omega
  subst e
  exact .inl ⟨l (d++M0) n M,o a p d i n (s.back I b.gr)⟩
def fK(l:dm B M0 δ wi ds)(Pv:Nat->List Sl->Prop)(m:Pv 0 δ)
  (c:∀e,ab B e->(∀a,aU B M0 a E.nx->aU e M0 a E.nx)->∀(j:Nat) x a,ds[j]?=some x->Pv j a->aU e M0 (a.set i (.d x)) (tb (pR E e M0 (Pv (j+1)))))
  (f:∀a,Pv ds.length a->aU B M0 a E.nx):aU B M0 δ (na wi (ci i) tb E):=
 EF l Pv m (λe s k j x a n p h o H v b r=>c e s k j x a n p h _ H (b.set i r)) f
def Df(Pv:Nat->List Sl->Prop)(v:Nat)(z:Pv v δ)
  (i:∀j,ab B j->(∀a,aU B M0 a E.nx->aU j M0 a E.nx)->∀m a,Pv m a->∃c:Bool,(∀G q,bE G q a->aY u G q c)/\(c=true->aU j M0 a (tb (pR E j M0 λk=>∃n,n<m/\Pv n k)))/\(c=false->aU j M0 a E.nx)):
  aU B M0 δ (y8 u tb E):=λf q H b=>by
 have w:ab B (but H f):=b.sub
 refine ⟨λm e r=>∃d a,Bx (but H f) M0 d e r a/\Pv m a,⟨v,f,δ,b.base,z⟩,?_⟩
 rintro m e r ⟨d,a,o,p⟩
 obtain ⟨c,A,C,I⟩:=i (but H f) w (λa h=>h.back w b.gr) m a p
 refine A _ e o.wide _ r (ab.refl _) o.live _ λx y=>?_
 cases c with
 |true=>
  rw [K4 rfl]
  refine ⟨_,λJ O L=>?_,C rfl d e x (o.grow y)⟩
  obtain ⟨l,s,b2,n,M,N⟩:=L
  exact ⟨n,M,l,s,b2,N⟩
 |false=>
  rw [KS K0]
  exact I rfl d e x (o.grow y)
def JG{i:Nat}(c:δ[i]?=some (.l xs))(k:aU B M0 (δ.set i (.d (.lst xs))) P):aU B M0 δ P:=λe f H b=>by
 obtain ⟨a,h⟩:=b.show c
 exact k a f H h
end
def bE.caps {G n:Hp}{f:St}{g:List Sl}(e:bE G f g)(s:ab G n)(b:List Nat)(k i:Nat){v:V}{x:D}(r:al n v x):bE n ((aX b k f).set i (some v)) ((b.map (λj=>g.getD j Sl.no)++List.replicate k Sl.no).set i (.d x)):=by
 have y:=e.mono s
 have o:(aX b k f).length=(b.map (λj=>g.getD j Sl.no)++List.replicate k Sl.no).length:=by simp [aX]
 refine ⟨by rw [Mw,Mw];exact o,λq t h=>?_⟩
 rcases Ms h with ⟨rfl,rfl,A⟩|⟨B,h⟩
 .exact ⟨v,K6 (by rw [o];exact A),r⟩
 .rw [KQ B]
  by_cases m:q<b.length
  .rw [Lm (by simpa using m),KZ,KL m] at h
   have h:g.getD b[q] Sl.no=t:=K8 h
   have C:(aX b k f)[q]?=some ((f[b[q]]?).join):=by
    unfold aX
    rw [Lm (by simpa using m),KZ,KL m]
    rfl
   rw [C]
   cases z:g[b[q]]? with
   |none=>
    have:t=.no:=by rw [<-h];simp [List.getD,z]
    rw [this];trivial
   |some u=>
    have:t=u:=by rw [<-h];simp [List.getD,z]
    subst this
    have w:=y.get _ _ z
    cases t with
    |no=>trivial
    |d x=>obtain ⟨v,h,r⟩:=w;exact ⟨v,by rw [h];rfl,r⟩
    |l x=>obtain ⟨v,h,r⟩:=w;exact ⟨v,by rw [h];rfl,r⟩
    |k x=>obtain ⟨a,h,r⟩:=w;exact ⟨a,by rw [h];rfl,r⟩
    |t x=>obtain ⟨a,c,h,r⟩:=w;exact ⟨a,c,by rw [h];rfl,r⟩
    |kd x=>obtain ⟨a,h,r⟩:=w;exact ⟨a,by rw [h];rfl,r⟩
    |td x=>obtain ⟨a,c,h,r⟩:=w;exact ⟨a,c,by rw [h];rfl,r⟩
  .rw [Lo (by simpa using LC m)] at h
   obtain ⟨E,p⟩:=KJ.mp h
   simp at p
   subst p
   trivial
def bE.comp{idx:List Nat}(e:bE G g h)(p:D->Bool)(f:D->D)(q:Walk m G g c)
  (t:∀b a d,d∈c->bE b a ((idx.map (λj=>h.getD j Sl.no)++List.replicate k Sl.no).set i (.d d))->aY n b a (p d))
  (u:∀b a d,d∈c->p d=true->bE b a ((idx.map (λj=>h.getD j Sl.no)++List.replicate k Sl.no).set i (.d d))->ae o b a (f d)) (w:c.length<sizeLine):
  ae (ij m (aX idx k) (ci i) n o) G g (.lst ((c.filter p).map f)):=
 gf q (λb v d s l r=>t b _ d l (e.caps s idx k i r)) (λb v d s l x r=>u b _ d l x (e.caps s idx k i r)) w
def aA.uO{a:List Sl}(h:aA G c (a.map Sl.dat)):bE G c (a.map λs=>match s.dat with|some x=>.d x|none=>.no):=by
 refine ⟨by rw [h.len];simp,λi s q=>?_⟩
 rw [KZ] at q
 cases e:a[i]? with
 |none=>rw [e] at q;cases q
 |some t=>
  rw [e] at q
  have q:(match t.dat with|some x=>Sl.d x|none=>Sl.no)=s:=K8 q
  cases b:t.dat with
  |none=>rw [b] at q;subst q;trivial
  |some x=>
   rw [b] at q
   subst q
   refine h.get i x ?_
   rw [KZ,e]
   exact LL some b
end FL
namespace FL
open PySem L2
def oP{V:Str->D}(c:cp B)(b:a≠[])(d:aB (a.headD .av)=false)(h:∀x∈a,aB x=true->x.name∈B):cw (aq V B) a=a.map (a6 V):=by
 cases a with
 |nil=>exact absurd rfl b
 |cons x r=>
  have e:aB x=false:=d
  show x::r.map (bY (aq V B))=a6 V x::r.map (a6 V)
  have f:a6 V x=x:=by unfold a6;rw [KS (by rw [e];exact K0)]
  rw [f]
  congr 1
  exact Ly λy g=>jK c (h y (KG _ g))
def IJ(V:Str->D)(c:a≠[])(f:aB (a.headD .av)=false)(b:aN a=false):eW d (a.map (a6 V))=decide (a.map (a6 V)∈d):=by
 have e:=xK (V:=V) c f
 unfold aN at b
 rw [Nl] at b
 unfold eW
 rw [<-e,KS (LQ b.2),KS (LQ b.1)]
def yX(d:aN [.str r,x,y]=true)(h:aB (.str r)=false)(V:Str->D):eW c ([.str r,x,y].map (a6 V))=holdsA ([.str r,x,y].map (a6 V)):=by
 have e:a6 V (.str r)=.str r:=by unfold a6;rw [KS (by rw [h];exact K0)]
 show eW c [a6 V (.str r),a6 V x,a6 V y]=holdsA [a6 V (.str r),a6 V x,a6 V y]
 rw [e]
 generalize a6 V x=a
 generalize a6 V y=b
 show eW c [.str r,a,b]=holdsD r a b
 have f:r="less"\/r="unlike":=by
  unfold aN at d
  rw [Bool.or_eq_true] at d
  rcases d with z|z
  .have:D.str r=D.str "less":=Le z
   injection this with q
   exact .inl q
  .have:D.str r=D.str "unlike":=Le z
   injection this with q
   exact .inr q
 rcases f with rfl|rfl
 .unfold eW holdsD
  have i:¬(([D.str "less",a,b]:List D).headD .av=.str "unlike"):=λz=>by
   have z:D.str "less"=D.str "unlike":=z
   injection z with z
   exact absurd z Z5
  have g:(([D.str "less",a,b]:List D).headD .av=.str "less"):=rfl
  rw [KS i,K4 g,KS Z5]
  cases a<;>cases b<;>rfl
 .unfold eW holdsD
  have g:(([D.str "unlike",a,b]:List D).headD .av=.str "unlike"):=rfl
  rw [K4 g,K4 rfl]
def n0 (fs body:List (List D))(S:aP):Bool:=body.all λa=>eW fs (cw S a)
def JF {base body fs:List (List D)}(h:BI base body){V:Str->D}{B:List Str}(hB:cp B)(hc:∀a∈body,∀x∈a,aB x=true->x.name∈B):n0 fs body (aq V B)=true↔(∀a∈base,a.map (a6 V)∈fs)/\O5.gq (body.filter aN) (aq V (aW [] base))=true:=by
 have hBb:cp (aW [] base):=iV eZ
 have key:∀a∈body,eW fs (cw (aq V B) a)=if aN a=true then holdsA (a.map (bY (aq V (aW [] base)))) else decide (a.map (a6 V)∈fs):=λa ha=>by
  have A:=h.at_ a ha
  rw [oP hB A.ne A.hd (hc a ha)]
  by_cases g:aN a=true
  .rw [K4 g]
   obtain ⟨⟨r,x,y,rfl⟩,hb⟩:=h.gd a ha g
   rw [yX g A.hd V,O5.tX hBb hb]
  .rw [KS g]
   exact IJ V A.ne A.hd (by simpa using g)
 have hbase:∀a,a∈base↔a∈body/\aN a=false:=λa=>by
  rw [<-h.ask,La]
  simp
 unfold n0 O5.gq
 rw [Nk,Nk]
 constructor
 .intro z
  refine ⟨λa ha=>?_,λg hg=>?_⟩
  .obtain ⟨h1,h2⟩:=(hbase a).mp ha
   have:=z a h1
   rw [key a h1,KS (by rw [h2];exact K0)] at this
   exact Le this
  .obtain ⟨h1,h2⟩:=La.mp hg
   have:=z g h1
   rw [key g h1,K4 h2] at this
   exact this
 .rintro ⟨z1,z2⟩ a ha
  rw [key a ha]
  by_cases g:aN a=true
  .rw [K4 g];exact z2 a (La.mpr ⟨ha,g⟩)
  .rw [KS g];exact Ln (z1 a ((hbase a).mpr ⟨ha,by simpa using g⟩))
def BI.good{base:List (List D)}(h:BI base b):∀a∈base,iR a:=λa c=>by
 rw [<-h.ask] at c
 have A:=h.at_ a (La.mp c).1
 exact ⟨A.ne,A.hd⟩
def BI.ow {base body:List (List D)}(h:BI base body)(facts:List (List D)):iU body facts=(fw facts base [([],[])]).filter λw=>O5.gq (body.filter aN) w.1:=by
 have:=O5.Ib (facts:=facts) (as:=body) (λa ha _=>⟨(h.at_ a ha).ne,(h.at_ a ha).hd⟩) (λg hg e=>by rw [h.ask];exact (h.gd g hg e).2)
 rw [Io,this,h.ask]
def tK{V:Str->D}(h:fx a V b c):c.length=b.length:=by
 have:=LL List.length h
 simpa using this
def AC{V:Str->D}(h:fx b V d c){k:Nat}(f:d[k]?=some a):∃i,c[k]?=some i/\b[i]?=some (a.map (a6 V)):=by
 have e:=LL (λl=>l[k]?) h
 simp only [KZ,f] at e
 cases q:c[k]? with
 |none=>rw [q] at e;cases e
 |some i=>rw [q] at e;exact ⟨i,rfl,K8 e⟩
def CJ{V:Str->D}(h:fx a V c d):∀i∈d,i<a.length:=λi g=>by
 obtain ⟨k,e⟩:=LM.mp g
 have b:k<c.length:=by rw [<-tK h];exact (KJ.mp e).1
 obtain ⟨l,f,j⟩:=AC h (KL b)
 rw [e] at f
 cases f
 exact (KJ.mp j).1
def bE.wanted{K:PySem.W.Frag}{body:List (List D)}(e:bE G f n)(o:∀a∈body,a≠[]/\∀x∈a,x.sc=true)(p:body.length<=1000)(q:Walk i G f (body.map D.tup)):
  ae (ij i (aX [] 1) (ci 0) (ql (m4 (bz (λx y H Q=>kh x y H Q\/kf x y H Q) (bz (eF K) (aR 0) (tC (.int 0))) (tC (.str "less")))) (m4 (bz (λx y H Q=>kh x y H Q\/kf x y H Q) (bz (eF K) (aR 0) (tC (.int 0))) (tC (.str "unlike"))))) (aR 0)) G f (cv (body.filter λa=> !aN a)):=by
 refine (e.comp (λd=>match d with|.tup a=> !aN a|_=>false) (λd=>d) q (λs g d j c=>?_) (λs g d j _ c=>c.v rfl) (by rw [KP];exact cr p)).eq ?_
 .obtain ⟨a,t,rfl⟩:=Lg.mp j
  obtain ⟨h,cq⟩:=o a t
  cases a with
  |nil=>exact absurd rfl h
  |cons x r=>
   have k:=cq x KN
   have l:=eT (b:=.str "less") k rfl
   have m:=eT (b:=.str "unlike") k rfl
   refine aY.eq (jY (bN (jP l.1 l.2 (bV (ds:=x::r) (d:=x) ge (c.v rfl) ar) aF)) λ_=>bN (jP m.1 m.2 (bV (ds:=x::r) (d:=x) ge (c.v rfl) ar) aF)) ?_
   show _= !aN (x::r)
   unfold aN
   rw [Bool.not_or]
   rfl
 .unfold cv
  rw [NS,Mv]
  rfl
def bE.DA{j:Nat}(e:bE G c b)(d:b[j]?=some (.k S)\/b[j]?=some (.kd S)):∃a,c[j]?=some (some (.ref a))/\G a=some (.dK (bT [] (bA S)))/\∀p∈S,p.2.sc=true:=by
 rcases d with h|h
 .exact e.get j _ h
 .exact e.get j _ h
def bE.oy{j:Nat}(e:bE G b c)(f:c[j]?=some (.k S)\/c[j]?=some (.kd S))(g:a≠[])(i:∀x∈a,x.sc=true)(l:a.length<=10)(h:ae d G b (.tup a)):ae (iH (iO rQ) [] E (bb d (bb (aR j) bv))) G b (.tup (cw S a)):=by
 obtain ⟨p,m,n,o⟩:=e.DA f
 exact p9 ⟨a,S,rfl,g,i,o,l,rfl⟩ (oZ h (oJ m n pQ))
def sT{S:aP}(b:a≠[])(c:∀x∈a,x.sc=true)(d:∀p∈S,p.2.sc=true):∀x∈cw S a,x.sc=true:=λx e=>by
 cases a with
 |nil=>exact absurd rfl b
 |cons y r=>
  rcases KY.mp e with z|z
  .rw [z];exact c y KN
  .obtain ⟨u,f,rfl⟩:=Lg.mp z
   exact (kg (c u (KG _ f)) d).2
def zu(h:a≠[]):aN (cw S a)=aN a:=by
 cases a with
 |nil=>exact absurd rfl h
 |cons x r=>rfl
def xT{S:aP}(b:a≠[])(c:∀x∈a,x.sc=true)(d:∀p∈S,p.2.sc=true)(e:aN a=true->∃r x y,a=[.str r,x,y]):AF (cw S a):=by
 refine ⟨(λz=>by cases z),sT b c d,λg=>?_⟩
 rw [zu b] at g
 obtain ⟨r,x,y,rfl⟩:=e g
 exact ⟨r,_,_,rfl⟩
section
variable {B:Hp}{M0 own:List Addr}{σ:St}{H:Hp}{δ:List Sl}{E:Ends}{t:TA}{ds:List D}
def Bx.DT(b:Bx B M0 own σ H δ)(i:Nat){s:Sl}(g:s.own=false)(r:mq (but H (own++M0)) H own (some (some v)) s):Bx B M0 own (σ.set i (some v)) H (δ.set i s):=by
 refine ⟨by simp [b.len],b.same,b.gr,b.kind,λj t q=>?_,λj k m t a n c d e f h l=>?_⟩
 .rcases Ms q with ⟨rfl,rfl,o⟩|⟨p,q⟩
  .rw [K6 (by rw [b.len];exact o)];exact r
  .rw [KQ p];exact b.slot j t q
 .rcases Ms c with ⟨rfl,rfl,_⟩|⟨u,c⟩
  .rw [g] at e;cases e
  .rcases Ms d with ⟨rfl,rfl,_⟩|⟨w,d⟩
   .rw [g] at f;cases f
   .rw [KQ u] at h
    rw [KQ w] at l
    exact b.apart j k m t a n c d e f h l
def Bx.DB{δ:List Sl}(l:au M H)(c:∀s∈δ,s=.no\/∃x,s=.d x)(e:aA (but H M) σ (δ.map Sl.dat)):Bx H M [] σ H δ:=by
 have b:∀{j:Nat} {s:Sl},δ[j]?=some s->s.own=true->False:=λ{j s} h k=>by
  rcases c s (KU h) with rfl|⟨x,rfl⟩<;>cases k
 refine ⟨by rw [e.len,KP],ab.refl _,l,(λa f=>nomatch f),λi s q=>?_,λi j s t a _ g _ m _ _ _=>b g m⟩
 rcases c s (KU q) with rfl|⟨x,rfl⟩
 .trivial
 .exact e.get i x (by rw [KZ,q];rfl)
def aU.Kn(b:Bx B M0 own (σ.set i (some v)) H δ)(h:aU B M0 δ P):ci i v σ H P:=h own _ H b
def ba{b:TS}(h:aU B M0 δ (a {E with nx:=b E})):aU B M0 δ (pP a b E):=h
def fN{ca:TS}(h:∀G σ,bE G σ δ->aY a G σ false)(k:aU B M0 δ (ca E)):aU B M0 δ (pP (mM a c qE) ca E):=ba (dg (b:=false) h (λz=>nomatch z) (λ_=>eQ k))
def BQ{c:List D->Prop}{a:List D->D->Prop}(h:∀G σ,aA G σ (δ.map Sl.dat)->dI t G σ ds)(g:c ds)(k:∀d,a ds d->aU B M0 (δ.set i (.d d)) E.nx):aU B M0 δ (dW (iH (nz c a) [] f t) (ci i) E):=λown σ H b=>
 h _ σ b.ki _ H (ab.refl _) b.iN _ λp q e j=>⟨own++M0,ds,b.iN.same e,by rw [LA];exact j,g,λd v l m n o=>k d m own _ l ((b.grow (e.trans n)).set i o)⟩
def Di{K:PySem.W.Frag}{T:TS}(h:∀G σ,aA G σ (δ.map Sl.dat)->dI t G σ [fU Bs,.lst pool])(n:∀x∈pool,x.sc=true)(hz:Bs.length<=3)(A:pool.length<=10)(Pv:Nat->List Sl->Prop)(h0:Pv 0 δ)
  (g:∀w,ab B w->(∀d,aU B M0 d E.nx->aU w M0 d E.nx)->∀(j:Nat) c d,(dE pool Bs [[]])[j]?=some c->Pv j d->aU w M0 (d.set i (.kd c)) (T (pR E w M0 (Pv (j+1)))))
  (o:∀d,Pv (dE pool Bs [[]]).length d->aU B M0 d E.nx):aU B M0 δ (na (λσ H R=>lF K (iH tO [] Q t) σ H R\/mO K (iH tO [] Q t) σ H R) (ci i) T E):=λown σ H b=>
 .inl (h _ σ b.ki _ H (ab.refl _) b.iN _ λvs H1 U rs=>by
  obtain ⟨v0,v1,rfl,r0,r1⟩:=lI rs
  refine ⟨own++M0,Bs,pool,v0,v1,rfl,b.iN.same U,r0,r1,n,hz,A,λp q r s2 s Y=>⟨p,rfl,⟨q,aO.of (ax s).2⟩,?_⟩⟩
  have b1:=b.grow (U.trans s2)
  have C:ab B (but r own):=b1.sub
  have I:but r own p=some (.lst q):=by
   obtain ⟨y,J⟩:=ax s
   rw [bh (λz=>y (K9 _ z))];exact J
  have hn:=Y.len
  refine ⟨λj m k L=>m=(dE pool Bs [[]]).length-j/\j<=(dE pool Bs [[]]).length/\∃f d,Bx (but r own) M0 f k L d/\Pv j d,⟨_,rfl,Ll _,own,δ,b1.base,h0⟩,?_⟩
  rintro j m k L ⟨rfl,hj,f,d,u,pj⟩
  have M:=u.same _ _ I
  by_cases v:j<(dE pool Bs [[]]).length
  .have N:=KL v
   obtain ⟨a,hu,O⟩:=Y.get j _ N
   refine .inr ⟨⟨q,.ref a,aO.of M,hu⟩,_,λac H3 p2=>⟨(dE pool Bs [[]]).length-(j+1),by omega,rfl,v,p2⟩,λx af ⟨e,hy⟩=>?_⟩
   subst e
   have hx:=hy q (aO.of M)
   rw [hu] at hx
   cases hx
   refine g (but r own) C (λd h=>h.back C b.gr) j _ d N pj f _ _ (u.DT i rfl ⟨a,rfl,?_,sq pool Bs [[]] _ n (λm hm p n=>by rw [Li.mp hm] at n;cases n) (KU N)⟩)
   obtain ⟨y,J⟩:=ax O
   have l:but r own a=some (.dK (bT [] (bA (dE pool Bs [[]])[j]))):=by rw [bh (λz=>y (K9 _ z))];exact J
   rw [bh]
   .exact u.same _ _ l
   .intro z
    rcases Ld.mp z with z|z
    .rw [(u.kind a z).1] at l;cases l
    .exact y (KW _ z)
  .have e:j=(dE pool Bs [[]]).length:=by omega
   subst e
   exact .inl ⟨⟨q,aO.of M,by rw [hn];exact KR _⟩,o d pj f k L (u.back C b.gr)⟩)
end
def Co {as:List (List D)}:∀{B:List Str},(∀a∈as,a.length<=10)->(aW B as).length<=B.length+10*as.length:=by
 induction as with
 |nil=>intro B _;exact LS _ _
 |cons a r b=>
  intro B h
  have e:=b (B:=ak B a) λc d=>h c (KG _ d)
  have f:=kW a B
  have g:=h a KN
  show (aW (ak B a) r).length<=_
  rw [Lr]
  omega
def jF{k:Nat}(h:l[k]?=some d):c7 l ((k:Nat):Int)=some d:=su h
def ig{k:Nat}(h:l[k]?=some d):c7 l (0+((k:Nat):Int))=some d:=by rw [Pc];exact su h
end FL
namespace FL
open PySem L2
def nv (seed:Int):List D:=[.lst [.str "ashenashenashen",.int 0,.str "ashenashxnashen"],.lst [.str "ashenashenashen",.int 2,.int (-1)],.lst [.int (10^(30:Int).toNat),.int 0,.int (-1)],.lst [.str "qu",.int (seed+4),.int (-4-seed)]]
def Cg:GP (.str "ashenashenashen")/\aB (.str "ashenashenashen")=false:=⟨⟨rfl,⟨by decide,_,_,rfl⟩,Z9⟩,Z9⟩
def C8:GP (.str "ashenashxnashen")/\aB (.str "ashenashxnashen")=false:=⟨⟨rfl,⟨by decide,_,_,rfl⟩,Z9⟩,Z9⟩
def Ip:GP (.str "qu")/\aB (.str "qu")=false:=⟨⟨rfl,⟨by decide,_,_,rfl⟩,Z9⟩,Z9⟩
def ln (i:Int):GP (.int i)/\aB (.int i)=false:=⟨sW i,rfl⟩
def rN(b:GP x/\aB x=false)(c:GP y/\aB y=false)(d:GP z/\aB z=false)(e:[x,y,z].Nodup):sC [x,y,z]:=by
 have h:∀u∈[x,y,z],GP u/\aB u=false:=λu a=>by
  simp only [KY,Lu,LO] at a
  rcases a with rfl|rfl|rfl
  .exact b
  .exact c
  .exact d
 exact ⟨rfl,e,λu a=>(h u a).1,λu a=>(h u a).2⟩
def yN {seed:Int}(h:0<=seed):∀d∈nv seed,∃pool,d=.lst pool/\sC pool:=λd hd=>by
 simp only [nv,KY,Lu,LO] at hd
 rcases hd with rfl|rfl|rfl|rfl
 .exact ⟨_,rfl,rN Cg (ln _) C8 Z9⟩
 .exact ⟨_,rfl,rN Cg (ln _) (ln _) Z9⟩
 .exact ⟨_,rfl,rN (ln _) (ln _) (ln _) Z9⟩
 .refine ⟨_,rfl,rN Ip (ln _) (ln _) ?_⟩
  simp only [MP,KY,Lu,LO,PH,D.int.injEq,reduceCtorEq,not_false_eq_true,and_true,true_and,NI,and_self]
  omega
def Jn (facts bs body:List (List D))(w:aJ):Prop:=∃V,w.1=aq V (aW [] bs)/\fx facts V bs w.2/\O5.gq (body.filter aN) w.1=true
def BI.mem(h:BI c a)(d:w∈iU a b):Jn b c a w:=by
 rw [h.ow] at d
 obtain ⟨f,g⟩:=La.mp d
 obtain ⟨S,j⟩:=w
 obtain ⟨V,e,i⟩:=(t8 h.good).mp f
 exact ⟨V,e,i,g⟩
def BI.inc(h:BI c b)(a:List (List D)):(iU b a).Pairwise λx y=>dR x.2 y.2:=by
 rw [h.ow]
 exact Pt _ (zM a c [([],[])] (List.pairwise_singleton _ _))
theorem qt {α:Type}{R:α->α->Prop}:∀{l:List α} {i j:Nat} {x y:α},l.Pairwise R->i<j->l[i]?=some x->l[j]?=some y->R x y
 |[],_,_,_,_,_,_,h,_=>by simp at h
 |a::r,0,j+1,x,y,h,_,hx,hy=>by
  simp at hx
  subst hx
  exact (List.pairwise_cons.mp h).1 y (mem_of_getElem? (by simpa using hy))
 |a::r,i+1,j+1,x,y,h,hij,hx,hy=>qt (i:=i) (j:=j) (List.pairwise_cons.mp h).2 (by omega) (by simpa using hx) (by simpa using hy)
end FL
namespace FL
open PySem L2
section
variable {lm lm0:cc}{n:Nat}
def iY (lm:cc):List aJ:=(fe lm).flatMap λw=>dY lm (bZ lm w) w
end
end FL
namespace FL
open PySem L2
abbrev cz:=List D×List (List D)
abbrev ef:=List D×(Nat×List Nat)
def bm (h:List D)(w:aJ):List D:=h.map (bY w.1)
def cC (h:List D)(n:Nat):List aJ->List (List D)->List ef
 |[],_=>[]
 |w::r,T=>if bm h w∈T then cC h n r T else (bm h w,(n,w.2))::cC h n r (T++[bm h w])
def bj (rs:List ef):List (List D):=rs.map (·.1)
def pT (a b:List ef):bj (a++b)=bj a++bj b:=Lq
section
variable {h:List D}{n:Nat}
def nw{T:List (List D)}(e:bm h w∈T):cC h n (w::r) T=cC h n r T:=by
 show (if bm h w∈T then _ else _)=_
 rw [K4 e]
def og{T:List (List D)}(e:bm h w∉T):cC h n (w::r) T=(bm h w,(n,w.2))::cC h n r (T++[bm h w]):=by
 show (if bm h w∈T then _ else _)=_
 rw [KS e]
def yn:∀(a b:List aJ) (T:List (List D)),(∀w∈a,bm h w∈T)->cC h n (a++b) T=cC h n b T
 |[],b,T,_=>rfl
 |w::r,b,T,c=>by
  rw [N7,nw (c w KN)]
  exact yn r b T λx d=>c x (KG _ d)
def iA:∀(g:List aJ) (T:List (List D)) (x:ef),x∈cC h n g T->x.2.1=n/\x.1∉T/\∃w∈g,x.1=bm h w/\x.2.2=w.2
 |[],T,x,a=>nomatch a
 |w::r,T,x,a=>by
  by_cases z:bm h w∈T
  .rw [nw z] at a
   obtain ⟨b,c,v,d,f⟩:=iA r T x a
   exact ⟨b,c,v,KG _ d,f⟩
  .rw [og z] at a
   rcases KY.mp a with e|e
   .rw [e];exact ⟨rfl,z,w,KN,rfl,rfl⟩
   .obtain ⟨b,c,v,d,f⟩:=iA r _ x e
    exact ⟨b,λq=>c (K9 _ q),v,KG _ d,f⟩
def r9:∀(b:List aJ) (T:List (List D)),∀w∈b,bm h w∈T\/bm h w∈bj (cC h n b T)
 |[],T,w,a=>nomatch a
 |v::r,T,w,a=>by
  by_cases z:bm h v∈T
  .rw [nw z]
   rcases KY.mp a with e|e
   .rw [e];exact .inl z
   .exact r9 r T w e
  .rw [og z]
   rcases KY.mp a with e|e
   .rw [e];exact .inr KN
   .rcases r9 r (T++[bm h v]) w e with q|q
    .rcases Ld.mp q with q|q
     .exact .inl q
     .rw [Li.mp q];exact .inr KN
    .exact .inr (KG _ q)
def wC:∀(a:List aJ) (T:List (List D)),(bj (cC h n a T)).Nodup
 |[],T=>NI
 |v::r,T=>by
  by_cases z:bm h v∈T
  .rw [nw z];exact wC r T
  .rw [og z]
   refine MP.mpr ⟨λq=>?_,wC r _⟩
   obtain ⟨x,b,e⟩:=Lg.mp q
   obtain ⟨_,c,_⟩:=iA r _ x b
   exact c (by rw [e];exact KW _ (Li.mpr rfl))
def vv:∀(a:List aJ) (T:List (List D)),((cC h n a T).map λx=>x.2.2).Sublist (a.map λw=>w.2)
 |[],T=>List.Sublist.slnil
 |v::r,T=>by
  by_cases z:bm h v∈T
  .rw [nw z,LB];exact (vv r T).cons _
  .rw [og z,LB,LB];exact (vv r _).cons₂ _
def A4:∀{p q:List Nat},dR p q->¬dR q p
 |a::r,b::t,h,c=>by
  have h:a<b\/(a=b/\dR r t):=h
  have c:b<a\/(b=a/\dR t r):=c
  rcases h with h|⟨h,k⟩
  .rcases c with c|⟨c,_⟩<;>omega
  .rcases c with c|⟨_,d⟩
   .omega
   .exact A4 k d
 |[],_,h,_=>by cases h
 |_::_,[],h,_=>by cases h
def uv:∀(c:List aJ) (T:List (List D)),c.Pairwise (λx y=>dR x.2 y.2)->∀x∈cC h n c T,∀w∈c,bm h w=x.1->¬dR w.2 x.2.2
 |[],T,_,x,a,_,_,_=>nomatch a
 |v::r,T,g,x,a,w,d,e=>by
  obtain ⟨i,f⟩:=OC.mp g
  by_cases z:bm h v∈T
  .rw [nw z] at a
   rcases KY.mp d with q|q
   .obtain ⟨_,b,_⟩:=iA r T x a
    rw [<-e,q] at b
    exact absurd z b
   .exact uv r T f x a w q e
  .rw [og z] at a
   rcases KY.mp a with y|y
   .rw [y]
    rcases KY.mp d with q|q
    .rw [q];exact xb _
    .exact A4 (i w q)
   .rcases KY.mp d with q|q
    .obtain ⟨_,b,_⟩:=iA r _ x y
     exact absurd (KW _ (by rw [<-e,q];exact Li.mpr rfl)) b
    .exact uv r _ f x y w q e
end
def bH:Nat->List (List D×List aJ)->List (List D)->List ef
 |_,[],_=>[]
 |n,q::r,T=>cC q.1 n q.2 T++bH (n+1) r (T++bj (cC q.1 n q.2 T))
def wn:∀(a b:List (List D×List aJ)) (n:Nat) (T:List (List D)),bH n (a++b) T=bH n a T++bH (n+a.length) b (T++bj (bH n a T))
 |[],b,n,T=>by
  show bH n b T=bH n b (T++[])
  rw [LA]
 |q::r,b,n,T=>by
  have c:bj (bH n (q::r) T)=bj (cC q.1 n q.2 T)++bj (bH (n+1) r (T++bj (cC q.1 n q.2 T))):=pT _ _
  rw [c,<-LK]
  show cC q.1 n q.2 T++bH (n+1) (r++b) _=cC q.1 n q.2 T++bH (n+1) r _++bH _ b _
  rw [wn r b (n+1),LK,Lr,show n+1+r.length=n+(r.length+1) by omega]
  exact (LK _ _ _).symm
def nW:∀(L:List (List D×List aJ)) (n:Nat) (T:List (List D)) (x:ef),x∈bH n L T->x.1∉T/\∃(i:Nat) (q:List D×List aJ),L[i]?=some q/\x.2.1=n+i/\∃w∈q.2,x.1=bm q.1 w/\x.2.2=w.2
 |[],n,T,x,a=>nomatch a
 |q::r,n,T,x,a=>by
  rcases Ld.mp a with z|z
  .obtain ⟨b,f,w,g,c⟩:=iA q.2 T x z
   exact ⟨f,0,q,rfl,b,w,g,c⟩
  .obtain ⟨b,i,h,d,f,c⟩:=nW r _ _ x z
   exact ⟨λe=>b (K9 _ e),i+1,h,d,by omega,c⟩
def Bi:∀(L:List (List D×List aJ)) (n:Nat) (T:List (List D)) (q:List D×List aJ),q∈L->∀w∈q.2,bm q.1 w∈T\/bm q.1 w∈bj (bH n L T)
 |[],n,T,q,b,_,_=>nomatch b
 |a::r,n,T,q,b,w,c=>by
  show _\/_∈bj (cC a.1 n a.2 T++bH (n+1) r _)
  rw [pT]
  rcases KY.mp b with e|e
  .subst e
   rcases r9 (n:=n) q.2 T w c with z|z
   .exact .inl z
   .exact .inr (K9 _ z)
  .rcases Bi r (n+1) (T++bj (cC a.1 n a.2 T)) q e w c with z|z
   .rcases Ld.mp z with z|z
    .exact .inl z
    .exact .inr (K9 _ z)
   .exact .inr (KW _ z)
def wy:∀(L:List (List D×List aJ)) (n:Nat) (T:List (List D)),(bj (bH n L T)).Nodup
 |[],n,T=>NI
 |q::r,n,T=>by
  show (bj (cC q.1 n q.2 T++bH (n+1) r _)).Nodup
  rw [pT,Nr]
  refine ⟨wC _ _,wy r _ _,λa c b d e=>?_⟩
  obtain ⟨x,f,rfl⟩:=Lg.mp d
  obtain ⟨g,_⟩:=nW r _ _ x f
  exact g (KW _ (by rw [<-e];exact c))
def p8 (x y:ef):Prop:=x.2.1<y.2.1\/(x.2.1=y.2.1/\dR x.2.2 y.2.2)
def zP:∀(L:List (List D×List aJ)) (n:Nat) (T:List (List D)),(∀q∈L,q.2.Pairwise λx y=>dR x.2 y.2)->(bH n L T).Pairwise p8
 |[],n,T,_=>List.Pairwise.nil
 |q::r,n,T,f=>by
  refine List.pairwise_append.mpr ⟨?_,zP r _ _ λx c=>f x (KG _ c),λx c y g=>?_⟩
  .have h:((cC q.1 n q.2 T).map λx=>x.2.2).Pairwise dR:=(OL.mpr (f q KN)).sublist (vv q.2 T)
   have j:=OL.mp h
   refine j.imp_of_mem λ{a b} k l d=>.inr ⟨?_,d⟩
   rw [(iA q.2 T a k).1,(iA q.2 T b l).1]
  .left
   rw [(iA q.2 T x c).1]
   obtain ⟨_,i,_,_,e,_⟩:=nW r _ _ y g
   omega
def BL:∀(L:List (List D×List aJ)) (n:Nat) (T:List (List D)),(∀q∈L,q.2.Pairwise λx y=>dR x.2 y.2)->∀x∈bH n L T,∀(i:Nat) (q:List D×List aJ),L[i]?=some q->∀w∈q.2,bm q.1 w=x.1->¬(n+i<x.2.1\/(n+i=x.2.1/\dR w.2 x.2.2))
 |[],n,T,_,x,f,_,_,_,_,_,_=>nomatch f
 |c::r,n,T,k,x,f,i,q,a,w,g,e=>by
  rcases Ld.mp f with z|z
  .have p:=(iA c.2 T x z).1
   intro d
   rcases d with d|⟨h,b⟩
   .omega
   .have m:i=0:=by omega
    subst m
    have a:c=q:=by simpa using a
    subst a
    exact uv c.2 T (k c KN) x z w g e b
  .obtain ⟨l,j,_,_,s,_⟩:=nW r _ _ x z
   cases i with
   |zero=>
    have a:c=q:=by simpa using a
    subst a
    exfalso
    rcases r9 (n:=n) c.2 T w g with y|y
    .exact l (K9 _ (by rw [<-e];exact y))
    .exact l (KW _ (by rw [<-e];exact y))
   |succ i=>
    have:=BL r (n+1) _ (λy o=>k y (KG _ o)) x z i q (by simpa using a) w g e
    intro d
    refine this ?_
    rcases d with d|⟨h,b⟩
    .left;omega
    .right;exact ⟨by omega,b⟩
end FL
namespace FL
open PySem L2
def cB (T:List (List D)):List (List aG×V):=T.map λf=>(bW f,V.bl true)
def vO(a:bM f):∀{T:List (List D)},(∀g∈T,bM g)->(bn (cB T) (bW f)).isSome=decide (f∈T)
 |[],_=>rfl
 |g::r,b=>by
  have c:=vO a (T:=r) λx d=>b x (KG _ d)
  by_cases e:g=f
  .subst e
   rw [show cB (g::r)=(bW g,V.bl true)::cB r from rfl,f9 (p:=(bW g,V.bl true)) rfl]
   simp
  .have h:¬bW g=bW f:=λz=>e (pq (b g KN) a z)
   have i:¬f=g:=λz=>e z.symm
   rw [show cB (g::r)=(bW g,V.bl true)::cB r from rfl,fV (p:=(bW g,V.bl true)) h,c]
   simp [i]
def ya(a:bM f){T:List (List D)}(b:∀g∈T,bM g):bX (cB T) (bW f) (V.bl true)=cB (if f∈T then T else T++[f]):=by
 unfold bX
 rw [jC,vO a b]
 by_cases e:f∈T
 .rw [K4 (Ln e),K4 e]
  unfold cB
  rw [LH]
  refine Ly λg _=>?_
  show (if bW g=bW f then (bW g,V.bl true) else (bW g,V.bl true))=_
  split<;>rfl
 .rw [KS (by rw [Lp e];exact K0),KS e]
  unfold cB
  rw [Lq]
  rfl
def xu (T:List (List D)):(cB T).length=T.length:=by unfold cB;rw [KP]
def f8 (f:List D):Prop:=bM f/\∀x∈f,aB x=false
def dM (x:ef):D:=.tup [.tup x.1,.int ((x.2.1:Nat):Int),.tup (x.2.2.map λn=>D.int (n:Nat))]
def bf (r:cz):D:=.tup [.tup r.1,c8 r.2]
abbrev oH (vr:V)(ll td:Addr):List (Str×V):=[("rules",vr),("looms",.ref ll),("told",.ref td)]
structure oN (K:PySem.W.Frag)(C:Addr):Prop where
 cl:dk K C
 nR:bO K C "rules"
 nL:bO K C "looms"
 nT:bO K C "told"
structure oV (lm:cc)(h:List D)(R:aJ->Prop)(sz:Nat->Nat):Prop where
 run:jN sz lm.steps
 r0:R ([],[])
 rs:∀w,R w->∀x∈db lm w,R x
 cq:∀x∈h,x.sc=true
 hl:h.length<=100
 flat:∀w,R w->w.2.length=lm.steps.length->∀y∈bm h w,aB y=false
 skip:∀w,R w->(∀y∈bm h w,aB y=false)->∀x∈dY lm (bZ lm w) w,bm h x=bm h w
theorem zb {lm:cc}{R:aJ->Prop}{sz:Nat->Nat}(hr:jN sz lm.steps)(hs:∀w,R w->∀x∈db lm w,R x):∀(m:Nat) (w:aJ),w.2.length+m=lm.steps.length->GoodW sz lm.steps w->R w->∀x∈dY lm m w,R x/\GoodW sz lm.steps x/\x.2.length=lm.steps.length
 |0,w,hl,hg,hw,x,hx=>by rw [mem_singleton.mp hx];exact ⟨hw,hg,by omega⟩
 |m+1,w,hl,hg,hw,x,hx=>by
  obtain ⟨y,hy,hxy⟩:=mem_flatMap.mp hx
  rw [mem_reverse] at hy
  have:=mB hy
  exact zb hr hs m y (by omega) (xp hr hg y hy) (hs w hw y hy) x hxy
def zV {h:List D}{w:aJ}(a:∀x∈h,x.sc=true)(b:∀p∈w.1,p.2.sc=true):bM (bm h w):=λx c=>by
 obtain ⟨y,d,rfl⟩:=Lg.mp c
 exact (kg (a y d) b).2
def oV.ow(a:oV e h R g):∀w∈iY e,f8 (bm h w):=λw f=>by
 unfold iY at f
 obtain ⟨b,c,i⟩:=Mb.mp f
 have d:b=([],[]):=by
  unfold fe at c
  split at c
  .cases c
  .split at c
   .exact Li.mp c
   .cases c
 subst d
 obtain ⟨j,k,l⟩:=zb a.run a.rs _ ([],[]) (by unfold bZ;simp) (GoodW.nil a.run) a.r0 w i
 exact ⟨zV a.cq λp m=>(k.ok p m).1,a.flat w j l⟩
def zQ (C CL CW:Addr):Sp:=λvs H Q _=>∃(M:List Addr) (lm:cc) (a dx:Addr) (vr:V) (ll td:Addr) (rules:List cz) (num:Nat) (h:List D) (body T:List (List D)) (R:aJ->Prop) (sz:Nat->Nat) (v2:V),vs=[.ref a,.int ((num:Nat):Int),v2]/\au M H/\but H M a=some (.ins CW dx (oH vr ll td))/\td∈M/\H td=some (.dT (cB T))/\(∀g∈T,f8 g)/\al (but H M) vr (.lst (rules.map bf))/\rules[num]?=some (h,body)/\ik C CL (but H M) v2 lm/\lm.steps.length<=100/\oV lm h R sz/\T.length+dN lm lm.steps.length ([],[])<sizeLine/\
 ∀p us H',(∀b u,b≠td->H b=some u->H' b=some u)->H p=none->H' p=some (.lst us)->aD (but H' (p::M)) us ((cC h num (iY lm) T).map dM)->H' td=some (.dT (cB (T++bj (cC h num (iY lm) T))))->Q (.ref p) H'
end FL
namespace FL
open PySem L2
def xP (facts:List (List D)):∀(asks:List (List D)) (B:List Str) (W:List (List D)) (k:Nat) (a:List D),asks[k]?=some a->∃gs,(O5.cL facts asks B W)[k]?=some ⟨cO a (aW B (asks.take k)),el a facts (aW B (asks.take k)),gs⟩
 |[],_,_,k,a,h=>by simp at h
 |c::r,B,W,0,a,h=>by
  have h:c=a:=by simpa using h
  subst h
  exact ⟨_,rfl⟩
 |c::r,B,W,k+1,a,h=>by
  obtain ⟨gs,e⟩:=xP facts r (ak B c) (W.filter λg=> !ck g (ak B c)) k a (by simpa using h)
  exact ⟨gs,e⟩
def Gw (as facts:List (List D)):((cx (cU as) facts).steps.map dU)=O5.eX facts as:=(qe facts _ [] _).1
theorem Jb {bs body facts:List (List D)}{lm:cc}(hI:BI bs body)(hs:lm.steps=(cx (cU body) facts).steps){w:aJ}{V:Str->D}(hw:w.1=aq V (aW [] (bs.take w.2.length))){x:aJ}(hx:x∈db lm w):
  w.2.length<bs.length/\∃V' g,g∈facts/\(∀b∈aW [] (bs.take w.2.length),V' b=V b)/\x.1=aq V' (aW [] (bs.take x.2.length))/\∀a,bs[w.2.length]?=some a->g=a.map (a6 V'):=by
 have hxl:=mB hx
 unfold db at hx
 split at hx
 ·rename_i st hst
  have hmap:(lm.steps.map dU)[w.2.length]?=some (dU st):=by rw [getElem?_map,hst];rfl
  have e1:lm.steps.map dU=O5.cL facts bs [] ((body.filter aN).filter c9):=by
   rw [hs,Gw]
   unfold O5.eX
   rw [hI.ask]
  rw [e1] at hmap
  have hlt:w.2.length<bs.length:=by
   have:=(List.getElem?_eq_some_iff.mp hmap).1
   rw [O5.mC] at this
   exact this
  have ha:=getElem?_eq_getElem hlt
  refine ⟨hlt,?_⟩
  obtain ⟨gs,e2⟩:=xP facts bs [] ((body.filter aN).filter c9) w.2.length _ ha
  rw [hmap] at e2
  have e2:=Option.some.inj e2
  have hx0:x∈gS st w 0:=by
   unfold gS at hx⊢
   obtain ⟨h1,h2⟩:=mem_filter.mp hx
   refine mem_filter.mpr ⟨?_,h2⟩
   obtain ⟨o,ho,rfl⟩:=mem_map.mp h1
   refine mem_map.mpr ⟨o,?_,rfl⟩
   rw [qk fun o _=>by unfold fresh;exact decide_eq_true (by omega)]
   exact (List.takeWhile_sublist _).subset ho
  rw [AN,mem_reverse,e2] at hx0
  have hB:cp (aW [] (bs.take w.2.length)):=iV eZ
  have hgood:=hI.good _ (getElem_mem hlt)
  unfold O5.g9 at hx0
  have hx1:=(mem_filter.mp hx0).1
  obtain ⟨S,pl⟩:=w
  have hw:S=aq V (aW [] (bs.take pl.length)):=hw
  subst hw
  have hx1:x∈on (el bs[pl.length] facts (aW [] (bs.take pl.length))) (gP (aq V (aW [] (bs.take pl.length))) (cO bs[pl.length] (aW [] (bs.take pl.length)))) (aq V (aW [] (bs.take pl.length)),pl):=hx1
  rw [O5.zw,uj hB hgood] at hx1
  obtain ⟨Sx,plx⟩:=x
  obtain ⟨i,g,hg,hm,e3⟩:=lg.mp hx1
  obtain ⟨V',h1,h2,h3⟩:=iC hB hm
  refine ⟨V',g,mem_of_getElem? hg,h1,?_,fun a haa=>?_⟩
  ·have hxl:plx.length=pl.length+1:=hxl
   show Sx=aq V' (aW [] (bs.take plx.length))
   rw [h2,hxl,take_add_one,ha]
   congr 1
   show _=List.foldl ak [] (bs.take pl.length++[bs[pl.length]])
   rw [foldl_append]
   rfl
  ·have:bs[pl.length]?=some a:=haa
   rw [ha] at this
   cases this
   exact h3
 ·cases hx
def qL (bs:List (List D))(w:aJ):Prop:=∃V,w.1=aq V (aW [] (bs.take w.2.length))/\(∀b∈aW [] (bs.take w.2.length),aB (V b)=false)/\w.2.length<=bs.length
def Jc{V f:Str->D}(i:cp B)(c:cp a)(j:∀b∈B,b∈a/\f b=V b)(h:aB (bY (aq V B) y)=false):bY (aq f a) y=bY (aq V B) y:=by
 by_cases e:aB y=true
 .by_cases d:y.name∈B
  .obtain ⟨k,l⟩:=j _ d
   rw [gT e,nQ d,nQ k,l]
  .exfalso
   have:bY (aq V B) y=y:=jv (by rw [wt e];exact Lp d)
   rw [this,e] at h;cases h
 .have g:aB y=false:=by simpa using e
  rw [jv (nh i g),jv (nh c g)]
def AR{n:cc}(u:BI c d)(v:n.steps=(cx (cU d) a).steps)(A:∀g∈a,f8 g)(B:qL c w)(o:x∈db n w):qL c x/\((∀y∈bm h w,aB y=false)->bm h x=bm h w):=by
 obtain ⟨V,i,C,H⟩:=B
 obtain ⟨j,p,g,E,q,r,G⟩:=Jb u v i o
 have k:=mB o
 have s:=KL j
 have t:aW [] (c.take x.2.length)=ak (aW [] (c.take w.2.length)) c[w.2.length]:=by
  rw [k,LG,s]
  show List.foldl ak [] (c.take w.2.length++[c[w.2.length]])=_
  rw [Mq]
  rfl
 refine ⟨⟨p,r,λb f=>?_,by omega⟩,λl=>?_⟩
 .rw [t] at f
  rcases uN f with z|⟨y,m,e,rfl⟩
  .rw [q b z];exact C b z
  .have:a6 p y∈g:=by rw [G _ s];exact List.mem_map_of_mem m
   have:=(A g E).2 _ this
   unfold a6 at this
   rw [K4 e] at this
   exact this
 .unfold bm
  refine Ly λy m=>?_
  rw [i,r]
  refine Jc (iV eZ) (iV eZ) (λb f=>⟨?_,q b f⟩) ?_
  .rw [t];exact qd f
  .have:=l (bY w.1 y) (List.mem_map_of_mem m)
   rw [i] at this
   exact this
def yh{j:cc}(k:BI i b)(l:j.steps=(cx (cU b) a).steps)(n:∀g∈a,f8 g):∀(m:Nat) (w:aJ),qL i w->(∀y∈bm h w,aB y=false)->∀x∈dY j m w,bm h x=bm h w
 |0,w,_,_,x,e=>by rw [Li.mp e]
 |m+1,w,p,c,x,e=>by
  obtain ⟨y,o,f⟩:=Mb.mp e
  rw [NK] at o
  obtain ⟨q,d⟩:=AR (h:=h) k l n p o
  have d:=d c
  rw [<-d]
  exact yh k l n m y q (by rw [d];exact c) x f
theorem GW {bs body facts:List (List D)}{lm:cc}{h:List D}(hI:BI bs body)(hs:lm.steps=(cx (cU body) facts).steps)(hF:∀g∈facts,jq g/\f8 g)(hz:facts.length<=200)(hbl:body.length<=10)(hh:∀x∈h,x.sc=true)(hl:h.length<=100)(hb:∀y∈h,aB y=true->y.name∈aW [] bs):
  oV lm h (qL bs) (fun k=>(aW [] ((body.filter fun a=> !aN a).take k)).length):=by
 have hat:=hI.at_
 have hlenb:∀k,(aW [] ((body.filter fun a=> !aN a).take k)).length<=500:=fun k=>by
  rw [hI.ask]
  have h1:=Co (B:=[]) (as:=bs.take k) fun a ha=>by
   have:=mem_of_mem_take ha
   rw [<-hI.ask] at this
   exact (hat a (mem_filter.mp this).1).len
  have h2:=hI.nU
  have h3:(bs.take k).length<=3:=by rw [length_take];omega
  rw [length_nil] at h1
  omega
 have hR:=DC (facts:=facts) (fun g hg=>(hF g hg).1) hz (fun a ha=>(hat a ha).qA) (by omega) (fun g hg e=>by
  obtain ⟨r,x,y,rfl⟩:=(hI.gd g hg e).1
  exact ⟨(hat _ hg).qA,r,x,y,rfl,(hat _ hg).hd⟩) hlenb
 have hsl:lm.steps.length=bs.length:=by
  rw [hs]
  show ((eX body).map _).length=_
  rw [length_map]
  unfold eX
  rw [mC,hI.ask]
 refine ⟨by rw [hs];exact hR,⟨fun _=>.av,rfl,(fun b hb=>nomatch hb),Nat.zero_le _⟩,fun w hw x hx=>(AR (h:=h) hI hs (fun g hg=>(hF g hg).2) hw hx).1,hh,hl,fun w hw hwl y hy=>?_,fun w hw hfl x hx=>yh hI hs (fun g hg=>(hF g hg).2) _ w hw hfl x hx⟩
 obtain ⟨V,h1,h2,_⟩:=hw
 rw [hwl,hsl,take_length] at h1 h2
 obtain ⟨z,hz,rfl⟩:=mem_map.mp hy
 rw [h1]
 by_cases e:aB z=true
 ·have hm:=hb z hz e
  rw [gT e,nQ hm]
  exact h2 _ hm
 ·have e':aB z=false:=by simpa using e
  rw [jv (nh (iV eZ) e')]
  exact e'
def Ei(b:cc)(w:aJ)(c:∀s∈b.steps,s.of.length<=F):(db b w).length<=F:=by
 unfold db
 split
 .rename_i st a
  refine Lk ?_ (c st (KU a))
  unfold gS
  refine Lk (Lv _ _) ?_
  rw [KP]
  refine Lk (NT _).length_le ?_
  rw [Oj]
  exact Lv _ _
 .exact Ll _
def y3 (lm:cc){F:Nat}(hF:∀s∈lm.steps,s.of.length<=F):∀(n:Nat) (w:aJ),dN lm n w<=O5.pw F n
 |0,_=>KR _
 |n+1,w=>by
  show 1+((db lm w).map (dN lm n)).sum<=1+F*O5.pw F n
  have h1:=O5.xQ (dN lm n) (O5.pw F n) (db lm w) λx _=>y3 lm hF n x
  have h2:=Nat.mul_le_mul_right (O5.pw F n) (Ei lm w hF)
  omega
theorem GU {body facts bs:List (List D)}{lm:cc}(hI:BI bs body)(hs:lm.steps=(cx (cU body) facts).steps)(hz:facts.length<=200):dN lm lm.steps.length ([],[])<=8100000:=by
 have hof:∀s∈lm.steps,s.of.length<=200:=fun s hsm=>by
  rw [hs] at hsm
  obtain ⟨s0,h0,rfl⟩:=mem_map.mp hsm
  have h1:=y2 s0 0 facts
  obtain ⟨_,e,_⟩:=yL _ _ _ s0 h0
  rw [e,length_nil] at h1
  exact Nat.le_trans h1 (by omega)
 have hsl:lm.steps.length=bs.length:=by
  rw [hs]
  show ((eX body).map _).length=_
  rw [length_map]
  unfold eX
  rw [mC,hI.ask]
 have h3:=hI.nU
 have h1:=y3 lm hof lm.steps.length ([],[])
 have h2:∀n,n<=3->O5.pw 200 n<=8100000:=fun n hn=>by
  have:n=0\/n=1\/n=2\/n=3:=by omega
  rcases this with rfl|rfl|rfl|rfl<;>decide
 exact Nat.le_trans h1 (h2 _ (by omega))
end FL
namespace FL
open PySem L2
mutual
theorem al.pN {H:Hp}{M own:List Addr}(hk:∀a∈own,∀ts,H a≠some (.tup ts)):∀{v:V} {d:D},d.fB=true->al (but H M) v d->al (but H (own++M)) v d
 |_,_,_,.av=>.av
 |_,_,_,.bl b=>.bl b
 |_,_,_,.int b=>.int b
 |_,_,_,.str b=>.str b
 |_,_,hd,.tup (a:=c) h r=>by
  refine .tup ?_ (aD.pN hk (by rw [D.fB] at hd;exact hd) r)
  obtain ⟨h1,h2⟩:=ax h
  rw [bh]
  ·exact h2
  ·intro z
   rcases mem_append.mp z with z|z
   ·exact hk c z _ h2
   ·exact h1 z
 |_,_,hd,.lst _ _=>by cases hd
theorem aD.pN {H:Hp}{M own:List Addr}(hk:∀a∈own,∀ts,H a≠some (.tup ts)):∀{vs:List V} {ds:List D},D.jr ds=true->aD (but H M) vs ds->aD (but H (own++M)) vs ds
 |_,_,_,.nil=>.nil
 |_,_,hd,.cons h r=>by
  rw [D.jr,Bool.and_eq_true] at hd
  exact .cons (al.pN hk hd.1 h) (aD.pN hk hd.2 r)
end
section
variable {C CL:Addr}{H H':Hp}{Z Z':List Addr}{a:Addr}{oss:List (List Addr)}{lm:cc}
def gG.frame (h:gG C CL H Z a oss lm)(d:∀x∈a::oss.flatten,x∈Z')(k:∀b u,b∈a::oss.flatten->H b=some u->H' b=some u)(S:ab (but H Z) (but H' Z')):gG C CL H' Z' a oss lm:=by
 obtain ⟨f,g,i,j,l,m,q,n⟩:=h
 exact ⟨f,g,i,k _ _ KN j,S _ _ l,m.AK (λos c x o=>d x (KG _ (LF.mpr ⟨os,c,o⟩))) (λb u ⟨os,c,p⟩ e=>k b u (KG _ (LF.mpr ⟨os,c,p⟩)) e) S,d _ KN,n⟩
def gG.Hb (h:gG C CL H Z a oss lm):∀x∈a::oss.flatten,∀d,H x≠some (.tup d):=λx l d e=>by
 obtain ⟨v,y,A,m,B,f,E,G⟩:=h
 rcases KY.mp l with z|z
 .rw [z,m] at e;cases e
 .obtain ⟨os,n,o⟩:=LF.mp z
  obtain ⟨j,g⟩:=LM.mp n
  have c:j<lm.steps.length:=by rw [<-f.l2];exact (KJ.mp g).1
  obtain ⟨b,p,_,i,⟨r,I,J,L,M,N,O,s,t,_,_,_,k⟩,_⟩:=f.get j _ (KL c)
  rw [g] at i
  cases i
  subst s
  rcases KY.mp o with w|w
  .rw [w,t] at e;cases e
  .rcases KY.mp w with w|w
   .obtain ⟨u,q,_⟩:=k.kvs
    rw [w,q] at e;cases e
   .obtain ⟨Q,q⟩:=k.lists x w
    rw [q] at e;cases e
end
structure dD (C CL:Addr)(H:Hp)(Z:List Addr)(us:List V)(osss:List (List Addr))(lms:List cc):Prop where
 l1:us.length=lms.length
 l2:osss.length=lms.length
 get:∀(j:Nat) lm,lms[j]?=some lm->∃a oss,us[j]?=some (.ref a)/\osss[j]?=some (a::oss.flatten)/\gG C CL H Z a oss lm/\∀x∈a::oss.flatten,x∈Z
 apart:∀(i j:Nat) oi oj,i≠j->osss[i]?=some oi->osss[j]?=some oj->∀x∈oi,x∉oj
section
variable {C CL:Addr}{H H':Hp}{Z Z':List Addr}{us:List V}{osss:List (List Addr)}{lms:List cc}
def dD.gc (h:dD C CL H Z us osss lms):∀os∈osss,∀x∈os,x∈Z:=λos d x f=>by
 obtain ⟨j,c⟩:=LM.mp d
 have b:j<lms.length:=by rw [<-h.l2];exact (KJ.mp c).1
 obtain ⟨a,g,_,e,_,i⟩:=h.get j _ (KL b)
 rw [c] at e
 cases e
 exact i x f
def dD.frame (h:dD C CL H Z us osss lms)(f:∀os∈osss,∀x∈os,x∈Z')(k:∀b u,(∃os∈osss,b∈os)->H b=some u->H' b=some u)(S:ab (but H Z) (but H' Z')):dD C CL H' Z' us osss lms:=
 ⟨h.l1,h.l2,λj i l=>by
  obtain ⟨a,c,m,g,A,_⟩:=h.get j i l
  have d:=KU g
  exact ⟨a,c,m,g,A.frame (f _ d) (λb u n e=>k b u ⟨_,d,n⟩ e) S,f _ d⟩,h.apart⟩
def dD.put{j:Nat}{os:List Addr}{d:List (List Addr)}(h:dD C CL H Z us osss lms)(l:au Z H)(hj:lms[j]?=some Y)(ha:us[j]?=some (.ref a))(J:osss[j]?=some os)(p:a∈os)(n:∀x∈d.flatten,x∈os\/H x=none)
  (k:∀b u,b∉os->H b=some u->H' b=some u) (A:gG C CL H' (d.flatten++Z) a d v):dD C CL H' (d.flatten++Z) us (osss.set j (a::d.flatten)) (lms.set j v):=by
 have s:=h.gc os (KU J)
 have t:j<osss.length:=(KJ.mp J).1
 have L:j<lms.length:=(KJ.mp hj).1
 have S:ab (but H Z) (but H' (d.flatten++Z)):=λb u e=>by
  obtain ⟨M,N⟩:=ax e
  rw [bh]
  .exact k b u (λz=>M (s b z)) N
  .intro z
   rcases Ld.mp z with z|z
   .rcases n b z with w|w
    .exact M (s b w)
    .rw [w] at N;cases N
   .exact M z
 have y:∀x∈a::d.flatten,x∈os\/H x=none:=λx f=>by
  rcases KY.mp f with z|z
  .rw [z];exact .inl p
  .exact n x z
 have E:∀(i:Nat) (r:List Addr),i≠j->osss[i]?=some r->∀x∈a::d.flatten,x∉r:=λi r G g x f z=>by
  rcases y x f with w|w
  .exact h.apart j i os r (LN G) J g x w z
  .exact l x (h.gc r (KU g) x z) w
 refine ⟨by rw [Mw];exact h.l1,by rw [Mw,Mw];exact h.l2,λi m g=>?_,λi O r I G g o x f z=>?_⟩
 .by_cases e:j=i
  .subst e
   rw [K6 L] at g
   cases g
   refine ⟨a,d,ha,K6 t,A,λx f=>?_⟩
   rcases KY.mp f with w|w
   .rw [w];exact KW _ (s a p)
   .exact K9 _ w
  .rw [KQ e] at g
   obtain ⟨b,ob,e1,Q,B,T⟩:=h.get i m g
   refine ⟨b,ob,e1,by rw [KQ e];exact Q,B.frame (λx f=>KW _ (T x f)) (λc u hc q=>k c u (λw=>h.apart j i os _ e J Q c w hc) q) S,λx f=>KW _ (T x f)⟩
 .by_cases e:j=i
  .subst e
   rw [K6 t] at g
   cases g
   rw [KQ G] at o
   exact E O I (LN G) o x f z
  .rw [KQ e] at g
   by_cases U:j=O
   .subst U
    rw [K6 t] at o
    cases o
    exact E i r (LN e) g x z f
   .rw [KQ U] at o
    exact h.apart i O r I G g o x f z
end
def dC (T fs:List (List D)):List (List D):=fs.foldl (λT f=>if f∈T then T else T++[f]) T
def GG (T a:List (List D))(f:List D):dC T (a++[f])=if f∈dC T a then dC T a else dC T a++[f]:=by
 unfold dC;rw [Mq];rfl
def vz:∀(a T:List (List D)) (g:List D),g∈dC T a↔g∈T\/g∈a
 |[],T,g=>⟨.inl,λh=>h.elim id λz=>nomatch z⟩
 |f::r,T,g=>by
  show g∈dC (if f∈T then T else T++[f]) r↔_
  rw [vz r]
  by_cases e:f∈T
  .rw [K4 e]
   constructor
   .rintro (h|h)
    .exact .inl h
    .exact .inr (KG _ h)
   .rintro (h|h)
    .exact .inl h
    .rcases KY.mp h with z|z
     .rw [z];exact .inl e
     .exact .inr z
  .rw [KS e]
   constructor
   .rintro (h|h)
    .rcases Ld.mp h with z|z
     .exact .inl z
     .rw [Li.mp z];exact .inr KN
    .exact .inr (KG _ h)
   .rintro (h|h)
    .exact .inl (K9 _ h)
    .rcases KY.mp h with z|z
     .rw [z];exact .inl (KW _ (Li.mpr rfl))
     .exact .inr z
def zj:∀(a T:List (List D)),T.length<=(dC T a).length
 |[],T=>KR _
 |f::r,T=>by
  show T.length<=(dC (if f∈T then T else T++[f]) r).length
  have:=zj r (if f∈T then T else T++[f])
  refine Lk ?_ this
  split
  .exact KR _
  .rw [Lh];omega
def CA (T a:List (List D))(j:Nat):(dC T (a.take j)).length<=(dC T a).length:=by
 have e:dC T a=dC (dC T (a.take j)) (a.drop j):=by
  unfold dC
  rw [<-Mq,Pk]
 rw [e]
 exact zj _ _
def ur:∀(a T:List (List D)),(T++a).Nodup->dC T a=T++a
 |[],T,_=>by rw [LA];rfl
 |f::r,T,h=>by
  have b:f∉T:=λz=>by
   rw [Nr] at h
   exact h.2.2 f z f KN rfl
  show dC (if f∈T then T else T++[f]) r=_
  rw [KS b,ur r (T++[f]) (by rw [LK];exact h),LK]
  rfl
def gI (rules:List cz)(lms:List cc)(facts:List (List D)):List (List D×List aJ):=(rules.zip lms).map λq=>(q.1.1,iY (cx q.2 facts))
structure tT (rules:List cz)(lms:List cc)(T facts:List (List D)):Prop where
 oz:∀g∈facts,jq g/\f8 g
 tok:∀g∈T,f8 g
 fc:∀lm∈lms,lm.steps.length<=100/\lm.taken+facts.length<2^60/\∀s∈lm.steps,eV s.cW/\s.of.length+facts.length<1000
 give:∀(j:Nat) r lm,rules[j]?=some r->lms[j]?=some lm->∃R sz,oV (cx lm facts) r.1 R sz/\dN (cx lm facts) (cx lm facts).steps.length ([],[])<=8100000
 len:rules.length=lms.length
 all:(dC T facts++bj (bH 0 (gI rules lms facts) (dC T facts))).length<=1000
def Bu (C CL CW:Addr):Sp:=λvs H Q _=>∃(Z:List Addr) (a dx:Addr) (vr:V) (ll td:Addr) (us:List V) (osss:List (List Addr)) (rules:List cz) (lms:List cc) (T facts:List (List D)) (v1:V),vs=[.ref a,v1]/\au Z H/\but H Z a=some (.ins CW dx (oH vr ll td))/\but H Z ll=some (.lst us)/\dD C CL H Z us osss lms/\td∈Z/\(∀os∈osss,td∉os)/\H td=some (.dT (cB T))/\al (but H Z) vr (.lst (rules.map bf))/\al (but H Z) v1 (.lst (facts.map D.tup))/\tT rules lms T facts/\
 ∀v H' Z' osss',(∀b u,b≠td->(∀os∈osss,b∉os)->H b=some u->H' b=some u)->(∀x∈Z,x∈Z')->(∀x∈Z',x∈Z\/H x=none)->au Z' H'->dD C CL H' Z' us osss' (lms.map λlm=>cx lm facts)->(∀os∈osss',∀x∈os,(∃o∈osss,x∈o)\/H x=none)->H' td=some (.dT (cB (dC T facts++bj (bH 0 (gI rules lms facts) (dC T facts)))))->al (but H' Z') v (.lst ((bH 0 (gI rules lms facts) (dC T facts)).map dM))->Q v H'
def JV (x:ef)(h:bM x.1):(dM x).fB=true:=by
 refine qG λy a=>?_
 simp only [KY,Lu,LO] at a
 rcases a with rfl|rfl|rfl
 .exact gN h
 .rfl
 .exact gN λz b=>by
   obtain ⟨n,_,rfl⟩:=Lg.mp b
   rfl
end FL
namespace FL
open PySem L2
section
variable {C CL:Addr}{H H':Hp}{Z:List Addr}{us:List V}{osss:List (List Addr)}{lms:List cc}
def dD.nil {us:List V}(h:us=[]):dD C CL H Z us [] []:=⟨by rw [h];rfl,rfl,λj a q=>by simp at q,λi j b c _ q=>by simp at q⟩
def dD.snoc{c:List (List Addr)}(h:dD C CL H Z us osss lms)(l:au Z H)(I:H x=none)(N:∀os∈c,∀y∈os,H y=none)(k:∀b u,H b=some u->H' b=some u)(A:gG C CL H' (c.flatten++x::Z) x c G):dD C CL H' (c.flatten++x::Z) (us++[.ref x]) (osss++[x::c.flatten]) (lms++[G]):=by
 have J:∀y∈x::c.flatten,H y=none:=λy d=>by
  rcases KY.mp d with z|z
  .rw [z];exact I
  .obtain ⟨os,v,w⟩:=LF.mp z
   exact N os v y w
 have S:ab (but H Z) (but H' (c.flatten++x::Z)):=λb u e=>by
  obtain ⟨s,f⟩:=ax e
  rw [bh]
  .exact k b u f
  .intro z
   rcases Ld.mp z with z|z
   .rw [J b (KG _ z)] at f;cases f
   .rcases KY.mp z with z|z
    .rw [z,I] at f;cases f
    .exact s z
 have O:=h.frame (Z':=c.flatten++x::Z) (λos v y d=>KW _ (KG _ (h.gc os v y d))) (λb u _ e=>k b u e) S
 have E:∀t∈osss,∀y∈x::c.flatten,y∉t:=λt v y d z=>l y (h.gc t v y z) (J y d)
 refine ⟨by rw [Lh,Lh,h.l1];rfl,by rw [Lh,Lh,h.l2];rfl,λj m g=>?_,λi j t L M Q g y d z=>?_⟩
 .by_cases e:j<lms.length
  .rw [Lm e] at g
   obtain ⟨a,T,U,Y,B,hz⟩:=O.get j m g
   exact ⟨a,T,by rw [Lm (by rw [h.l1];exact e)];exact U,by rw [Lm (by rw [h.l2];exact e)];exact Y,B,hz⟩
  .rw [Lo (LC e)] at g
   have p:j-lms.length=0:=by
    have:=(KJ.mp g).1
    simp at this
    exact this
   rw [p] at g
   have g:G=m:=by simpa using g
   subst g
   refine ⟨x,c,by rw [Lo (by rw [h.l1];omega),h.l1,p];rfl,by rw [Lo (by rw [h.l2];omega),h.l2,p];rfl,A,λy d=>?_⟩
   rcases KY.mp d with z|z
   .rw [z];exact KW _ KN
   .exact K9 _ z
 .have r:∀{n:Nat} {o:List Addr},(osss++[x::c.flatten])[n]?=some o->(n<osss.length/\osss[n]?=some o)\/(n=osss.length/\o=x::c.flatten):=λ{n o} q=>by
   by_cases e:n<osss.length
   .rw [Lm e] at q;exact .inl ⟨e,q⟩
   .rw [Lo (LC e)] at q
    have p:n-osss.length=0:=by
     have:=(KJ.mp q).1
     simp at this
     exact this
    rw [p] at q
    exact .inr ⟨by omega,by simpa using q.symm⟩
  rcases r Q with ⟨_,s⟩|⟨n1,s⟩
  .rcases r g with ⟨_,f⟩|⟨_,f⟩
   .exact h.apart i j t L M s f y d z
   .rw [f] at z;exact E t (KU s) y z d
  .rcases r g with ⟨_,f⟩|⟨n2,f⟩
   .rw [s] at d;exact E L (KU f) y d z
   .exact M (n1.trans n2.symm)
end
theorem IE {C CL:Addr}{wi:TI}{σ:St}{H:Hp}{M:List Addr}{rules:List cz}{Q:VK}{K:PySem.W.Frag}(hw:Walk wi (but H M) σ (rules.map bf))(l:au M H)(aw:∀r∈rules,mV r.2/\oh r.2)(hz:rules.length<=1000)
  (k:∀D us osss H',(∀b u,H b=some u->H' b=some u)->H D=none->H' D=some (.lst us)->(∀os∈osss,∀y∈os,H y=none/\y≠D)->au (osss.flatten++M) H'->dD C CL H' (osss.flatten++M) us osss (rules.map fun r=>cU r.2)->Q (.ref D) H'):
  ij wi (aX [] 1) (ci 0) ka (rT CL (vP C CL) [] L2.E0 (bb (bz (eF K) (aR 0) (tC (.int 1))) bv)) σ H Q:=hw M H (ab.refl _) l _ fun J H1 s1 hgo hstop D hD=>by
 have lf:D∉M:=(l.same s1).fresh hD
 have HD:H D=none:=jo s1 hD
 refine ⟨fun j m τ H'=>m=(rules.map bf).length-j/\j<=(rules.map bf).length/\τ.length=1/\(∀b u,H1 b=some u->H' b=some u)/\∃us osss,H' D=some (.lst us)/\dD C CL H' (osss.flatten++D::M) us osss ((rules.take j).map fun r=>cU r.2)/\(∀os∈osss,∀y∈os,H1 y=none/\y≠D)/\au (osss.flatten++D::M) H',
  ⟨_,rfl,Nat.zero_le _,rfl,fun b u e=>by rw [aC (de e hD)];exact e,[],[],aK,dD.nil rfl,(fun os ho=>nomatch ho),((l.same s1).upd).cons aK⟩,?_⟩
 rintro j m τ H' ⟨rfl,hj,hτ,kH,us,osss,hD',hL,hn,hl⟩
 have hs:ab (but H1 M) (but H' (osss.flatten++D::M)):=fun b u e=>by
  obtain ⟨q1,q2⟩:=ax e
  rw [bh]
  ·exact kH b u q2
  ·intro z
   rcases mem_append.mp z with z|z
   ·obtain ⟨os,ho,w⟩:=mem_flatten.mp z
    rw [(hn os ho b w).1] at q2;cases q2
   ·rcases mem_cons.mp z with z|z
    ·rw [z,hD] at q2;cases q2
    ·exact q1 z
 by_cases hlt:j<(rules.map bf).length
 ·have hjr:j<rules.length:=by simpa using hlt
  have hr:=getElem?_eq_getElem hjr
  have hd:(rules.map bf)[j]?=some (bf rules[j]):=by rw [getElem?_map,hr];rfl
  have hrm:=getElem_mem hjr
  generalize hre:rules[j]=r at hr hd hrm
  obtain ⟨hd',body⟩:=r
  obtain ⟨go,gy⟩:=hgo j _ (osss.flatten++D::M) H' hd hs hl
  refine .inr ⟨go,fun τ' H''=>τ'.length=1/\(∀b u,H1 b=some u->H'' b=some u)/\∃us osss,H'' D=some (.lst us)/\dD C CL H'' (osss.flatten++D::M) us osss ((rules.take (j+1)).map fun r=>cU r.2)/\(∀os∈osss,∀y∈os,H1 y=none/\y≠D)/\au (osss.flatten++D::M) H'',
   fun τ' H'' ⟨a,b,c⟩=>⟨(rules.map bf).length-(j+1),by omega,rfl,hlt,a,b,c⟩,fun x H'' hy=>?_⟩
  obtain ⟨s3,rx⟩:=gy x H'' hy
  have hl3:=hl.same s3
  simp only [ci,ka,if_true]
  have h0:(τ.set 0 (some x))[0]?=some (some x):=getElem?_set_self (by omega)
  refine (bV (K:=K) (ds:=[.tup hd',c8 body]) (d:=c8 body) rfl (cE h0 rx) ar) (osss.flatten++D::M) H'' (ab.refl _) hl3 _ fun v H4 s4 r4=>fun y dx hy4 hdx hne=>?_
  have hl4:=hl3.same s4
  have hD4:=s4 _ _ (s3 _ _ hD')
  have S4:ab H4 (upd (upd H4 dx (.own y)) y (.ins CL dx [])):=fun b u e=>by rw [aC (de e hy4),aC (de e hdx)];exact e
  have back:∀{z:Addr},(upd (upd H4 dx (.own y)) y (.ins CL dx [])) z=none->H4 z=none:=fun {z} e=>jo S4 e
  generalize hH5:upd (upd H4 dx (.own y)) y (.ins CL dx [])=H5 at S4 back
  have hok':=aw _ hrm
  refine ⟨osss.flatten++D::M,body,y,dx,v,rfl,by rw [<-hH5];exact aK,hl4.same S4,r4.mono (S4.but _),hok'.1,hok'.2,fun oss H6 k6 n6 l6 L6=>⟨rfl,?_⟩⟩
  have K46:∀b u,H4 b=some u->H6 b=some u:=fun b u e=>k6 b u (de e hy4) (S4 _ _ e)
  have hL4:dD C CL H4 (osss.flatten++D::M) us osss ((rules.take j).map fun r=>cU r.2):=hL.frame hL.gc (fun b u _ e=>s4 _ _ (s3 _ _ e)) ((s3.trans s4).but _)
  have L6':=hL4.snoc hl4 hy4 (fun os ho z hz=>back (n6 os ho z hz)) K46 L6
  have hD6:=K46 _ _ hD4
  have hul:=hL.l1
  rw [length_map,length_take] at hul
  refine ⟨us,hD6,cr (by omega),by rw [length_set];exact hτ,fun b u e=>?_,us++[.ref y],osss++[y::oss.flatten],aK,?_,fun os ho z hz=>?_,?_⟩
  ·rw [aC (de e hD)]
   exact K46 _ _ (s4 _ _ (s3 _ _ (kH b u e)))
  ·have eset:∀z,z∈(osss++[y::oss.flatten]).flatten++D::M↔z∈oss.flatten++y::(osss.flatten++D::M):=fun z=>by
    simp only [List.flatten_append,List.flatten_cons,List.flatten_nil,append_nil,mem_append,mem_cons]
    constructor<;>(intro h;simp only [or_assoc] at h⊢;rcases h with h|h|h|h|h<;>simp [h])
   have etk:(rules.take (j+1)).map (fun r=>cU r.2)=(rules.take j).map (fun r=>cU r.2)++[cU body]:=by rw [take_add_one,hr,map_append];rfl
   rw [etk]
   refine L6'.frame (fun os ho z hz=>(eset z).mpr (L6'.gc os ho z hz)) (fun b u ⟨os,ho,hb⟩ e=>?_) ?_
   ·rw [aC (fun z=>?_)]
    ·exact e
    ·subst z
     rcases mem_append.mp ho with w|w
     ·exact (hn os w _ hb).2 rfl
     ·rw [mem_singleton.mp w] at hb
      rcases mem_cons.mp hb with q|q
      ·rw [<-q,hD4] at hy4;cases hy4
      ·obtain ⟨o,ho',q'⟩:=mem_flatten.mp q
       rw [back (n6 o ho' _ q')] at hD4;cases hD4
   ·rw [dH ((eset D).mpr (mem_append_right _ (mem_cons_of_mem _ (mem_append_right _ mem_cons_self)))),j7 eset]
    exact ab.refl _
  ·have base1:∀{z:Addr},H4 z=none->H1 z=none:=fun {z} e=>by
    cases q:H1 z with
    |none=>rfl
    |some u=>have:=s4 _ _ (s3 _ _ (kH z u q));rw [e] at this;cases this
   rcases mem_append.mp ho with w|w
   ·exact hn os w z hz
   ·rw [mem_singleton.mp w] at hz
    have hz4:H4 z=none:=by
     rcases mem_cons.mp hz with q|q
     ·rw [q];exact hy4
     ·obtain ⟨o,ho',q'⟩:=mem_flatten.mp q
      exact back (n6 o ho' _ q')
    exact ⟨base1 hz4,fun q=>by rw [q,hD4] at hz4;cases hz4⟩
  ·refine au.upd fun z hz=>l6 z ?_
   simp only [List.flatten_append,List.flatten_cons,List.flatten_nil,append_nil,mem_append,mem_cons] at hz⊢
   simp only [or_assoc] at hz⊢
   rcases hz with h|h|h|h|h<;>simp [h]
 ·have e:j=(rules.map bf).length:=by omega
  subst e
  rw [length_map,take_length] at hL
  refine .inl ⟨hstop (osss.flatten++D::M) H' hs,k D us osss H' (fun b u e=>kH b u (s1 _ _ e)) HD hD' (fun os ho y hy=>⟨jo s1 (hn os ho y hy).1,(hn os ho y hy).2⟩) (fun z hz=>hl z ?_) ?_⟩
  ·rcases mem_append.mp hz with w|w
   ·exact mem_append_left _ w
   ·exact mem_append_right _ (mem_cons_of_mem _ w)
  ·refine hL.frame (fun os ho z hz=>mem_append_left _ (mem_flatten.mpr ⟨os,ho,hz⟩)) (fun b u _ e=>e) (d6 fun z hz=>?_)
   rcases mem_append.mp hz with w|w
   ·exact mem_append_left _ w
   ·exact mem_append_right _ (mem_cons_of_mem _ w)
def BN (C CL CW:Addr):Sp:=λvs H Q _=>∃(M:List Addr) (rules:List cz) (x dx:Addr) (v1:V),vs=[.ref x,v1]/\H x=some (.ins CW dx [])/\au M H/\x∉M/\al (but H M) v1 (.lst (rules.map bf))/\(∀r∈rules,mV r.2/\oh r.2)/\rules.length<=100/\
 ∀ll td us osss H',(∀b u,b≠x->H b=some u->H' b=some u)->H' x=some (.ins CW dx (oH v1 ll td))->H td=none->H' td=some (.dT [])->(∀os∈osss,∀y∈os,H y=none/\y≠td)->but H' (td::(osss.flatten++M)) ll=some (.lst us)->au (td::(osss.flatten++M)) H'->dD C CL H' (td::(osss.flatten++M)) us osss (rules.map λr=>cU r.2)->Q .av H'
end FL
namespace FL
open PySem L2
section
variable {X:Cx}{C:Addr}{N':List Str}{scope:Scope}{cl:List (Str×Addr)}{Ca:Addr}{fp:List Addr}{s:Shared}{H:Hp}
def CZ {n:Nat}{x:Str}{ps:List Str}{sp:Sp}{e:Expr}{es:List Expr}{t:TA}{p pos:Pos}{k:Nat}(h:jf X.prog X.w X.K X.mg X.base n C x ps sp)(hr:cI (k+1) X.A)(ha:PA (bG X N' scope cl Ca fp s H) (e::es) t)(hle:n<=k:=by decide)
  (hg:Gl (bG X N' scope cl Ca fp s H) x:=by rfl) (hdb:(x==("__debug__":Str))=false:=by decide) (he:starEach (e::es) (bG X N' scope cl Ca fp s H).env=(false,eval e (bG X N' scope cl Ca fp s H).env)::starEach es (bG X N' scope cl Ca fp s H).env:=by rfl) (hpl:(backTo pos (starEach es (bG X N' scope cl Ca fp s H).env)).any (·.1)=false:=by rfl):
  PE (bG X N' scope cl Ca fp s H) (.Call (.Name x p) (e::es) [] pos) (rT C sp [] L2.E0 t):=u8 (X:=bG X N' scope cl Ca fp s H) h hr ha hle hg hdb he hpl
end
def uZ:Sp:=λvs H Q _=>∃(M:List Addr) (rules:List cz) (facts:List (List D)) (v0 v1:V),vs=[v0,v1]/\au M H/\al (but H M) v0 (.lst (rules.map bf))/\al (but H M) v1 (.lst (facts.map D.tup))/\(∀r∈rules,mV r.2/\oh r.2)/\rules.length<=100/\tT rules (rules.map λr=>cU r.2) [] facts/\
 ∀v H',ab H H'->al (but H' M) v (.lst ((bH 0 (gI rules (rules.map λr=>cU r.2) facts) (dC [] facts)).map dM))->Q v H'
end FL
namespace L2
open PySem PySem.Spec PyProof.Rows
def Cm (lo c:Int)(n:Nat):It:=⟨λi _=>i<n,λi H x H'=>H'=H/\x=.int (lo+i*c),λi _=>n<=i⟩
def DY {P:Program}{w:World}{K:PySem.W.Frag}{tg:Expr}(it:Addr)(lo c:Int)(n:Nat):iJ P w K tg (Cm lo c n) [it] it (λi h=>IsRangeIter h it (lo+(i:Nat)*c) ((n:Int)-(i:Nat)) c) where
 mem:=by simp
 obj:=λi h st b hb=>by
  have e:b=it:=by simpa using hb
  subst e
  exact ⟨_,st,λv z=>by
   have z':Data.fields _=Data.cell v:=z
   cases z'⟩
 keep:=λi h h' st k=>k it Z8 _ st
 item:=by
  intro X hP hw hK hc i pins s σ H E I hf st hg
  subst hP hw hK
  obtain ⟨f0,f1,f2,f3,f4,f5⟩:=hf it Z8
  have W:=Walks.range (prog:=X.prog) (w:=X.w) (I.ok.hd hc) it lo c n
  refine W.item i s _ _ hg st λv h' tk hv st' kk=>?_
  obtain ⟨t,rfl⟩:=hv
  have I1:Inv X pins σ H {s with heap:=h',toks:=tk}:=I.turned (λb o hb e=>kk b o (by simpa using hb) e) f0 f1 f3 f4 f5
  exact ⟨_,rfl,m5 (s:={s with heap:=h',toks:=tk}) (n:="range_iterator") st' rfl rfl Z5 ⟨.int (lo+i*c),H,I1,⟨t,rfl⟩,⟨rfl,rfl⟩,st',λb hb=>(hf b hb).1⟩⟩
 done:=by
  intro X hP hw hK hc i pins s σ H E I hf st hg
  subst hP hw hK
  obtain ⟨f0,f1,f2,f3,f4,f5⟩:=hf it Z8
  exact wpAny_pyNext_range_end (I.ok.hd hc) st (by have:n<=i:=hg;omega) λh' eb=>⟨rfl,I.turned (t':=s.toks) (λb o hb e=>eb b o hb e) f0 f1 f3 f4 f5⟩
 self:=λ_ _ _ _ _ st h=>wpAny_pyIter_rangeiter st h
section
variable {X:Cx}{tg:Expr}
def AD (ta:TA):TI:=λσ H R=>ta σ H λvs H1=>∃(i j c:Int) (n:Nat),vs=[.int i,.int j,.int c]/\c≠0/\Builtin.Range.small i j c=true/\Builtin.divisionGoesByPylong (j-i) c=false/\Builtin.Range.rangeSize i j c=n/\R (Cm i c n) H1
def Jd(B:Gl X "range")(C:X.mg "range"=none)(E:PA X [a,b,c] y)(G:starEach [a,b,c] X.env=[(false,eval a X.env),(false,eval b X.env),(false,eval c X.env)]:=by rfl)(l:starEach [b,c] X.env=[(false,eval b X.env),(false,eval c X.env)]:=by rfl):
  PI X tg (.Call (.Name "range" p) [a,b,c] [] k) (AD y):=by
 intro f s z H R I h
 refine Call_ (ic I B C boot_range (LR (aQ (E k f s z H _ I h) λU g ⟨Y,A,J,L,v⟩=>?_) (by rw [G,l]) (by rw [l];rfl)))
 obtain ⟨i,j,c,n,e,v,M,N,O,q⟩:=v
 subst e
 cases L with
 |cons r m=>
  cases m with
  |cons Q m=>
   cases m with
   |cons w m=>
    cases m
    obtain ⟨t,rfl⟩:=r
    obtain ⟨u,rfl⟩:=Q
    obtain ⟨d,rfl⟩:=w
    refine call_range_3 v ?_ (.inl N)
    refine wpAny_pyIter_range (IsRange.new ..) M ?_
    have x:Inv X f z A {g with heap:=g.heap.push {cls:=.type "range",data:=.fields #[.int i t,.int j u,.int c d]},toks:=g.toks}:=J.kept λb o e=>KO _ e
    refine ⟨(g.heap.push {cls:=.type "range",data:=.fields #[.int i t,.int j u,.int c d]}).objs.size,[(g.heap.push {cls:=.type "range",data:=.fields #[.int i t,.int j u,.int c d]}).objs.size],_,_,A,rfl,
     x.kept (t':=g.toks) λb o e=>KO _ e,DY _ i c n,?_,λb T=>?_,q⟩
    .show IsRangeIter _ _ (i+((0:Nat):Int)*c) ((n:Int)-((0:Nat):Int)) c
     rw [show i+((0:Nat):Int)*c=i by simp,show (n:Int)-((0:Nat):Int)=n by simp,<-O]
     exact Lc _ rfl
    .have e:b=(g.heap.push {cls:=.type "range",data:=.fields #[.int i t,.int j u,.int c d]}).objs.size:=by simpa using T
     subst e
     exact x.gz (KR _) (x.aw.fresh (KR _))
end
end L2
namespace FL
open PySem L2
inductive iF (G:Hp):List V->List Sl->Prop
 |nil:iF G [] []
 |cons {v:V} {s:Sl} {vs:List V} {ss:List Sl}:io G (some (some v)) s->iF G vs ss->iF G (v::vs) (s::ss)
def iF.length:∀{a:List V} {b:List Sl},iF G a b->a.length=b.length
 |_,_,.nil=>rfl
 |_,_,.cons _ r=>LL (· +1) r.length
def iF.get:∀{a:List V} {b:List Sl} {i:Nat} {s:Sl},iF G a b->b[i]?=some s->∃v,a[i]?=some v/\io G (some (some v)) s
 |_,_,_,_,.nil,e=>by simp at e
 |_,_,0,_,.cons h _,e=>by simp at e;subst e;exact ⟨_,rfl,h⟩
 |_,_,i+1,s,.cons _ r,e=>by
  obtain ⟨v,c,d⟩:=iF.get (i:=i) (s:=s) r (by simpa using e)
  exact ⟨v,by simpa using c,d⟩
def Sl.shr:Sl->Sl
 |.k S=>.kd S|.t ps=>.td ps|.l xs=>.d (.lst xs)|s=>s
def li (t:TA)(G:Hp)(σ:St)(ss:List Sl):Prop:=∀M H,ab G (but H M)->au M H->∀Q:List V->Hp->Prop,(∀vs H',ab H H'->iF (but H' M) vs ss->Q vs H')->t σ H Q
def spS (R:List Sl->D->Prop):Sp:=λvs H Q _=>∃M ss d,au M H/\iF (but H M) vs ss/\R ss d/\∀v H',ab H H'->al (but H' M) v d->Q v H'
def Ar{R:List Sl->D->Prop}(c:∀a d,R a d->a.length=n):∀b H Q E,spS R b H Q E->b.length=n:=λb H Q E ⟨M,a,d,l,r,e,k⟩=>by rw [r.length];exact c a d e
section
variable {G:Hp}{σ:St}{δ:List Sl}{ta:TE}{t:TA}{d:D}{ss:List Sl}
def vV:li bv G σ []:=λM H s l Q k=>k [] H (ab.refl _) .nil
def yi (c:ae ta G σ d)(e:li t G σ ss):li (bb ta t) G σ (.d d::ss):=
 λM H s l Q k=>c M H s l _ λv f a g=>e M f (s.trans (a.but M)) (l.same a) _ λj h b i=>k _ h (a.trans b) (.cons ⟨v,rfl,g.mono (b.but M)⟩ i)
def bE.es{i:Nat}(e:bE G σ δ)(g:δ[i]?=some s)(j:s≠.no)(m:li t G σ ss):li (bb (aR i) t) G σ (s.shr::ss):=λM H c l Q k=>by
 have w:=(e.mono c).get i s g
 have:∃v,σ[i]?=some (some v)/\io (but H M) (some (some v)) s.shr:=by
  cases s with
  |no=>exact absurd rfl j
  |d x=>obtain ⟨v,h,r⟩:=w;exact ⟨v,h,v,rfl,r⟩
  |l x=>obtain ⟨v,h,r⟩:=w;exact ⟨v,h,v,rfl,r⟩
  |k x=>obtain ⟨a,h,r⟩:=w;exact ⟨.ref a,h,a,rfl,r⟩
  |t x=>obtain ⟨a,b,h,r⟩:=w;exact ⟨.ref a,h,a,b,rfl,r⟩
  |kd x=>obtain ⟨a,h,r⟩:=w;exact ⟨.ref a,h,a,rfl,r⟩
  |td x=>obtain ⟨a,b,h,r⟩:=w;exact ⟨.ref a,h,a,b,rfl,r⟩
 obtain ⟨v,n,o⟩:=this
 exact ⟨v,n,m M H c l _ λu p f q=>k _ p f (.cons (o.mono (f.but M)) q)⟩
def Gu (c:li t G σ ss):li (bb wx t) G σ (.td []::ss):=λM H s l Q k=>λp a=>
 c M _ (s.trans ((cG a _).but M)) (l.same (cG a _)) _ λg e b f=>k _ e ((cG a _).trans b) (.cons ⟨p,[],rfl,by rw [bh (l.fresh a)];exact b _ _ aK,.nil⟩ f)
def uz{R:List Sl->D->Prop}(b:R ss d)(h:li t G σ ss):ae (iH (spS R) [] E t) G σ d:=
 λM H s l Q k=>h M H s l _ λi j a c=>⟨M,ss,d,l.same a,by rw [LA];exact c,b,λv e f g=>k v e (a.trans f) g⟩
end
def Cn {M:List Addr}{H:Hp}{vs:List V}{ss:List Sl}(l:au M H)(r:iF (but H M) vs ss)(ho:∀s∈ss,s.own=false)(N:List Str):Bx H M [] (L2.start N vs) H (ss++List.replicate (N.length-ss.length) .no):=by
 have hl:=r.length
 have own0:∀{j:Nat} {s:Sl},(ss++List.replicate (N.length-ss.length) Sl.no)[j]?=some s->s.own=true->False:=λ{j s} h k=>by
  rcases Ld.mp (KU h) with z|z
  .rw [ho s z] at k;cases k
  .rw [(List.mem_replicate.mp z).2] at k;cases k
 refine ⟨by simp [L2.start,hl],ab.refl _,l,(λa ha=>nomatch ha),λi s q=>?_,λi j s t a _ hs _ ks _ _ _=>own0 hs ks⟩
 by_cases hi:i<ss.length
 .rw [Lm hi] at q
  obtain ⟨v,h1,h2⟩:=r.get q
  have hv:(L2.start N vs)[i]?=some (some v):=by
   unfold L2.start
   rw [Lm (by simpa using (by omega:i<vs.length)),KZ,h1]
   rfl
  rw [hv]
  have:=ho s (KU q)
  cases s with
  |no=>trivial
  |d x=>exact h2
  |l x=>cases this
  |k x=>cases this
  |t x=>cases this
  |kd x=>exact h2
  |td x=>exact h2
 .rw [Lo (LC hi)] at q
  obtain ⟨h1,h2⟩:=KJ.mp q
  simp at h2
  subst h2
  trivial
section
variable {B:Hp}{M0:List Addr}{δ:List Sl}{E:Ends}{t:TA}
def dm.Ev {a b c:Int}{n:Nat}(p:c≠0)(r:Builtin.Range.small a b c=true)(s:Builtin.divisionGoesByPylong (b-a) c=false)(u:Builtin.Range.rangeSize a b c=n)(h:∀G f,bE G f δ->dI t G f [.int a,.int b,.int c]):dm B M0 δ (AD t) ((List.range n).map λ(k:Nat)=>D.int (a+k*c)):=λv f H i R k=>h _ f i.wide _ H (ab.refl _) i.live _ λU w A g=>by
 cases g with
 |cons C g=>
  obtain ⟨y,z,rfl,I,J⟩:=lI g
  refine ⟨a,b,c,n,by rw [C.dP,I.dP,J.dP],p,r,s,u,?_⟩
  refine k _ w A (λj d L M l N Y=>?_) (λL M N=>?_)
  .rw [KZ] at l
   obtain ⟨q,O,rfl⟩:=LW.mp l
   obtain ⟨m,o⟩:=KJ.mp O
   simp at m o
   subst o
   refine ⟨m,λx Q ⟨e,T⟩=>?_⟩
   subst e;subst T
   exact ⟨ab.refl _,.int _⟩
  .show n<=_
   simp
end
end FL
namespace FL
open PySem L2
def mK (f:List D):Prop:=∃r xs,f=.str r::xs/\∀x∈xs,x.sc=true
def mK.sc(h:mK f):bM f:=λx a=>by
 obtain ⟨r,c,rfl,b⟩:=h
 rcases KY.mp a with z|z
 .rw [z];rfl
 .exact b x z
def uG:List D->D->Prop:=λds d=>∃f,ds=[.tup f]/\mK f/\d=.bl true
def BH:List D->D->Prop:=λds d=>∃as,ds=[c8 as]/\xA as/\d=fU (aW [] as)
def Aq:List D->D->Prop:=λds d=>∃(pl:List Nat) (n m:Nat),ds=[me pl,.int (n:Int),.int (m:Int)]/\pl.length=n/\(∀i∈pl,i<m)/\d=.bl true
def lu (p q:List Int)(b:Bool):Prop:=(p=q/\b=false)\/∃(i:Nat) (x y:Int),p.take i=q.take i/\p[i]?=some x/\q[i]?=some y/\x≠y/\b=decide (x<y)
def wV:List D->D->Prop:=λds d=>∃(p q:List Int) (b:Bool),ds=[.lst (p.map D.int),.lst (q.map D.int)]/\p.length<=1000/\lu p q b/\d=.bl b
def yS:List D->D->Prop:=λds d=>∃fs,ds=[cv fs,cv fs]/\(∀f∈fs,mK f)/\fs.length<=1000/\d=.bl true
def wL:List Sl->D->Prop:=λss d=>∃a ps,ss=[.d (.tup a),.td ps]/\AF a/\d=.bl (eW (ps.map (·.1)) a)
section
variable {G:Hp}{σ:St}{δ:List Sl}{ty:TE}{j:Nat}{ps:List (List D×D)}{key:List D}{d:D}
def bE.nl (e:bE G σ δ)(a:δ[j]?=some (.td ps)):bE G σ (δ.set j (.t ps))/\(δ.set j (.t ps))[j]?=some (.t ps):=⟨⟨by rw [Mw];exact e.len,λi s q=>by
 rcases Ms q with ⟨rfl,rfl,_⟩|⟨_,h⟩
 .exact e.get _ (.td ps) a
 .exact e.get i s h⟩,K6 (KJ.mp a).1⟩
def bE.zf (e:bE G σ δ)(a:δ[j]?=some (.td ps))(b:bM key)(h:ae ty G σ (.tup key)):ae (oO ty (aR j)) G σ (.bl (decide (key∈ps.map (·.1)))):=(e.nl a).1.vI (e.nl a).2 b h
def bE.yO (e:bE G σ δ)(a:δ[j]?=some (.td ps))(b:bM key)(h:ae ty G σ (.tup key)):ae (pH ty (aR j)) G σ (.bl (!decide (key∈ps.map (·.1)))):=(e.nl a).1.Jk (e.nl a).2 b h
def bE.Af (e:bE G σ δ)(a:δ[j]?=some (.td ps))(b:bM key)(c:cX ps key=some d)(h:ae ty G σ (.tup key)):ae (sX (aR j) ty) G σ d:=(e.nl a).1.atT (e.nl a).2 b c h
end
structure fu (pool:List D):Prop where
 len:pool.length=3\/pool.length=10
 nodup:pool.Nodup
 gp:∀x∈pool,GP x
 nb:∀x∈pool,aB x=false
def sC.k(h:sC a):fu a:=⟨.inl h.len,h.nodup,h.gp,h.nb⟩
def tM:List D:=(List.range 10).map λ(k:Nat)=>D.int (0+(k:Int))
def Hy:fu tM:=⟨.inr (by simp [tM]),Z9,λx hx=>by obtain ⟨k,_,rfl⟩:=Lg.mp hx;exact sW _,λx hx=>by obtain ⟨k,_,rfl⟩:=Lg.mp hx;rfl⟩
def F3:D->List D
 |.lst l=>l|_=>[]
def ie (ms:List Int):List D:=if ms.getD 0 0%4=3 then tM else F3 ((nv (ms.getD 1 0%1000)).getD (ms.getD 0 0/4%(4:Nat)).toNat .av)
def By (a:List Int):fu (ie a):=by
 unfold ie
 split
 .exact Hy
 .obtain ⟨d,_,c,f⟩:=fb (l:=nv (a.getD 1 0%1000)) (n:=4) (a.getD 0 0/4) Z5 rfl
  obtain ⟨b,e,g⟩:=yN (Pd (a.getD 1 0) (show (1000:Int)≠0 by decide)) d c
  rw [<-f,e]
  exact g.k
def wf:List D->D->Prop:=λds d=>∃ms:List Int,ds=[.lst (ms.map D.int)]/\d=.lst (ie ms)
def Fe {x:D}(h:x.sc=true):(!sK x&& !fX x)=false:=by
 have:=HJ h
 unfold AS at this
 revert this
 cases sK x<;>cases fX x<;>simp
end FL
namespace FL
open PySem L2
def dj:List (Str×Nat):=[("road",2),("roam",2),("kin",2),("near",2),("mark",1),("rain",0)]
def jg:List (Str×Nat):=dj++([("less",2),("unlike",2)]:List (Str×Nat))
def jX (a:List D):Prop:=∃w xs,a=D.str w::xs/\(w,xs.length)∈jg/\∀x∈xs,GP x
def mP (pool h:List D):Prop:=∃w xs,h=D.str w::xs/\(w,xs.length)∈dj/\∀x∈xs,x∈pool\/x∈cJ
def kG {w:Str}{n:Nat}(h:(w,n)∈jg):lO (.str w)/\aB (.str w)=false/\n<=2/\(decide (D.str w=.str "less")||decide (D.str w=.str "unlike"))=decide ((w,n)∉dj)/\((w,n)∉dj->n=2):=by
 simp only [jg,dj,N7,Na,KY,Lu,LO,Prod.mk.injEq] at h
 rcases h with ⟨rfl,rfl⟩|⟨rfl,rfl⟩|⟨rfl,rfl⟩|⟨rfl,rfl⟩|⟨rfl,rfl⟩|⟨rfl,rfl⟩|⟨rfl,rfl⟩|⟨rfl,rfl⟩<;>exact ⟨⟨by decide,_,_,rfl⟩,Z9,by decide,Z9,Z9⟩
def jX.at_ {a:List D}(h:jX a):lA a:=by
 obtain ⟨w,f,rfl,b,c⟩:=h
 obtain ⟨d,e,g,_⟩:=kG b
 exact DZ d e c Z6
def jX.gd(h:jX a)(b:aN a=true):∃r x y,a=[.str r,x,y]:=by
 obtain ⟨w,c,rfl,d,g⟩:=h
 obtain ⟨_,_,_,e,f⟩:=kG d
 have b:(decide (D.str w=.str "less")||decide (D.str w=.str "unlike"))=true:=b
 rw [e] at b
 have:=f (Le b)
 match c,this with
 |[x,y],_=>exact ⟨w,x,y,rfl⟩
structure dr (pool:List D)(r:cz):Prop where
 at_:∀a∈r.2,jX a
 hd:mP pool r.1
 hb:∀y∈r.1,aB y=true->∃a∈r.2,aN a=false/\y∈a
 gb:∀g∈r.2,aN g=true->∀y∈g,aB y=true->∃a∈r.2,aN a=false/\y∈a
 fc:r.2.length<=3
def br (body:List (List D)):List (List D):=body.filter λa=> !aN a
def nc{b:List (List D)}(h:∃a∈b,aN a=false/\y∈a)(c:aB y=true):y.name∈aW [] (br b):=by
 obtain ⟨a,d,e,f⟩:=h
 exact lQ (La.mpr ⟨d,by rw [e];rfl⟩) f c
def dr.bi(h:dr b r):BI (br r.2) r.2:=by
 refine ⟨rfl,λa d=>(h.at_ a d).at_,λg c e=>?_,Lk (Lv _ _) h.fc⟩
 obtain ⟨w,x,y,rfl⟩:=(h.at_ g c).gd e
 have f:=(h.at_ _ c).at_.hd
 exact ⟨⟨w,x,y,rfl⟩,C0 f (λq=>nc (h.gb _ c e x Z8 q) q) (λq=>nc (h.gb _ c e y Z8 q) q)⟩
def mP.sc(a:fu pool)(k:mP pool h):(∀x∈h,x.sc=true)/\h.length<=3:=by
 obtain ⟨w,e,rfl,b,c⟩:=k
 have f:=(kG (K9 _ b)).2.2.1
 refine ⟨λx d=>?_,by rw [Lr];omega⟩
 rcases KY.mp d with z|z
 .rw [z];rfl
 .rcases c x z with q|q
  .exact (a.gp x q).1
  .exact (qH x q).1
def jR(h:(w,2)∈jg)(a:GP x)(b:GP y):jX [.str w,x,y]:=⟨w,[x,y],rfl,h,by simp [a,b]⟩
def DP(h:(w,1)∈jg)(a:GP x):jX [.str w,x]:=⟨w,[x],rfl,h,by simp [a]⟩
def eU{a:List D}(h:(w,2)∈dj)(b:x∈a\/x∈cJ)(c:y∈a\/y∈cJ):mP a [.str w,x,y]:=⟨w,[x,y],rfl,h,by simp [b,c]⟩
def wJ{a:List D}(h:(w,1)∈dj)(b:x∈a\/x∈cJ):mP a [.str w,x]:=⟨w,[x],rfl,h,by simp [b]⟩
def kC:mP a [.str "rain"]:=⟨"rain",[],rfl,by simp [dj],by simp⟩
def vJ (one two:D)(l r h:List D)(u v:D):List cz:=[
 ([.str "roam",.str "X",.str "Xy"],[[.str "road",.str "X",.str "Xy"]]),
 ([.str "roam",.str "X",.str "Z"],[[.str "roam",.str "X",.str "Xy"],[.str "road",.str "Xy",.str "Z"]]),
 ([.str "mark",.str "Xy"],[[.str "mark",.str "X"],[.str "road",.str "X",.str "Xy"]]),
 ([.str "kin",.str "Xy",.str "X"],[[.str "kin",.str "X",.str "Xy"]]),
 ([.str "near",.str "X",.str "Xy"],[[.str "road",.str "X",.str "Z"],[.str "unlike",.str "X",.str "Xy"],[.str "road",.str "Xy",.str "Z"]]),
 ([.str "rain"],[[.str "mark",one],[.str "roam",.str "X",.str "X"]]),
 ([.str "roam",.str "X",.str "Z"],[[.str "roam",.str "X",.str "Xy"],[.str "roam",.str "Xy",.str "Z"]]),
 ([.str "mark",two],[[.str "rain"]]),
 ([.str "kin",.str "X",.str "Z"],[[.str "kin",.str "X",.str "Xy"],[.str "kin",.str "Xy",.str "Z"],[.str "unlike",.str "X",.str "Z"]]),
 ([.str "road",.str "X",.str "Xy"],[[.str "less",.str "X",.str "Xy"],[.str "kin",.str "X",.str "Xy"]]),
 ([.str "kin",.str "X",one],[[.str "mark",.str "X"],[.str "less",two,.int 3]]),
 ([.str "mark",one],[[.str "less",.int 0,.int 1]]),
 (h,[l,r]),
 (h,[l,[.str "less",u,v],r])]
def wb(h:w∈(["road","roam","kin","near","mark","rain","less","unlike"]:List Str)):aB (.str w)=false:=by
 simp only [KY,Lu,LO] at h
 rcases h with rfl|rfl|rfl|rfl|rfl|rfl|rfl|rfl<;>decide+kernel
def wg:aN (.str w::a)=(decide (w="less")||decide (w="unlike")):=by
 unfold aN
 simp
def pX:a∈a::l:=KN
def il{a:c}:b∈a::b::l:=KG _ pX
def jl{a:d}:c∈a::b::c::l:=KG _ il
def gQ:List Str:=["road","roam","kin"]
def IG(s:fu b)(E:f∈b)(G:g∈b)(L:k∈gQ)(M:l∈gQ)(N:C∈gQ)(O:∀x∈[i,c,d,j],x∈b\/x∈cJ)(gh:∀x∈[o,q],x∈[i,c,d,j]):
  ∀r∈vJ f g [.str k,i,c] [.str l,d,j] [.str C,o,q] c d,dr b r:=by
 have Q:=s.gp f E
 have T:=s.gp g G
 have n1:=s.nb f E
 have n2:=s.nb g G
 have n:∀x∈[i,c,d,j],GP x:=λx H=>(O x H).elim (s.gp x) (qH x)
 have b1:=wb (w:="road") Z8
 have b2:=wb (w:="roam") Z8
 have b3:=wb (w:="kin") Z8
 have b4:=wb (w:="near") Z8
 have b5:=wb (w:="mark") Z8
 have b6:=wb (w:="rain") Z8
 have b7:=wb (w:="less") Z8
 have b8:=wb (w:="unlike") Z8
 have U:∀w∈gQ,(w,2)∈dj/\aB (.str w)=false/\¬w="less"/\¬w="unlike":=λw hw=>by
  simp only [gQ,KY,Lu,LO] at hw
  rcases hw with rfl|rfl|rfl
  .exact ⟨by simp [dj],b1,by decide,by decide⟩
  .exact ⟨by simp [dj],b2,by decide,by decide⟩
  .exact ⟨by simp [dj],b3,by decide,by decide⟩
 obtain ⟨Y,aj,t,u⟩:=U k L
 obtain ⟨ac,am,v,y⟩:=U l M
 obtain ⟨af,an,ao,as⟩:=U C N
 have lB:∀{p:Str×Nat},p∈dj->p∈jg:=λh=>K9 _ h
 have A:=gh o Z8
 have B:=gh q Z8
 have xX:D.str "X"∈cJ:=by simp [cJ]
 have xY:D.str "Xy"∈cJ:=by simp [cJ]
 have xZ:D.str "Z"∈cJ:=by simp [cJ]
 have A0:jX [.str "rain"]:=⟨"rain",[],rfl,by simp [jg,dj],by simp⟩
 have hl:=jR (lB Y) (n i Z8) (n c Z8)
 have hr:=jR (lB ac) (n d Z8) (n j Z8)
 have hg:jX [.str "less",c,d]:=jR (by simp [jg]) (n c Z8) (n d Z8)
 have hh:mP b [.str C,o,q]:=eU af (O o A) (O q B)
 have e:∀{m:List (List D)},[D.str k,i,c]∈m->[D.str l,d,j]∈m->∀x∈[i,c,d,j],∃a∈m,aN a=false/\x∈a:=λ{m} m1 m2 x H=>by
  have I:aN [D.str k,i,c]=false:=by rw [wg];simp [t,u]
  have J:aN [D.str l,d,j]=false:=by rw [wg];simp [v,y]
  simp only [KY,Lu,LO] at H
  rcases H with rfl|rfl|rfl|rfl
  .exact ⟨_,m1,I,by simp⟩
  .exact ⟨_,m1,I,by simp⟩
  .exact ⟨_,m2,J,by simp⟩
  .exact ⟨_,m2,J,by simp⟩
 have no:∀{x:D} {p:Prop},aB x=false->aB x=true->p:=λh z=>by rw [h] at z;cases z
 have I:¬aN [D.str k,i,c]=true:=by rw [wg];simp [t,u]
 have J:¬aN [D.str l,d,j]=true:=by rw [wg];simp [v,y]
 intro r hm
 simp only [vJ,KY,Lu,LO] at hm
 rcases hm with rfl|rfl|rfl|rfl|rfl|rfl|rfl|rfl|rfl|rfl|rfl|rfl|rfl|rfl
 all_goals refine ⟨?_,?_,?_,?_,by simp⟩
 all_goals dsimp only
 all_goals first
  |exact hh
  |exact kC
  |(refine eU (by simp [dj]) ?_ ?_<;>simp [cJ,E,G])
  |(refine wJ (by simp [dj]) ?_<;>simp [cJ,E,G])
  |skip
 all_goals simp only [List.forall_mem_cons,Lu,false_imp_iff,implies_true,and_true]
 all_goals repeat' apply And.intro
 all_goals first
  |exact hl
  |exact hr
  |exact hg
  |exact A0
  |exact jR (by simp [jg,dj]) (by first|exact tP|exact sL|exact tF|exact sW _|exact Q|exact T) (by first|exact tP|exact sL|exact tF|exact sW _|exact Q|exact T)
  |exact DP (by simp [jg,dj]) (by first|exact tP|exact sL|exact tF|exact Q|exact T)
  |exact no (by first|assumption|rfl)
  |exact λ_=>⟨_,pX,by rw [wg];decide+kernel,il⟩
  |exact λ_=>⟨_,pX,by rw [wg];decide+kernel,jl⟩
  |exact λ_=>⟨_,il,by rw [wg];decide+kernel,il⟩
  |exact λ_=>⟨_,il,by rw [wg];decide+kernel,jl⟩
  |exact λ_=>⟨_,jl,by rw [wg];decide+kernel,il⟩
  |exact λ_=>⟨_,jl,by rw [wg];decide+kernel,jl⟩
  |exact λ_=>e Z8 Z8 _ A
  |exact λ_=>e Z8 Z8 _ B
  |exact λz=>absurd z I
  |exact λz=>absurd z J
  |(intro z;rw [wg] at z;exact absurd z Z9)
  |skip
 all_goals intro _
 all_goals repeat' apply And.intro
 all_goals first
  |exact no (by first|assumption|rfl)
  |exact λ_=>⟨_,pX,by rw [wg];decide+kernel,il⟩
  |exact λ_=>⟨_,pX,by rw [wg];decide+kernel,jl⟩
  |exact λ_=>⟨_,il,by rw [wg];decide+kernel,il⟩
  |exact λ_=>⟨_,il,by rw [wg];decide+kernel,jl⟩
  |exact λ_=>⟨_,jl,by rw [wg];decide+kernel,il⟩
  |exact λ_=>⟨_,jl,by rw [wg];decide+kernel,jl⟩
  |exact λ_=>e Z8 Z8 _ Z8
def jW (w:Str)(xs:List D):cz:=(.str w::xs,[])
def vG{c:List D}(f:fu b)(h:(w,c.length)∈dj)(e:∀x∈c,x∈b):dr b (jW w c):=by
 refine ⟨(λa d=>nomatch d),⟨w,c,rfl,h,λx q=>.inl (e x q)⟩,λy g q=>?_,(λa d=>nomatch d),Ll _⟩
 rcases KY.mp g with z|z
 .rw [z,(kG (K9 _ h)).2.1] at q;cases q
 .rw [f.nb y (e y z)] at q;cases q
def vm:∀{a:List D},bM a->D.fq a=0
 |[],_=>by simp [D.fq]
 |x::r,h=>by
  have b:=h x KN
  have c:=vm (a:=r) λy d=>h y (KG _ d)
  rw [D.fq,c]
  cases x<;>first|rfl|(simp [D.sc] at b)
def ui:∀{l m:List (List D)},(∀a∈l,bM a)->(∀a∈m,bM a)->f7 (l.map D.tup) (m.map D.tup)=true/\D.fq (l.map D.tup)<=1
 |[],m,_,_=>⟨by simp [f7],by simp [D.fq]⟩
 |a::l,m,h,k=>by
  have d:=h a KN
  have e:D.fq ((a::l).map D.tup)<=1:=by
   rw [LB,D.fq,D.cS,vm d]
   exact Nat.max_le.mpr ⟨KR _,(ui (l:=l) (m:=[]) (λx c=>h x (KG _ c)) (λx c=>nomatch c)).2⟩
  cases m with
  |nil=>exact ⟨by simp [f7],e⟩
  |cons b m=>
   refine ⟨?_,e⟩
   rw [LB,LB,f7,(nu d (k b KN)).1]
   exact (ui (l:=l) (m:=m) (λx c=>h x (KG _ c)) (λx c=>k x (KG _ c))).1
def C2 {r s:cz}(b:bM r.1)(c:∀a∈r.2,bM a)(d:bM s.1)(e:∀a∈s.2,bM a):cn (bf r) (bf s)=true/\(bf r).cS<=40:=by
 obtain ⟨f,g⟩:=ui c e
 unfold bf c8
 refine ⟨?_,?_⟩
 .rw [cn,f7,(nu b d).1,f7,cn,f]
  simp [f7]
 .rw [D.cS,D.fq,D.cS,vm b,D.fq,D.cS,D.fq]
  simp only [Nat.max_def]
  split<;>split<;>omega
def dr.sc(b:fu pool)(h:dr pool r):bM r.1/\∀a∈r.2,bM a:=⟨(h.hd.sc b).1,λa c x d=>((h.at_ a c).at_.ok x d).1⟩
def Cu {r:cz}(c:bM r.1)(d:∀a∈r.2,bM a):(bf r).fB=true:=qG λx b=>by
 simp only [KY,Lu,LO] at b
 rcases b with rfl|rfl
 .exact gN c
 .exact qG λy e=>by
   obtain ⟨a,f,rfl⟩:=Lg.mp e
   exact gN (d a f)
def um:cz:=([.str "mark",.str "Xy"],[[.str "mark",.str "X"],[.str "road",.str "X",.str "Xy"]])
def vx (pool:List D)(r:cz):Prop:=r=um\/(∃x∈pool,∃y∈pool,r=jW "road" [x,y])\/∃x∈pool,r=jW "mark" [x]
structure oE (pool:List D)(rs:List cz):Prop where
 ok:∀r∈rs,dr pool r
 Cv:pool.length=10->∀r∈rs,vx pool r
 nd:rs.Nodup
def oE.snoc(h:oE c d)(g:dr c r)(i:c.length=10->vx c r)(j:r∉d):oE c (d++[r]):=by
 refine ⟨λx f=>?_,λe x f=>?_,?_⟩
 .rcases Ld.mp f with z|z
  .exact h.ok x z
  .rw [Li.mp z];exact g
 .rcases Ld.mp f with z|z
  .exact h.Cv e x z
  .rw [Li.mp z];exact i e
 .rw [Nr]
  exact ⟨h.nd,by simp,λa k b l e=>j (by rw [Li.mp l] at e;rw [<-e];exact k)⟩
def xg (ds:List D):Prop:=∃seed pool a b c,ds=[.int seed,.lst pool,.int a,.int b,.int c]/\fu pool
def Cb (ds:List D)(d:D):Prop:=∃seed pool a b c,∃rs:List cz,ds=[.int seed,.lst pool,.int a,.int b,.int c]/\d=.lst (rs.map bf)/\rs.length=14/\(∀r∈rs,dr pool r)/\rs[2]?=some um
def BV (ds:List D):Prop:=∃ms:List Int,ds=[.lst (ms.map D.int)]/\ms.length<=1000
def Ba (ds:List D)(d:D):Prop:=∃(ms:List Int) (rs:List cz),ds=[.lst (ms.map D.int)]/\d=.lst (rs.map bf)/\oE (ie ms) rs/\rs.length<=30
theorem Kp {xs:List V}(k n:Nat):gL xs (some (k:Int)) (some ((k+n:Nat):Int))=(xs.drop k).take n:=by
 unfold gL
 rw [HT.oW,HT.oW]
 by_cases h:k<=xs.length
 ·rw [Nat.min_eq_left h]
  by_cases h2:k+n<=xs.length
  ·rw [Nat.min_eq_left h2,Nat.add_sub_cancel_left]
  ·rw [Nat.min_eq_right (by omega),take_of_length_le (by simp),take_of_length_le (by rw [List.length_drop];omega)]
 ·rw [Nat.min_eq_right (show xs.length<=k by omega),List.drop_of_length_le (Nat.le_refl _),List.drop_of_length_le (by omega),List.take_nil,List.take_nil]
def Kw{K:PySem.W.Frag}{k n m:Nat}(g:m=k+n)(h:ae c G b (.lst l)):ae (vQ (AJ K) c (sP (tC (.int (k:Int)))) (sP (tC (.int (m:Int))))) G b (.lst ((l.drop k).take n)):=
 λM H s d Q q=>h M H s d _ λx t e i=>⟨(k:Int),rfl,(m:Int),rfl,by
  obtain ⟨a,j,rfl,o,r⟩:=i.eA
  refine ⟨a,j,rfl,aO.of (ax o).2,λp f=>?_⟩
  rw [g,Kp]
  exact q _ _ (e.trans (cG f _)) (nZ (d.same e) f ((r.drop k).take n))⟩
end FL
namespace FL
open PySem L2
section
variable {B:Hp}{M0:List Addr}{δ:List Sl}{E:Ends}{te:TE}{d1 d2:D}
def zq{K:PySem.W.Frag}(h:∀G a,aA G a (δ.map Sl.dat)->ae te G a (.tup [d1,d2]))(k:aU B M0 ((δ.set i (.d d1)).set i' (.d d2)) E.nx):aU B M0 δ (dW te (mY K 2 (jJ (ci i) (jJ (ci i') ph))) E):=λc a H b=>
 (h _ a b.ki).at b.iN λv e s r=>nH r λj l f g=>k c _ e (((b.grow s).set i f).set i' g)
def dm.Jp(d:n<=1000)(h:∀G c,bE G c δ->dI t G c [.int 1,.int ((n+1:Nat):Int)]):dm B M0 δ (uQ t) ((List.range n).map λ(k:Nat)=>D.int (1+k)):=by
 have:=dm.Gy (B:=B) (M0:=M0) (a:=1) (b:=((n+1:Nat):Int)) ⟨by decide,by decide⟩ ⟨by omega,by omega⟩ h
 rw [show (((n+1:Nat):Int)-1).toNat=n by omega] at this
 exact this
end
structure uC (pool:List D)(rules:List cz)(facts:List (List D))(x:ef)(r:cz)(V:Str->D):Prop where
 at_:rules[x.2.1]?=some r
 rk:dr pool r
 pk:fu pool
 KD:fx facts V (br r.2) x.2.2
 sc:∀b∈aW [] (br r.2),(V b).sc=true
 gs:O5.gq (r.2.filter aN) (aq V (aW [] (br r.2)))=true
 hd:x.1=r.1.map (a6 V)
 fd:mK x.1
def y6:List D->D->Prop:=λds d=>∃(x:ef) (pool:List D) (rules:List cz) (facts:List (List D)) (r:cz) (V:Str->D),ds=[dM x,.lst (rules.map bf),cv facts]/\uC pool rules facts x r V/\d=.bl true
def fW (a:List D):List Str:=((a.tail.filter aB).map D.name)
def IQ {c:List (List D)}:cp (c.flatMap fW):=λb d=>by
 obtain ⟨a,_,h⟩:=Mb.mp d
 obtain ⟨x,e,rfl⟩:=Lg.mp h
 have:=(La.mp e).2
 rw [<-gT this];exact this
def FA{b:List (List D)}(d:a∈b)(e:aB (a.headD .av)=false)(c:x∈a)(h:aB x=true):x.name∈b.flatMap fW:=by
 refine Mb.mpr ⟨a,d,Lg.mpr ⟨x,La.mpr ⟨?_,h⟩,rfl⟩⟩
 cases a with
 |nil=>cases c
 |cons y r=>
  rcases KY.mp c with z|z
  .have:aB y=false:=e
   rw [z,this] at h;cases h
  .exact z
def Cq (V:Str->D)(L:List Str)(n:Str):aq V L++[(n,V n)]=aq V (L++[n]):=by unfold aq;rw [Lq];rfl
def DN {b c:Type}(f:b->List c){l:List b}{j:Nat}{a:b}(h:l[j]?=some a):(l.take (j+1)).flatMap f=(l.take j).flatMap f++f a:=by
 rw [LG,h,NQ]
 simp
def Dv {a:List D}{j:Nat}{x:D}(h:a[j]?=some x):((a.take (j+1)).filter aB).map D.name=((a.take j).filter aB).map D.name++(if aB x=true then [x.name] else []):=by
 rw [LG,h,Me,Lq]
 congr 1
 by_cases e:aB x=true
 .simp [e]
 .simp [e]
def HR {as:List (List D)}(h:∀a∈as,a.length<=10):(as.flatMap fW).length<=10*as.length:=by
 induction as with
 |nil=>simp
 |cons a r b=>
  have d:=b λx c=>h x (KG _ c)
  have e:=h a KN
  have f:(fW a).length<=10:=by
   unfold fW
   rw [KP]
   exact Lk (Lv _ _) (by rw [List.length_tail];omega)
  rw [MA,Lh,Lr]
  omega
def qD{V:Str->D}(h:aB x=true):a6 V x=V x.name:=by unfold a6;rw [K4 h]
end FL
namespace FL
open PySem L2
section
variable {B:Hp}{M0 own:List Addr}{σ:St}{H:Hp}{δ:List Sl}{E:Ends}{te:TE}{d:D}
def Bx.free (b:Bx B M0 own σ H δ)(h:∀s∈δ,s.own=false):Bx B M0 [] σ H δ:=by
 refine ⟨b.len,b.same,b.gr,(λa e=>nomatch e),λi s q=>?_,λi j s t a _ f _ c _ _ _=>?_⟩
 .have w:=b.wide.get i s q
  have:=h s (KU q)
  cases s with
  |no=>trivial
  |d x=>exact w
  |kd x=>exact w
  |td x=>exact w
  |l x=>cases this
  |k x=>cases this
  |t x=>cases this
 .rw [h s (KU f)] at c;cases c
def Kb(a:∀s∈δ,s.own=false)(h:∀G σ,bE G σ δ->ae te G σ d)(k:aU B M0 (δ.set i (.d d)) E.nx):aU B M0 δ (dW te (ci i) E):=λown σ H b=>
 (h _ σ (b.free a).wide).at (b.free a).live λv c s r=>k [] _ c (((b.free a).grow s).set i r)
end
def eI (facts:List (List D)):List (List D×D):=facts.zipIdx.map λp=>(p.1,D.int ((p.2:Nat):Int))
def oM (a:List (List D)):(eI a).map (·.1)=a:=by
 unfold eI
 rw [LH]
 exact List.zipIdx_map_fst 0 a
def Ji{b:List (List D)}(h:f∈b):cX (eI b) f=some (.int ((b.idxOf f:Nat):Int)):=by
 have c:∀(l:List (List D)) (n:Nat),f∈l->cX ((l.zipIdx n).map λp=>(p.1,D.int ((p.2:Nat):Int))) f=some (.int ((n+l.idxOf f:Nat):Int)):=by
  intro l
  induction l with
  |nil=>intro n h;cases h
  |cons a l i=>
   intro n h
   rw [OK,LB]
   by_cases e:a=f
   .subst e
    simp [cX]
   .have j:f∈l:=by
     rcases KY.mp h with z|z
     .exact absurd z.symm e
     .exact z
    have k:∀(d:D) (g:List (List D×D)),cX ((a,d)::g) f=cX g f:=λd g=>by simp [cX,LY,e]
    rw [k,i (n+1) j,List.idxOf_cons,show (a==f)=false by simpa using e,cond_false]
    congr 3
    omega
 have:=c b 0 h
 rw [M8] at this
 exact this
def FW (a:List (List D))(f:List D):eI (a++[f])=eI a++[(f,.int ((a.length:Nat):Int))]:=by
 unfold eI
 rw [OA,Lq]
 simp
def cy (k:Nat)(places:List Nat):List Int:=(k:Int)::places.map λn=>((n:Nat):Int)
structure xO (pool:List D)(rules:List cz)(facts:List (List D))(there:List (List D×D)):Prop where
 pk:fu pool
 rk:∀r∈rules,dr pool r
 fc:rules.length<=100
 th:∀p∈there,∃q:List Int,p.2=.lst (q.map D.int)
 key:∀(k:Nat) (r:cz) (c:aP),rules[k]?=some r->c∈dE pool (aW [] r.2) [[]]->n0 facts r.2 c=true->(cw c r.1∈there.map (·.1)\/cw c r.1∈facts)/\∀q:List Int,cX there (cw c r.1)=some (.lst (q.map D.int))->lu (cy k ((br r.2).map fun a=>facts.idxOf (cw c a))) q false
def x8:List Sl->D->Prop:=λss d=>∃pool rules facts there,ss=[.d (.lst (rules.map bf)),.d (.lst pool),.td (eI facts),.td there]/\xO pool rules facts there/\d=.bl true
def yA{b:List (List D×D)}(h:a∈b.map (·.1)):∃d,cX b a=some d/\(a,d)∈b:=by
 have:=ml a b
 rw [Ln h] at this
 unfold cX at this⊢
 cases e:b.find? λp=>decide (p.1=a) with
 |none=>rw [e] at this;cases this
 |some p=>
  have c:=List.find?_some e
  have c:p.1=a:=Le c
  exact ⟨p.2,rfl,by rw [<-c];exact List.mem_of_find?_eq_some e⟩
def Kf {d:List (List D)}(g:∀a∈d,lA a):(aW [] d).length<=3:=by
 have i:∀b∈(aW [] d).map D.str,b∈cJ:=λb j=>by
  obtain ⟨c,k,rfl⟩:=Lg.mp j
  exact (Ks g k).1
 have h:=vo (DK (f:=D.str) (xa (as:=d) NI) λx _ y _ e=>by injection e) i
 rw [KP] at h
 exact h
def F4(h:n0 b d c=true)(i:a∈br d)(e:a≠[]):cw c a∈b:=by
 obtain ⟨j,k⟩:=La.mp i
 have f:=Nk.mp h a j
 have g:aN (cw c a)=false:=by rw [zu e];simpa using k
 unfold aN at g
 rw [Nl] at g
 unfold eW at f
 rw [KS (LQ g.2),KS (LQ g.1)] at f
 exact Le f
end FL
namespace FL
open PySem PySem.Spec L2
section
variable {X:Cx}{pins:List (Addr×Obj)}{σ:St}{H:Hp}{s:Shared}{A:Around}{E:Value->Shared->Prop}{Q:Value->Shared->Prop}{b:Bool}
def F5{its:List Value}(I:Inv X pins σ H s)(f:RelV x u)(r:al (but H M) x d)(c:s.heap.get? l=some ⟨.type "tuple",m,.seq its.toArray n,v⟩)(e:PySem.W.kitAny X.K (.type d.pp) its=some b)(h:∀B,Q (.bool b) {s with toks:=B}):
  wpAny (model X.prog X.w) A (call (.builtin "isinstance") [u,.ref l]) Q E s:=by
 cases r with
 |av=>cases (show u=Value.none from f);exact Nd PySem.W.kitx_none I.cZ True.intro c e (λz=>nomatch z) h
 |bl y=>cases (show u=Value.bool y from f);exact Nd PySem.W.kitx_bool I.cZ True.intro c e (λz=>nomatch z) h
 |int i=>obtain ⟨t,q⟩:=(show∃t,u=Value.int i t from f);cases q;exact Nd PySem.W.kitx_int I.cZ True.intro c e (λz=>nomatch z) h
 |str y=>obtain ⟨t,q⟩:=(show∃t,u=Value.str y t from f);cases q;exact Nd PySem.W.kitx_str I.cZ True.intro c e (λz=>nomatch z) h
 |@tup a g _ j _=>
  cases (show u=Value.ref a from f)
  obtain ⟨_,_,_,p⟩:=(show bP X.prog X.w H s.heap a (.tup g) from I.aw a _ (ax j).2)
  obtain ⟨o,k,C,_⟩:=p
  exact Nd PySem.W.kitx_tuple I.cZ ⟨o,k,C⟩ c e (λz=>nomatch z) h
 |@lst a g _ j _=>
  cases (show u=Value.ref a from f)
  obtain ⟨_,_,n,_,k⟩:=(show bP X.prog X.w H s.heap a (.lst g) from I.aw a _ (ax j).2)
  exact Nd OG I.cZ ⟨_,k,rfl⟩ c e (λz=>nomatch z) h
end
def vD:List V->Hp->VK->Prop:=λxs H Q=>∃(M:List Addr) (d:D) (x:V) (p:Addr) (n m:String) (b:Bool),xs=[x,.ref p]/\al (but H M) x d/\H p=some (.tup [.ty n,.ty m])/\PySem.W.kitAny [] (.type d.pp) [.type n,.type m]=some b/\Q (.bl b) H
def Kr:h9 X (.builtin "isinstance") vD:=by
 intro f s G H J L Q I r h
 obtain ⟨M,d,x,p,n,m,b,rfl,g,i,e,q⟩:=h
 obtain ⟨u,w,rfl,j,a⟩:=vals2 r
 cases (show w=.ref p from a)
 obtain ⟨_,l,o,⟨c,N,t,O⟩,v,y,k,z⟩:=(show bP X.prog X.w H s.heap p (.tup [.ty n,.ty m]) from I.aw p _ i)
 obtain ⟨A,B,rfl,C,E⟩:=vals2 o
 cases (show A=.type n from C)
 cases (show B=.type m from E)
 cases (show c=.type "tuple" from y)
 cases (show t=.seq #[.type n,.type m] k from z)
 exact F5 (its:=[.type n,.type m]) I j g v (show PySem.W.kitAny X.K (.type d.pp) [.type n,.type m]=some b from e) λT=>⟨.bl b,H,I.tok _,rfl,q⟩
def CO{X:Cx}(B:Bl X.mg)(h:PE X e q)(s:X.mg x=none)(t:bootBuiltins x=some (.type n))(u:X.mg y=none)(i:bootBuiltins y=some (.type m))(w:Gl X "isinstance":=by rfl)(j:Gl X x:=by rfl)(k:Gl X y:=by rfl)(z:x≠"__name__":=by decide)(A:(x==("__debug__":Str))=false:=by decide)(l:y≠"__name__":=by decide)(eU:(y==("__debug__":Str))=false:=by decide)
  (r:starEach [e,.Tuple [.Name x c,.Name y a] d b] X.env=(false,eval e X.env)::starEach [.Tuple [.Name x c,.Name y a] d b] X.env:=by rfl) (f:starEach [.Tuple [.Name x c,.Name y a] d b] X.env=(false,eval (.Tuple [.Name x c,.Name y a] d b) X.env)::starEach [] X.env:=by rfl)
  (C:starEach [.Name x c,.Name y a] X.env=(false,eval (.Name x c) X.env)::starEach [.Name y a] X.env:=by rfl) (o:starEach [.Name y a] X.env=(false,eval (.Name y a) X.env)::starEach [] X.env:=by rfl):
  PE X (.Call (.Name "isinstance" p) [e,.Tuple [.Name x c,.Name y a] d b] [] g) (cH vD (bb q (bb (m8 (bb (tC (.ty n)) (bb (tC (.ty m)) bv))) bv))):=
 p6 Kr w B.isinstance Oe (ah h (ah (dy (ah (ue (v:=.ty n) j s t rfl z A) (ah (ue (v:=.ty m) k u i rfl l eU) ap o) C)) ap f) r) (he:=r) (hpl:=by rw [f];rfl)
def CD(h:ae b G a d):ae (cH vD (bb b (bb (m8 (bb (tC (.ty "list")) (bb (tC (.ty "tuple")) bv))) bv))) G a (.bl (Bo d||zr d)):=
 λM H s l Q k=>h M H s l _ λx g e f=>⟨by decide,λp c=>⟨M,d,x,p,"list","tuple",_,rfl,f.mono ((cG c _).but M),aK,by cases d<;>rfl,k _ _ (e.trans (cG c _)) (.bl _)⟩⟩
mutual
def D.plain:D->Bool
 |.int _=>true
 |.str _=>true
 |.tup l=>D.dz l
 |.lst l=>D.dz l
 |_=>false
def D.dz:List D->Bool
 |[]=>true
 |a::r=>D.plain a&&D.dz r
end
mutual
def D.sz:D->Nat
 |.tup l=>D.cV l+1
 |.lst l=>D.cV l+1
 |_=>1
def D.cV:List D->Nat
 |[]=>0
 |a::r=>D.sz a+D.cV r
end
def uT:∀(l m:List D),D.dz (l++m)=(D.dz l&&D.dz m)
 |[],m=>by simp [D.dz]
 |a::r,m=>by rw [N7,D.dz,uT r m,D.dz,Bool.and_assoc]
def qp:∀(l m:List D),D.cV (l++m)=D.cV l+D.cV m
 |[],m=>by simp [D.cV]
 |a::r,m=>by rw [N7,D.cV,qp r m,D.cV,Nat.add_assoc]
def xt (d:D):1<=d.sz:=by cases d<;>simp [D.sz]
def rj:∀l:List D,l.length<=D.cV l
 |[]=>Ll _
 |a::r=>by
  have:=rj r
  have:=xt a
  rw [D.cV,Lr]
  omega
def Dw {d:D}(h:d.sc=true):d.plain=true/\d.sz=1:=by
 cases d with
 |int _=>exact ⟨by simp [D.plain],by simp [D.sz]⟩
 |str _=>exact ⟨by simp [D.plain],by simp [D.sz]⟩
 |_=>simp [D.sc] at h
def wc:∀{l:List D},bM l->D.dz l=true/\D.cV l=l.length
 |[],_=>⟨by simp [D.dz],by simp [D.cV]⟩
 |a::r,h=>by
  obtain ⟨b,c⟩:=Dw (h a KN)
  obtain ⟨d,e⟩:=wc (l:=r) λx f=>h x (KG _ f)
  rw [D.dz,D.cV,b,c,d,e,Lr]
  exact ⟨rfl,Pb _ _⟩
def xN:List D->D->Prop:=λds d=>∃x,ds=[x,x]/\x.plain=true/\x.sz<=10000/\d=.bl true
def Fm {d:D}(h:d.plain=true):decide (d=.av)=false/\vL d=false:=by
 cases d with
 |av=>simp [D.plain] at h
 |bl _=>simp [D.plain] at h
 |_=>exact ⟨by simp,rfl⟩
end FL
namespace FL
open PySem L2
def gw (pool f:List D):Prop:=∃w xs,f=D.str w::xs/\(w,xs.length)∈dj/\∀x∈xs,x∈pool
structure wN (pool:List D)(facts:List (List D)):Prop where
 hd:∀f∈facts,gw pool f
 nd:facts.Nodup
 fc:facts.length<=150
def gw.flat(d:fu a)(h:gw a f):jq f/\f8 f/\mK f:=by
 obtain ⟨w,c,rfl,j,e⟩:=h
 have g:∀x∈c,x.sc=true:=λx b=>(d.gp x (e x b)).1
 have i:bM (D.str w::c):=λx b=>by
  rcases KY.mp b with z|z
  .rw [z];rfl
  .exact g x z
 refine ⟨⟨(λz=>nomatch z),i⟩,⟨i,λx b=>?_⟩,⟨w,c,rfl,g⟩⟩
 rcases KY.mp b with z|z
 .rw [z];exact (kG (K9 _ j)).2.1
 .exact d.nb x (e x z)
def tI (pool:List D):List (List D):=((["road","roam","kin","near"]:List Str).flatMap λw=>pool.flatMap λx=>pool.map λy=>[D.str w,x,y])++(pool.map λx=>[D.str "mark",x])++[[D.str "rain"]]
def uY(f:b->List c):∀l:List b,(∀x∈l,(f x).length=n)->(l.flatMap f).length=l.length*n
 |[],_=>by simp
 |a::r,h=>by
  rw [MA,Lh,h a KN,uY f r λx d=>h x (KG _ d),Lr,Pa,Pb]
def Jt {a:List D}(h:a.length<=10):(tI a).length<=411:=by
 unfold tI
 rw [Lh,Lh,KP,uY (n:=a.length*a.length) _ _ λw _=>uY (n:=a.length) _ _ λx _=>by rw [KP]]
 have:a.length*a.length<=10*10:=Nat.mul_le_mul h h
 show 4*_+_+1<=411
 omega
def gw.mem(h:gw a f):f∈tI a:=by
 obtain ⟨w,d,rfl,g,c⟩:=h
 have b:w∈(["road","roam","kin","near"]:List Str)->d.length=2->D.str w::d∈tI a:=λi j=>by
  match d,j,c with
  |[x,y],_,c=>exact K9 _ (K9 _ (Mb.mpr ⟨w,i,Mb.mpr ⟨x,c x Z8,Lg.mpr ⟨y,c y Z8,rfl⟩⟩⟩))
 simp only [dj,KY,Lu,LO,Prod.mk.injEq] at g
 rcases g with ⟨rfl,e⟩|⟨rfl,e⟩|⟨rfl,e⟩|⟨rfl,e⟩|⟨rfl,e⟩|⟨rfl,e⟩
 .exact b Z8 e
 .exact b Z8 e
 .exact b Z8 e
 .exact b Z8 e
 .match d,e,c with
  |[x],_,c=>exact K9 _ (KW _ (Lg.mpr ⟨x,c x Z8,rfl⟩))
 .match d,e with
  |[],_=>exact KW _ Z8
def Ds {pool:List D}{r:cz}{facts:List (List D)}(hr:dr pool r)(hF:∀f∈facts,gw pool f){w:aJ}(hw:w∈iU r.2 facts):
  ∃V,w.1=aq V (aW [] (br r.2))/\fx facts V (br r.2) w.2/\O5.gq (r.2.filter aN) (aq V (aW [] (br r.2)))=true/\bm r.1 w=r.1.map (a6 V)/\(∀b∈aW [] (br r.2),V b∈pool)/\gw pool (bm r.1 w):=by
 obtain ⟨V,e,hf,hg⟩:=hr.bi.mem hw
 rw [e] at hg
 have hV:∀b∈aW [] (br r.2),V b∈pool:=λb hb=>by
  rcases Bh hb with z|⟨a,ha,x,hx,hx1,rfl⟩
  .cases z
  .obtain ⟨wd,xs,e1,_,hx2⟩:=hF _ (Ex hf a ha)
   have A:=(hr.at_ a (La.mp ha).1).at_
   cases a with
   |nil=>cases hx
   |cons y l=>
    have hy:aB y=false:=A.hd
    rcases KY.mp hx with z|z
    .rw [z,hy] at hx1;cases hx1
    .rw [LB] at e1
     injection e1 with _ e2
     exact hx2 (V x.name) (by rw [<-e2];exact Lg.mpr ⟨x,z,qD hx1⟩)
 have hh:bm r.1 w=r.1.map (a6 V):=by
  unfold bm
  rw [e]
  exact Ly λx hx=>jK (iV eZ) λq=>nc (hr.hb x hx q) q
 obtain ⟨wd,xs,e1,h1,h2⟩:=hr.hd
 have hwd:=(kG (K9 _ h1)).2.1
 refine ⟨V,e,hf,hg,hh,hV,wd,xs.map (a6 V),?_,by rw [KP];exact h1,λx hx=>?_⟩
 .rw [hh,e1,LB]
  congr 1
  unfold a6
  rw [KS (by rw [hwd];exact K0)]
 .obtain ⟨y,hy,rfl⟩:=Lg.mp hx
  by_cases q:aB y=true
  .rw [qD q]
   exact hV _ (nc (hr.hb y (by rw [e1];exact KG _ hy) q) q)
  .unfold a6
   rw [KS q]
   rcases h2 y hy with z|z
   .exact z
   .exact absurd (by rw [(qH y z).2.2];exact Ln z) q
def Bt:∀(b:List (List D)) (B:List Str) (W:List (List D)),(cL b B W).length=b.length/\∀s∈cL b B W,s.cW∈b/\s.of=[]
 |[],_,_=>⟨rfl,λs c=>nomatch c⟩
 |a::r,B,W=>by
  obtain ⟨e,d⟩:=Bt r (ak B a) (W.filter λg=> !ck g (ak B a))
  refine ⟨by rw [cL,Lr,e,Lr],λs c=>?_⟩
  rw [cL] at c
  rcases KY.mp c with z|z
  .rw [z];exact ⟨KN,rfl⟩
  .exact ⟨KG _ (d s z).1,(d s z).2⟩
def eB (rules:List cz)(facts:List (List D)):List (List D×List aJ):=rules.map λr=>(r.1,iU r.2 facts)
def ym (a:List cz)(b:List (List D)):gI a (a.map λr=>cU r.2) b=eB a b:=by
 unfold gI eB
 induction a with
 |nil=>rfl
 |cons r l c=>rw [LB,List.zip_cons_cons,LB,c,LB];rfl
section
variable {pool:List D}{rules:List cz}{facts:List (List D)}
def qR (hR:∀r∈rules,dr pool r)(hF:∀f∈facts,gw pool f){T:List (List D)}{x:ef}(hx:x∈bH 0 (eB rules facts) T):x.1∉T/\gw pool x.1/\∃r w V,rules[x.2.1]?=some r/\w∈iU r.2 facts/\x.1=bm r.1 w/\x.2.2=w.2/\fx facts V (br r.2) x.2.2/\O5.gq (r.2.filter aN) (aq V (aW [] (br r.2)))=true/\x.1=r.1.map (a6 V)/\∀b∈aW [] (br r.2),V b∈pool:=by
 obtain ⟨h1,i,q,hq,hi,w,hw,e1,e2⟩:=nW _ _ _ _ hx
 unfold eB at hq
 rw [KZ] at hq
 obtain ⟨r,hr,rfl⟩:=LW.mp hq
 have hrk:=hR r (KU hr)
 obtain ⟨V,v1,v2,v3,v4,v5,v6⟩:=Ds hrk hF hw
 refine ⟨h1,by rw [e1];exact v6,r,w,V,by rw [hi,M8];exact hr,hw,e1,e2,by rw [e2];exact v2,v3,by rw [e1];exact v4,v5⟩
def J2(a:fu pool)(c:∀r∈rules,dr pool r)(e:∀f∈facts,gw pool f)(g:x∈bH 0 (eB rules facts) T):∃r V,uC pool rules facts x r V:=by
 obtain ⟨_,h,r,w,V,d,_,_,_,i,j,k,l⟩:=qR c e g
 exact ⟨r,V,d,c r (KU d),a,i,λb m=>(a.gp _ (l b m)).1,j,k,(h.flat a).2.2⟩
def B5 (a:∀r∈rules,dr pool r)(b:∀f∈facts,gw pool f)(c:pool.length<=10)(T:List (List D)):(bj (bH 0 (eB rules facts) T)).length<=411:=
 Lk (vo (wy _ _ _) λf d=>by
  obtain ⟨x,e,rfl⟩:=Lg.mp d
  exact (qR a b e).2.1.mem) (Jt c)
def fu.le (h:fu pool):pool.length<=10:=by rcases h.len with z|z<;>omega
def DL (c:fu pool)(e:∀r∈rules,dr pool r)(b:wN pool facts):tT rules (rules.map λr=>cU r.2) [] facts:=by
 have h:∀g∈facts,jq g/\f8 g:=λg d=>⟨((b.hd g d).flat c).1,((b.hd g d).flat c).2.1⟩
 have w:=b.fc
 refine ⟨h,(λg d=>nomatch d),λl m=>?_,λj r l i k=>?_,by rw [KP],?_⟩
 .obtain ⟨r,n,rfl⟩:=Lg.mp m
  have a:=e r n
  obtain ⟨o,p⟩:=Bt (br r.2) [] ((r.2.filter aN).filter c9)
  have x:=a.bi.nU
  refine ⟨?_,?_,λs f=>?_⟩
  .show (cL _ _ _).length<=100
   exact Lk (Pz o) Z6
  .show 0+facts.length<2^60
   omega
  .obtain ⟨t,u⟩:=p s f
   rw [u]
   refine ⟨(a.at_ _ (La.mp t).1).at_.qA,?_⟩
   show 0+facts.length<1000
   omega
 .rw [KZ,i] at k
  cases k
  have a:=e r (KU i)
  have f:=a.hd.sc c
  have z:=a.fc
  exact ⟨_,_,GW a.bi rfl h Z6 Z6 f.1 Z6 (λy v q=>nc (a.hb y v q) q),GU a.bi rfl Z6⟩
 .rw [ym,Lh,ur facts [] (by rw [Na];exact b.nd),Na]
  have:=B5 e b.hd c.le facts
  omega
def xC:∀{p q:List Nat},dR p q->∃(i x y:Nat),p.take i=q.take i/\p[i]?=some x/\q[i]?=some y/\x<y
 |[],_,h=>h.elim
 |_::_,[],h=>h.elim
 |a::p,b::q,h=>by
  rcases h with h|⟨rfl,h⟩
  .exact ⟨0,a,b,rfl,rfl,rfl,h⟩
  .obtain ⟨i,x,y,c,d,e,f⟩:=xC h
   exact ⟨i+1,x,y,by rw [Nu,Nu,c],d,e,f⟩
def AZ:∀{p q:List Nat},p.length=q.length->p=q\/dR p q\/dR q p
 |[],[],_=>.inl rfl
 |[],_::_,h=>by cases h
 |_::_,[],h=>by cases h
 |a::p,b::q,h=>by
  rcases Nat.lt_trichotomy a b with z|z|z
  .exact .inr (.inl (.inl z))
  .subst z
   rcases AZ (p:=p) (q:=q) (by simpa using h) with w|w|w
   .exact .inl (by rw [w])
   .exact .inr (.inl (.inr ⟨rfl,w⟩))
   .exact .inr (.inr (.inr ⟨rfl,w⟩))
  .exact .inr (.inr (.inl z))
def xi(h:k≠n):lu (cy k p) (cy n q) (decide ((k:Int)<(n:Int))):=.inr ⟨0,k,n,rfl,rfl,rfl,by omega,rfl⟩
def zc(h:dR p q):lu (cy k p) (cy k q) true/\lu (cy k q) (cy k p) false:=by
 obtain ⟨i,x,y,c,a,b,d⟩:=xC h
 have e:∀{l:List Nat} {z:Nat},l[i]?=some z->(cy k l)[i+1]?=some (z:Int):=λ{l z} h=>by
  unfold cy
  rw [List.getElem?_cons_succ,KZ,h];rfl
 have t:(cy k p).take (i+1)=(cy k q).take (i+1):=by
  unfold cy
  rw [Nu,Nu,<-OT,<-OT,c]
 exact ⟨.inr ⟨i+1,x,y,t,e a,e b,by omega,by rw [Ln Z6]⟩,.inr ⟨i+1,y,x,t.symm,e b,e a,by omega,by rw [Lp Z6]⟩⟩
def Hr(h:p8 x y):lu (cy x.2.1 x.2.2) (cy y.2.1 y.2.2) true:=by
 rcases h with z|⟨z,w⟩
 .have:=xi (p:=x.2.2) (q:=y.2.2) (show x.2.1≠y.2.1 by omega)
  rw [Ln Z6] at this
  exact this
 .rw [z];exact (zc w).1
def EE (a:∀r∈rules,dr pool r)(T:List (List D)):(bH 0 (eB rules facts) T).Pairwise p8:=zP _ _ _ λq b=>by
 obtain ⟨r,c,rfl⟩:=Lg.mp b
 exact (a r c).bi.inc facts
def Fx (f:dr pool r)(l:c∈dE pool (aW [] r.2) [[]])(m:n0 facts r.2 c=true):∃w,w∈iU r.2 facts/\w.2=(br r.2).map (λa=>facts.idxOf (cw c a))/\bm r.1 w=cw c r.1:=by
 have i:=f.bi
 obtain ⟨V,rfl,y⟩:=(Hm (xa NI)).mp l
 have j:cp (aW [] r.2):=iV eZ
 have b:∀a∈r.2,∀x∈a,aB x=true->x.name∈aW [] r.2:=λa d x g e=>lQ d g e
 obtain ⟨n,o⟩:=(JF i j b).mp m
 have k:∀a∈br r.2,cw (aq V (aW [] r.2)) a=a.map (a6 V):=λa d=>by
  have A:=(f.at_ a (La.mp d).1).at_
  exact oP j A.ne A.hd (b a (La.mp d).1)
 refine ⟨(aq V (aW [] (br r.2)),(br r.2).map λa=>facts.idxOf (cw (aq V (aW [] r.2)) a)),?_,rfl,?_⟩
 .rw [i.ow]
  refine La.mpr ⟨(t8 i.good).mpr ⟨V,rfl,?_⟩,o⟩
  unfold fx
  rw [LH]
  refine Ly λa d=>?_
  show facts[facts.idxOf (cw (aq V (aW [] r.2)) a)]?=some (a.map (a6 V))
  rw [k a d]
  have p:=n a d
  have h:=List.idxOf_lt_length_iff.mpr p
  rw [KL h,List.getElem_idxOf h]
 .obtain ⟨w,B,e,s,_⟩:=f.hd
  have t:=(kG (K9 _ s)).2.1
  rw [oP j (by rw [e];exact λz=>nomatch z) (by rw [e];exact t) λx g q=>by
   obtain ⟨a,u,_,v⟩:=f.hb x g q
   exact lQ u v q]
  unfold bm
  exact Ly λx g=>jK (iV eZ) λq=>nc (f.hb x g q) q
def fI (rs:List ef):List (List D×D):=rs.map λx=>(x.1,.lst ((cy x.2.1 x.2.2).map D.int))
def Gf (I:fu pool)(l:∀r∈rules,dr pool r)(n:rules.length<=100)(J:wN pool facts):xO pool rules facts (fI (bH 0 (eB rules facts) facts)):=by
 refine ⟨I,l,n,λp L=>?_,λk r c o M N=>?_⟩
 .obtain ⟨x,_,rfl⟩:=Lg.mp L
  exact ⟨_,rfl⟩
 .have s:=l r (KU o)
  obtain ⟨w,y,A,B⟩:=Fx s M N
  have m:(eB rules facts)[k]?=some (r.1,iU r.2 facts):=by unfold eB;rw [KZ,o];rfl
  have g:(fI (bH 0 (eB rules facts) facts)).map (·.1)=bj (bH 0 (eB rules facts) facts):=by unfold fI bj;rw [LH];rfl
  refine ⟨?_,λq C=>?_⟩
  .rw [g,<-B]
   exact (Bi _ _ _ _ (KU m) w y).symm
  .have i:=ml (cw c r.1) (fI (bH 0 (eB rules facts) facts))
   rw [C] at i
   obtain ⟨v,j,t⟩:=yA (Le i.symm)
   rw [C] at j
   cases j
   obtain ⟨x,E,O⟩:=Lg.mp t
   injection O with u h
   injection h with h
   have Q:cy x.2.1 x.2.2=q:=(List.map_inj_right λa b e=>by injection e).mp h
   rw [<-Q,<-A]
   have f:=BL (eB rules facts) 0 facts (λq m=>by
    obtain ⟨r,T,rfl⟩:=Lg.mp m
    exact (l r T).bi.inc facts) x E k _ m w y (by rw [u];exact B)
   rw [M8] at f
   by_cases d:k=x.2.1
   .obtain ⟨_,_,G,w',V',H,_,_,_,U,_⟩:=qR l J.hd E
    have Y:G=r:=by rw [<-d,o] at H;exact (K8 H).symm
    subst Y
    have l1:=tK U
    have l2:w.2.length=(br G.2).length:=by rw [A,KP]
    rw [<-d]
    rcases AZ (p:=w.2) (q:=x.2.2) (by rw [l1,l2]) with z|z|z
    .rw [z];exact .inl ⟨rfl,rfl⟩
    .exact absurd (.inr ⟨d,z⟩) f
    .exact (zc z).2
   .have:=xi (p:=w.2) (q:=x.2.2) d
    rw [Lp Z6] at this
    exact this
end
end FL
namespace FL
open PySem L2
def Iv{a:List cz}(g:∀r∈a,mV r.2/\oh r.2)(i:a.length<=100)(j:tT a (a.map λr=>cU r.2) [] b)(m:b.Nodup)(h:dI t G c [.lst (a.map bf),cv b]):ae (iH uZ [] f t) G c (.lst ((bH 0 (eB a b) b).map dM)):=λM H s l Q k=>h M H s l _ λy z d n=>by
 obtain ⟨o,p,rfl,q,u⟩:=lI n
 refine ⟨M,a,b,o,p,rfl,l.same d,q,u,g,i,j,λv w x e=>k v w (d.trans x) ?_⟩
 rw [ym,ur b [] (by rw [Na];exact m),Na] at e
 exact e
def dr.CH(h:dr b r):mV r.2/\oh r.2:=⟨⟨λa c=>(h.at_ a c).at_.qA,by have:=h.fc;omega⟩,λg d e=>(h.at_ g d).gd e⟩
def zJ:∀{l:List (List D)},(∀a∈l,bM a/\a.length<=10)->D.dz (l.map D.tup)=true/\D.cV (l.map D.tup)<=11*l.length
 |[],_=>⟨by simp [D.dz],by simp [D.cV]⟩
 |a::l,h=>by
  obtain ⟨b,g⟩:=h a KN
  obtain ⟨c,i⟩:=zJ (l:=l) λx d=>h x (KG _ d)
  obtain ⟨e,f⟩:=wc b
  rw [LB,D.dz,D.plain,D.cV,D.sz,c,e,f,Lr]
  exact ⟨rfl,by omega⟩
def Iy(c:fu b)(h:dr b r):(bf r).plain=true/\(bf r).sz<=40:=by
 obtain ⟨e,f⟩:=h.sc c
 have k:=(h.hd.sc c).2
 have m:=h.fc
 obtain ⟨g,i⟩:=wc e
 obtain ⟨j,n⟩:=zJ (l:=r.2) λa d=>⟨f a d,(h.at_ a d).at_.len⟩
 unfold bf c8
 refine ⟨by simp [D.plain,D.dz,g,j],?_⟩
 simp only [D.sz,D.cV,i]
 omega
def B6(b:fu a):∀{rs:List cz},(∀r∈rs,dr a r)->D.dz (rs.map bf)=true/\D.cV (rs.map bf)<=40*rs.length
 |[],_=>⟨by simp [D.dz],by simp [D.cV]⟩
 |r::l,h=>by
  obtain ⟨c,f⟩:=Iy b (h r KN)
  obtain ⟨d,g⟩:=B6 b (rs:=l) λx e=>h x (KG _ e)
  rw [LB,D.dz,D.cV,c,d,Lr]
  exact ⟨rfl,by omega⟩
def GC:∀L:Nat,L<64->Builtin.Range.small 4 (L:Int) 3=true/\Builtin.divisionGoesByPylong ((L:Int)-4) 3=false/\Builtin.Range.rangeSize 4 (L:Int) 3=(((Builtin.Range.rangeSize 4 (L:Int) 3).toNat:Nat):Int)/\(Builtin.Range.rangeSize 4 (L:Int) 3).toNat<=20/\∀k<(Builtin.Range.rangeSize 4 (L:Int) 3).toNat,4+k*3<L:=by decide+kernel
def rp (one two:D):List (List D):=[[.str "road",one,two],[.str "roam",one,two],[.str "mark",one],[.str "kin",two,one],[.str "rain"]]
def Dl{a:List D}(d:b∈a)(e:c∈a):∀f∈rp b c,gw a f:=by
 intro f g
 simp only [rp,KY,Lu,LO] at g
 rcases g with rfl|rfl|rfl|rfl|rfl
 .exact ⟨_,_,rfl,by simp [dj],by simp [d,e]⟩
 .exact ⟨_,_,rfl,by simp [dj],by simp [d,e]⟩
 .exact ⟨_,_,rfl,by simp [dj],by simp [d]⟩
 .exact ⟨_,_,rfl,by simp [dj],by simp [d,e]⟩
 .exact ⟨_,_,rfl,by simp [dj],by simp⟩
def pi (rs:List ef):Nat->List Int
 |0=>[-1]
 |j+1=>match rs[j]? with|some x=>cy x.2.1 x.2.2|none=>[]
def HQ{a:List ef}(h:a.Pairwise p8)(e:∀x∈a,x.2.2.length<=3){j:Nat}(b:a[j]?=some x):lu (pi a j) (cy x.2.1 x.2.2) true/\(pi a j).length<=1000:=by
 cases j with
 |zero=>exact ⟨.inr ⟨0,-1,x.2.1,rfl,rfl,rfl,by omega,by rw [Ln Z6]⟩,show 1<=1000 by decide⟩
 |succ j=>
  have c:j<a.length:=by have:=(KJ.mp b).1;omega
  have d:=KL c
  show lu (match a[j]? with|some x=>cy x.2.1 x.2.2|none=>[]) _ true/\(match a[j]? with|some x=>cy x.2.1 x.2.2|none=>[]).length<=1000
  rw [d]
  refine ⟨Hr (qt h (MW j) d b),?_⟩
  have:=e _ (Mm c)
  show (cy _ _).length<=1000
  unfold cy
  rw [Lr,KP]
  omega
def IV{j:Nat}(n:(bj c).Nodup)(m:c[j]?=some x):x.1∉(fI (c.take j)).map (·.1)/\ma (fI (c.take j)) x.1 (.lst ((cy x.2.1 x.2.2).map D.int))=fI (c.take (j+1)):=by
 have f:x.1∉(fI (c.take j)).map (·.1):=λh=>by
  unfold fI at h
  rw [LH] at h
  obtain ⟨y,o,e⟩:=Lg.mp h
  obtain ⟨i,s,g⟩:=OD.mp o
  have k:i<j:=by omega
  have l:c[i]?=some y:=by rw [<-g];exact KL Z6
  have p:(bj c)[i]?=some y.1:=by unfold bj;rw [KZ,l];rfl
  have q:(bj c)[j]?=some x.1:=by unfold bj;rw [KZ,m];rfl
  exact qt (R:=λa b=>a≠b) n k p q e
 refine ⟨f,?_⟩
 have r:cX (fI (c.take j)) x.1=none:=by
  have:=ml x.1 (fI (c.take j))
  rw [Lp f] at this
  cases e:cX (fI (c.take j)) x.1 with
  |none=>rfl
  |some d=>rw [e] at this;cases this
 rw [yc r,LG,m]
 unfold fI
 rw [Lq]
 rfl
def Hf{c:List (List D)}{j:Nat}(m:c.Nodup)(k:c[j]?=some f):ma (eI (c.take j)) f (.int ((j:Nat):Int))=eI (c.take (j+1)):=by
 have p:=(KJ.mp k).1
 have g:f∉(eI (c.take j)).map (·.1):=by
  rw [oM]
  intro h
  obtain ⟨i,q,l⟩:=OD.mp h
  exact qt (R:=λa b=>a≠b) m (show i<j by omega) (KL Z6) k l
 have n:cX (eI (c.take j)) f=none:=by
  have:=ml f (eI (c.take j))
  rw [Lp g] at this
  cases e:cX (eI (c.take j)) f with
  |none=>rfl
  |some d=>rw [e] at this;cases this
 have o:(c.take j).length=j:=by rw [Lx];omega
 rw [yc n,LG,k]
 show _=eI (c.take j++[f])
 rw [FW,o]
end FL
namespace a8
open PySem L2 FL
section
variable {P:Program}{w:World}{K:PySem.W.Frag}{mg:Str->Option Value}{base:Heap}{f:Addr}{fd:FuncData}
abbrev xm:List Str:=["_law_script","_law_pool","_law_rules","_law_facts","_law_k","_law_one","_law_two","_law_some","_law_fact","_law_handed","_law_given","_law_found","_law_spots","_law_there","_law_last","_law_reason","_law_mine"]
def eP:b9 xm ["_law_script"] (be lS):=⟨rfl,rfl,rfl,Z9,rfl,Z9,Z9⟩
def Ht (F:aH K "law" "law" lS f fd)(B:Bl mg)(am:a5 P w K mg base 1 "_law_mixed" ["_law_script"] (bJ AU))(U:a5 P w K mg base 2 "_law_pool_by" ["_law_script"] (bJ wf))(O:a5 P w K mg base 3 "_law_rules_by" ["_law_script"] (nz BV Ba))(T:a5 P w K mg base 11 "next_reasons" ["rules","facts"] uZ)(M:a5 P w K mg base 1 "_law_as_it_was" ["_law_handed","_law_own"] (bJ xN))(J:a5 P w K mg base 3 "_law_same_facts" ["_law_found","_law_due"] (bJ yS))(Y:a5 P w K mg base 3 "_law_follows" ["_law_reason","_law_rules","_law_ahead"] (bJ y6))(C:a5 P w K mg base 1 "_law_stands_ahead" ["_law_one","_law_two"] (bJ wV))(L:a5 P w K mg base 3 "_law_first_ones" ["_law_rules","_law_pool","_law_spots","_law_there"] (spS x8)):bq P w K mg base bI 12 f fd ["_law_script"] (rl K):=by
 refine F.ok eP (λvs H Q E h=>?_) (λd2 A c4 s H vs Q E hr h=>?_)
 .obtain ⟨a,ns,rfl,_⟩:=h
  rfl
 obtain ⟨a,ns,rfl,hS,a2,q⟩:=h
 have hu:=eD hr
 have a3:=fO hr
 refine ⟨_,(az (bg 0 eP.nd (nj zk (pv 0) pe (mr aE)))
   (az (bg 0 eP.nd (bQ am hr (ah (pv 0) ap)))
   (az (bg 1 eP.nd (bQ U hr (ah (pv 0) ap)))
   (az (bg 2 eP.nd (bQ O hr (ah (pv 0) ap)))
   (az (bg 3 eP.nd (cQ ap))
   (az (dh Lj rfl (Jd rfl B.range (ah aE (ah (cg B (pv 0)) (ah aE ap)))) (bp 4 eP.nd) (az (bg 5 eP.nd (aT (pv 1) (cj d8 (cj iZ (cj fM (aT (pv 0) (pv 4)) aE) (pv 4)) (cg B (pv 1)))))
   (az (bg 6 eP.nd (aT (pv 1) (cj d8 (cj iZ (cj fM (aT (pv 0) (pv 4)) aE) (cj fM (pv 4) aE)) (cg B (pv 1)))))
   (az (bg 7 eP.nd (cQ (ah (dy (ah dA (ah (pv 5) (ah (pv 6) ap)))) (ah (dy (ah dA (ah (pv 5) (ah (pv 6) ap)))) (ah (dy (ah dA (ah (pv 5) ap))) ap)))))
   (az (bg 8 eP.nd (aT (cj k9 (pv 7) (cQ (ah (dy (ah dA (ah (pv 6) (ah (pv 5) ap)))) (ah (dy (ah dA ap)) ap)))) (cj d8 (aT (pv 0) (pv 4)) aE)))
   (ay (bB (bK (vp hu) (pv 8) (pv 3)) (ay (jx (pv 3) (pv 8))) bS)))))))
   (az (bg 9 eP.nd (nC B (pv 3)))
   (az (bg 10 eP.nd (nC B (pv 2)))
   (az (bg 11 eP.nd (bQ T hr (ah (pv 10) (ah (pv 9) ap))))
   (az (bB (eM (dF (cu (bQ M hr (ah (pv 10) (ah (pv 2) ap))))) (fS (dF (cu (bQ J hr (ah (pv 9) (ah (pv 3) ap))))))).pt (ay (bd cA)) bS)
   (az (bB (dF (cu (ee B (pv 11) B.list L9))) (ay (bd cA)) bS)
   (az (bg 12 eP.nd oQ)
   (az (dh Lj rfl (jH rfl B.range (ah (cg B (pv 3)) ap)) (bp 4 eP.nd) (ay (ly a3 (pv 12) (aT (pv 3) (pv 4)) (pv 4) rfl)))
   (az (bg 13 eP.nd oQ)
   (az (bg 14 eP.nd (cQ (ah (kO kM aE) ap)))
   (az (dh Lj rfl (cF (pv 11)) (bp 15 eP.nd) (az (bB (dF (cu (bQ Y hr (ah (pv 15) (ah (pv 2) (ah (pv 3) ap)))))) (ay (bd cA)) bS)
   (az (bB (eM (iu (lH (by exact a3) (aT (pv 15) aE) (pv 13))) (fS (iu (lH (by exact a3) (aT (pv 15) aE) (pv 12))))).pt (ay (bd cA)) bS)
   (az (bg 16 eP.nd (cj k9 (cQ (ah (aT (pv 15) aE) ap)) (nC B (aT (pv 15) aE))))
   (az (bB (dF (cu (bQ C hr (ah (pv 14) (ah (pv 16) ap))))) (ay (bd cA)) bS)
   (az (ly a3 (pv 13) (aT (pv 15) aE) (pv 16) rfl)
   (ay (bg 14 eP.nd (pv 16)))))))))
   (ay (bd (bQ L hr (ah (pv 2) (ah (pv 1) (ah (pv 12) (ah (pv 13) ap))))))))))))))))))))))),?_⟩
 refine ⟨_,rfl,500,rfl,a,_,rfl,hS,λp hp=>?_⟩
 rw [GN a2]
 have E1:=Fi (H:=H) (p:=p) (ns:=ns) xm a 16 rfl
 dsimp only
 have b0:Bx _ [] [] _ _ [Sl.d (.lst (ns.map D.int)),.no,.no,.no,.no,.no,.no,.no,.no,.no,.no,.no,.no,.no,.no,.no,.no]:=Bx.DB au.nil Z8 E1
 refine aU.Kn b0 ?_
 clear b0 E1 hS
 generalize upd H p (HO.lst (List.map V.int ns))=H1
 refine ba (ff (i:=0) (d:=.lst ((lE ns).map D.int)) (λG I e=>cb ⟨ns,rfl,a2,rfl⟩ (aa (e.vd rfl) ag)) ?_)
 have c5:(lE ns).length<=63:=by rw [Hh];exact a2
 generalize lE ns=ms at c5
 clear a2
 refine ba (ff (i:=1) (d:=.lst (ie ms)) (λG I e=>cb ⟨ms,rfl,rfl⟩ (aa (e.vd rfl) ag)) ?_)
 refine ba (BQ (i:=2) (ds:=[.lst (ms.map D.int)]) (λG I e=>aa (e.vd rfl) ag) ⟨ms,rfl,by omega⟩ λd hd=>?_)
 obtain ⟨da,o,he,rfl,co,d3⟩:=hd
 simp only [List.cons.injEq,D.lst.injEq] at he
 have em:ms=da:=(List.map_inj_right λa b e=>by injection e).mp he.1
 subst em
 have hP:=By ms
 generalize ie ms=u at hP co
 have hR:=co.ok
 obtain ⟨n,hn,h0,d4⟩:∃n:Nat,u.length=n/\0<n/\n<=10:=⟨_,rfl,by rcases hP.len with z|z<;>omega,by rcases hP.len with z|z<;>omega⟩
 have bk:(0:Int)<(n:Int):=by omega
 refine ba (ud (i:=3) ?_)
 obtain ⟨r1,r2,r3,r4,r5⟩:=GC ms.length Z6
 generalize (Builtin.Range.rangeSize 4 (ms.length:Int) 3).toNat=N at r3 r4 r5
 refine ba (fK (i:=4) (dm.Ev (a:=4) (b:=(ms.length:Int)) (c:=3) (n:=N) Z5 r1 r2 r3 λG I e=>aa ar (aa ((cY (K:=K) (aa (e.v rfl) ag)).eq (by rw [KP])) (aa ar ag))) (λj ac=>∃fs s4 s5 s6 s7 s8,(∀f∈fs,gw u f)/\fs.Nodup/\fs.length<=j/\ac=[Sl.d (.lst (ms.map D.int)),.d (.lst u),.d (.lst (o.map bf)),.l (fs.map D.tup),s4,s5,s6,s7,s8,.no,.no,.no,.no,.no,.no,.no,.no]) ⟨[],_,_,_,_,_,(λf hf=>nomatch hf),NI,KR _,rfl⟩ (λB' sB hk j x ac hx hp=>?_) (λac hp=>?_))
 .obtain ⟨fs,s4,s5,s6,s7,s8,aj,a1,a4,rfl⟩:=hp
  rw [KZ] at hx
  obtain ⟨j',dc,rfl⟩:=LW.mp hx
  obtain ⟨cs,ej⟩:=KJ.mp dc
  rw [MB] at cs
  rw [List.getElem_range] at ej
  subst ej
  have bx:=r5 j cs
  have hc:c7 (ms.map D.int) (4+(j:Int)*3)=some (.int (ms[4+j*3]'bx)):=jI Z6 (by rw [show (4+(j:Int)*3).toNat=4+j*3 by omega,KZ,KL bx];rfl)
  generalize ms[4+j*3]'bx=c at hc
  obtain ⟨af,o1,o2,_⟩:=fb (l:=u) (n:=n) (c/5+(4+(j:Int)*3)) h0 hn
  refine ba (ei (i:=5) (d:=af) (λG I e=>bR o1 (e.v rfl) (d7 bk (jy (fJ ⟨by decide,by decide⟩ (bR hc (e.v rfl) (e.v rfl)) ar) (e.v rfl)) ((cY (K:=K) (aa (e.v rfl) ag)).eq (by rw [hn])))) (kR (hP.gp af o2).1) ?_)
  obtain ⟨an,t1,t2,_⟩:=fb (l:=u) (n:=n) (c/15+(4+(j:Int)*3)/2) h0 hn
  refine ba (ei (i:=6) (d:=an) (λG I e=>bR t1 (e.v rfl) (d7 bk (jy (fJ ⟨by decide,by decide⟩ (bR hc (e.v rfl) (e.v rfl)) ar) (fJ ⟨by decide,by decide⟩ (e.v rfl) ar)) ((cY (K:=K) (aa (e.v rfl) ag)).eq (by rw [hn])))) (kR (hP.gp an t2).1) ?_)
  refine ba (ff (i:=7) (d:=.lst [.tup [.str "road",af,an],.tup [.str "roam",af,an],.tup [.str "mark",af]]) (λG I e=>eO (aa (aM (aa aF (aa (e.vd rfl) (aa (e.vd rfl) ag)))) (aa (aM (aa aF (aa (e.vd rfl) (aa (e.vd rfl) ag)))) (aa (aM (aa aF (aa (e.vd rfl) ag))) ag)))) ?_)
  obtain ⟨df,f1,f2,_⟩:=fb (l:=(rp af an).map D.tup) (n:=5) c Z5 rfl
  obtain ⟨ao,f3,rfl⟩:=Lg.mp f2
  have f4:=Dl o2 t2 ao f3
  have f5:=(f4.flat hP).1.2
  refine ba (ei (i:=8) (d:=.tup ao) (λG I e=>bR (ds:=(rp af an).map D.tup) f1 (ae.eq (kA (xs:=[.tup [.str "road",af,an],.tup [.str "roam",af,an],.tup [.str "mark",af]]) (ys:=[.tup [.str "kin",an,af],.tup [.str "rain"]]) (show 3+2<=1000 by decide) (e.v rfl) (eO (aa (aM (aa aF (aa (e.v rfl) (aa (e.v rfl) ag)))) (aa (aM (aa aF ag)) ag)))) rfl) (d7 Z5 (bR hc (e.v rfl) (e.v rfl)) ar)) (gN f5) ?_)
  refine dg (λG I e=>bN (uW (d:=.tup ao) (es:=fs.map D.tup) (λy hy=>?_) (e.v rfl) (e.v rfl))) (λz=>?_) (λz=>eQ (dB ⟨fs,_,_,_,_,_,aj,a1,Nat.le_succ_of_le a4,rfl⟩))
  .obtain ⟨g,hg,rfl⟩:=Lg.mp hy
   exact nu ((aj g hg).flat hP).1.2 f5
  .have dd:ao∉fs:=λw=>by
    have:decide (D.tup ao∈fs.map D.tup)=true:=Ln (Fu.mpr w)
    rw [this] at z;cases z
   refine tY (j:=3) rfl (λG I e=>e.v rfl) (gN f5) (by rw [KP];exact cr Z6) ?_
   rw [show fs.map D.tup++[D.tup ao]=(fs++[ao]).map D.tup by rw [Lq];rfl]
   refine dB ⟨fs++[ao],_,_,_,_,_,λg hg=>?_,?_,by rw [Lh];exact Nat.succ_le_succ a4,rfl⟩
   .rcases Ld.mp hg with w|w
    .exact aj g w
    .rw [Li.mp w];exact f4
   .rw [Nr]
    exact ⟨a1,by simp,λa ha b hb e=>dd (by rw [Li.mp hb] at e;rw [<-e];exact ha)⟩
 obtain ⟨m,s4,s5,s6,s7,s8,aj,a1,a4,rfl⟩:=hp
 rw [KP,MB] at a4
 have ct:wN u m:=⟨aj,a1,by omega⟩
 refine JG (i:=3) (xs:=m.map D.tup) rfl ?_
 dsimp only
 refine ba (ff (i:=9) (d:=cv m) (λG I e=>qo (aa (e.vd rfl) ag)) ?_)
 refine ba (ff (i:=10) (d:=.lst (o.map bf)) (λG I e=>qo (aa (e.vd rfl) ag)) ?_)
 refine ba (ff (i:=11) (d:=.lst ((bH 0 (eB o m) m).map dM)) (λG I e=>Iv (λr hr=>(hR r hr).CH) Z6 (DL hP hR ct) a1 (aa (e.vd rfl) (aa (e.vd rfl) ag))) ?_)
 obtain ⟨p1,p2⟩:=B6 hP hR
 refine fN (λG I e=>eJ (b:=false) (c:=false) (aY.eq (dL (cm (cb (d:=.bl true) ⟨.lst (o.map bf),rfl,by rw [D.plain];exact p1,by rw [D.sz];omega,rfl⟩ (aa (e.v rfl) (aa (e.v rfl) ag))))) rfl) λ_=>aY.eq (dL (cm (cb (d:=.bl true) ⟨m,rfl,λf hf=>((aj f hf).flat hP).2.2,by omega,rfl⟩ (aa (e.v rfl) (aa (e.v rfl) ag))))) rfl) ?_
 refine fN (λG I e=>aY.eq (dL (cm (qI (e.v rfl)))) rfl) ?_
 refine ba (yj (i:=12) ?_)
 refine ba (fK (i:=4) (dm.kb (n:=m.length) Z6 λG I e=>aa ((cY (K:=K) (aa (e.v rfl) ag)).eq (by rw [KP])) ag) (λj ac=>∃s4,ac=[Sl.d (.lst (ms.map D.int)),.d (.lst u),.d (.lst (o.map bf)),.d (cv m),s4,s5,s6,s7,s8,.d (cv m),.d (.lst (o.map bf)),.d (.lst ((bH 0 (eB o m) m).map dM)),.t (eI (m.take j)),.no,.no,.no,.no]) ⟨_,rfl⟩ (λB' sB hk j x ac hx hp=>?_) (λac hp=>?_))
 .obtain ⟨s4,rfl⟩:=hp
  obtain ⟨b6,rfl⟩:=hX 0 _ j x hx
  have hf:=KL b6
  have c0:=Mm b6
  generalize m[j]'b6=g at hf c0
  refine AG (j:=12) (key:=g) (d:=.int ((j:Nat):Int)) rfl ((aj g c0).flat hP).1.2 (λG I e=>ae.eq (e.vd (d:=.int (0+(j:Int))) rfl) (by rw [Pc])) (λG I e=>bR (ds:=m.map D.tup) (d:=.tup g) (ig (by rw [KZ,hf];rfl)) (e.v rfl) (e.v rfl)) (by
   have:=LL List.length (oM (m.take j))
   rw [KP,Lx] at this
   omega) ?_
  rw [Hf a1 hf]
  exact dB ⟨_,rfl⟩
 obtain ⟨s4,rfl⟩:=hp
 rw [KP,MB,MD]
 dsimp only
 refine ba (yj (i:=13) ?_)
 refine ba (ff (i:=14) (d:=.lst [.int (-1)]) (λG I e=>eO (aa (oq ar) ag)) ?_)
 have bs:(bH 0 (eB o m) m).Pairwise p8:=EE hR m
 have c1:(bj (bH 0 (eB o m) m)).Nodup:=wy _ _ _
 have as:=B5 hR aj hP.le m
 have b7:∀x∈bH 0 (eB o m) m,x.1∉m/\gw u x.1/\x.2.2.length<=3:=λx hx=>by
  obtain ⟨h1,h2,r,w,V,h3,_,_,_,h5,_⟩:=qR hR aj hx
  exact ⟨h1,h2,by rw [tK h5];exact (hR r (KU h3)).bi.nU⟩
 have bt:∀x∈bH 0 (eB o m) m,∃r V,uC u o m x r V:=λx hx=>J2 hP hR aj hx
 have a0:=Gf hP hR Z6 ct
 generalize bH 0 (eB o m) m=R at bs c1 as b7 bt a0
 have d5:R.length<=411:=by unfold bj at as;rw [KP] at as;exact as
 refine ba (fK (i:=15) (dm.of λG I e=>fy (e.vd rfl)) (λj ac=>∃b8 cd,ac=[Sl.d (.lst (ms.map D.int)),.d (.lst u),.d (.lst (o.map bf)),.d (cv m),s4,s5,s6,s7,s8,.d (cv m),.d (.lst (o.map bf)),.d (.lst (R.map dM)),.t (eI m),.t (fI (R.take j)),.d (.lst ((pi R j).map D.int)),b8,cd]) ⟨_,_,rfl⟩ (λB' sB hk j x ac hx hp=>?_) (λac hp=>?_))
 .obtain ⟨b8,cd,rfl⟩:=hp
  rw [KZ] at hx
  obtain ⟨x,bc,rfl⟩:=LW.mp hx
  have c2:=KU bc
  obtain ⟨di,dp,ea⟩:=b7 x c2
  obtain ⟨r,V,dt⟩:=bt x c2
  have ch:=(dp.flat hP).1.2
  obtain ⟨dx,c3⟩:=IV c1 bc
  obtain ⟨d0,d1⟩:=HQ bs (λx hx=>(b7 x hx).2.2) bc
  have cl:pi R (j+1)=cy x.2.1 x.2.2:=by show (match R[j]? with|some x=>cy x.2.1 x.2.2|none=>[])=_;rw [bc]
  have V1:∀{d:D} {G:Hp} {I:St} {δ:List Sl} {i:Int},bE G I δ->(δ[15]?).bind Sl.jb=some (dM x)->c7 [D.tup x.1,.int ((x.2.1:Nat):Int),.tup (x.2.2.map λn=>D.int (n:Nat))] i=some d->ae (bz (eF K) (aR 15) (tC (.int i))) G I d:=λe h k=>bV k (e.v h) ar
  refine fN (λG I e=>aY.eq (dL (cm (cb (d:=.bl true) ⟨x,u,o,m,r,V,rfl,dt,rfl⟩ (aa (e.v rfl) (aa (e.v rfl) (aa (e.v rfl) ag)))))) rfl) ?_
  refine fN (λG I e=>eJ (b:=false) (c:=false) (aY.eq (cm (e.vI (j:=13) rfl ch (V1 (d:=.tup x.1) e rfl rfl))) (Lp dx)) λ_=>aY.eq (cm (e.vI (j:=12) rfl ch (V1 (d:=.tup x.1) e rfl rfl))) (by rw [oM];exact Lp di)) ?_
  refine ba (ff (i:=16) (d:=.lst ((cy x.2.1 x.2.2).map D.int)) (λG I e=>ae.eq (kA (xs:=[.int ((x.2.1:Nat):Int)]) (ys:=x.2.2.map λn=>D.int (n:Nat)) (by rw [KP];show 1+_<=1000;omega) (eO (aa (bV (ds:=[D.tup x.1,.int ((x.2.1:Nat):Int),.tup (x.2.2.map λn=>D.int (n:Nat))]) (d:=.int ((x.2.1:Nat):Int)) rfl (e.vd rfl) ar) ag)) (vA (aa (bV (ds:=[D.tup x.1,.int ((x.2.1:Nat):Int),.tup (x.2.2.map λn=>D.int (n:Nat))]) (d:=.tup (x.2.2.map λn=>D.int (n:Nat))) rfl (e.vd rfl) ar) ag))) (by unfold cy;rw [LB,LH];rfl)) ?_)
  refine fN (λG I e=>aY.eq (dL (cm (cb (d:=.bl true) ⟨pi R j,cy x.2.1 x.2.2,true,rfl,d1,d0,rfl⟩ (aa (e.v rfl) (aa (e.v rfl) ag))))) rfl) ?_
  refine ba (AG (j:=13) (key:=x.1) (d:=.lst ((cy x.2.1 x.2.2).map D.int)) rfl ch (λG I e=>e.vd rfl) (λG I e=>V1 (d:=.tup x.1) e rfl rfl) (by
   unfold fI
   rw [KP,Lx]
   omega) ?_)
  rw [c3]
  refine ff (i:=14) (d:=.lst ((cy x.2.1 x.2.2).map D.int)) (λG I e=>e.vd rfl) (dB ⟨.d (dM x),.d (.lst ((cy x.2.1 x.2.2).map D.int)),?_⟩)
  rw [cl]
  rfl
 obtain ⟨b8,cd,rfl⟩:=hp
 rw [KP,MD]
 dsimp only
 refine fj (d:=.bl true) (λG I e=>uz ⟨u,o,m,fI R,rfl,a0,rfl⟩ (e.es (i:=2) rfl (λz=>nomatch z) (e.es (i:=1) rfl (λz=>nomatch z) (e.es (i:=12) rfl (λz=>nomatch z) (e.es (i:=13) rfl (λz=>nomatch z) vV))))) (λv H' s' r'=>?_)
 rw [r'.ia]
 exact q H'
end
end a8
namespace a8
open PySem L2 FL
section
variable {P:Program}{w:World}{K:PySem.W.Frag}{mg:Str->Option Value}{base:Heap}{f:Addr}{fd:FuncData}
def C4:b9 ["self","asker","shared","guards"] ["self","asker","shared","guards"] (be mG):=⟨rfl,rfl,rfl,Z9,rfl,Z9,Z9⟩
def FY(F:aH K "__init__" "Step.__init__" mG f fd)(T:kE K C):bq P w K mg base bI 1 f fd ["self","asker","shared","guards"] (wW C):=by
 refine F.ok C4 (λk H Q E ⟨_,_,_,_,_,e,_⟩=>by rw [e];rfl) (λl A d s H k Q E n h=>?_)
 obtain ⟨x,b,g,i,j,rfl,m,q⟩:=h
 refine ⟨_,(az (fA (pv 0) (pv 1) rfl)
   (az (fA (pv 0) (pv 2) rfl)
   (az (fA (pv 0) (pv 3) rfl)
   (az (fA (pv 0) oQ rfl)
   (ay (fA (pv 0) (kO kM aE) rfl)))))),?_⟩
 refine ⟨g,rfl,.ref x,rfl,x,C,b,[],rfl,m,T.cl,T.nA,by decide,?_⟩
 refine ⟨i,rfl,.ref x,rfl,x,C,b,_,rfl,aK,T.cl,T.nS,(show 1<1000 by decide),?_⟩
 refine ⟨j,rfl,.ref x,rfl,x,C,b,_,rfl,aK,T.cl,T.nG,(show 2<1000 by decide),?_⟩
 rw [kz,kz]
 intro p c
 have a:p≠x:=λz=>by rw [z,aK] at c;cases c
 rw [aC a] at c
 refine ⟨.ref x,rfl,x,C,b,[("asker",g),("shared",i),("guards",j)],rfl,by rw [aC (LN a)];exact aK,T.cl,T.nO,(show 3<1000 by decide),?_⟩
 rw [G9 a]
 refine ⟨1,rfl,.ref x,rfl,x,C,b,_,rfl,aK,T.cl,T.nN,(show 4<1000 by decide),?_⟩
 rw [kz]
 exact q p c a
def rA:b9 ["self","place","fact","setting","shared_things","pairs"] ["self","place","fact"] (be mj):=⟨rfl,rfl,rfl,Z9,rfl,Z9,Z9⟩
def D9(F:aH K "offer" "Step.offer" mj f fd)(T:kE K C)(B:Bl mg)(r:a5 P w K mg base 2 "matched" ["atom","fact","setting"] (bJ xy)):bq P w K mg base bI 3 f fd ["self","place","fact"] (BA C):=by
 refine F.ok rA (λvs H Q E ⟨_,_,_,_,_,_,_,e,_⟩=>by rw [e];rfl) (λct A bx s H vs Q E hr h=>?_)
 obtain ⟨Z,os,st,a,n,g,v2,rfl,lv,an,v,Y,hA,hg,hz,q⟩:=h
 have ac:=fO hr
 refine ⟨_,(az (bg 3 rA.nd (bQ r hr (ah (dJ (pv 0) rfl) (ah (pv 2) (ah (cQ ap) ap)))))
   (ay (bB (bK Am (pv 3) pb) (az (bg 4 rA.nd (sk B (fC ["self","blank","thing"] [0] 2 (cF (pv 3)) (λ_ _ _ _ _=>(ux (n:=2) rfl (eY (bp 1 (show (["self","blank","thing"]:List Str).Nodup from by decide+kernel)) (eY (bp 2 (show (["self","blank","thing"]:List Str).Nodup from by decide+kernel)) iQ)))) (λ_ _ _ _ _=>(gF (iu (lH (by exact ac) (pv 1) (pY (pv 0) rfl))))) (λ_ _ _ _ _=>(pv 2)))))
   (az (nq (i:=5) ["self","blank","thing"] [0] 2 rA.nd rfl (Or.inl rfl) (cF (pv 3)) (λ_ _ _ _ _=>(ux (n:=2) rfl (eY (bp 1 (show (["self","blank","thing"]:List Str).Nodup from by decide+kernel)) (eY (bp 2 (show (["self","blank","thing"]:List Str).Nodup from by decide+kernel)) iQ)))) (λ_ _ _ _ _=>(gF (iu (pE (by exact ac) (pv 1) (pY (pv 0) rfl))))) (λ_ _ _ _ _=>(dy (ah (pv 1) (ah (pv 2) ap)))))
   (az (jx (xE ac (dJ (pv 0) rfl) (pv 4) (cQ ap) ⟨rfl,rfl,rfl,rfl⟩) (dy (ah (pv 1) (ah (pv 5) ap))))
   (ay (fA (pv 0) (pv 1) rfl))))) bS))),?_⟩
 obtain ⟨dx,v0,sa,w2,l,ls,oS,G,ha,r0,as,rg,hO⟩:=an.at_
 have aZ:a∈Z:=v a (by rw [G];simp)
 have a0:l∈Z:=v l (by rw [G];simp)
 have a1:∀x∈ls,x∈Z:=λx c=>v x (by rw [G];simp [c])
 obtain ⟨I,af,b0⟩:∃I:List Addr,(∀x,x∈a::I↔x∈Z)/\a∉I:=⟨Z.filter (λy=>decide (y≠a)),λx=>by
  by_cases e:x=a
  .simp [e,aZ]
  .simp [e],by simp⟩
 have G1:ab (but H Z) (but H I):=d6 λx c=>(af x).mp (KG _ c)
 have lr:au I H:=λx c=>lv x ((af x).mp (KG _ c))
 have ga:but H I a=some (.ins C dx (jn v0 sa w2 l st.newest)):=by rw [bh b0];exact ha
 have E0:aA (but H I) (L2.start ["self","place","fact","setting","shared_things","pairs"] [.ref a,.int ((n:Nat):Int),v2]) [none,some (.int ((n:Nat):Int)),some (.tup g),none,none,none]:=fL (.raw (.dat (.int _) (.dat (Y.mono G1) .nil))) _
 refine fY (i:=3) lr E0 (cb (d:=nJ (bw st.cW g [])) ⟨st.cW,g,[],rfl,hA.sc,hg.2,(λp hp=>nomatch hp),hA.len,Ll _,hA.ne,hg.1,rfl⟩ (aa (gx T.cl T.nA rfl ga rfl (r0.mono G1)) (aa (aI E0 rfl) (aa (eO (ds:=pairD []) ag (hz:=Ll _)) ag)))) λa2 H4 o4 s4 l4 E4=>?_
 have c0:a2[0]?=some (some (.ref a)):=o4 0 Z5
 refine gX l4 E4 (bN (Jm (aI E4 rfl))) (λe H5 s5 l5 E5=>?_) (λe H5 s5 l5 E5=>?_)
 .obtain ⟨m,J⟩:∃m,bw st.cW g []=some m:=by
   cases J:bw st.cW g [] with
   |some m=>exact ⟨m,rfl⟩
   |none=>rw [J] at e;exact absurd e Z5
  have cq:=xw J (λt ht=>nomatch ht) hg.2
  have c1:=Ag J
  have c2:=hA.len
  rw [J] at E5
  have E5:aA (but H5 I) a2 [none,some (.int ((n:Nat):Int)),some (.tup g),some (.lst (pairD m)),none,none]:=E5
  have a3:=((s4.trans s5).but I) _ _ ga
  have a4:=((s4.trans s5).but I) _ _ (G1 _ _ as)
  have c3:(jh m).length<=100:=by unfold jh;rw [KP];omega
  refine fY (i:=4) l5 E5 (rm (aa (ae.eq (Cj (K:=K) (caps:=aX [0] 2) (i:=1) (j:=2) Z5 (ps:=jh m) (p:=λq=>decide (q.1.name∈fm st)) (f:=λq=>q.2) (fy ((aI E5 rfl).eq (by rw [xL]))) (λG' v1 v2 q sG hq r1 Y=>?_) (λG' v1 v2 q sG hq _ r1 Y=>cE (by simp [aX]) Y) (cr Z6)) (by rw [IB])) ag)) λc4 H6 o6 s6 l6 E6=>?_
  .obtain ⟨t,ht,rfl⟩:=Lg.mp hq
   exact En (n:=t.1) (a:=a) T.cl T.nS (by simp [aX,c0]) (sG _ _ a3) rfl (sG _ _ a4) (cE (by simp [aX]) r1)
  have d0:=(o6 0 Z5).trans c0
  have b6:=(s6.but I) _ _ a3
  have b7:=(s6.but I) _ _ a4
  refine fY (i:=5) l6 E6 (ae.eq (Cj (K:=K) (caps:=aX [0] 2) (i:=1) (j:=2) Z5 (ps:=jh m) (p:=λq=> !decide (q.1.name∈fm st)) (f:=λq=>.tup [q.1,q.2]) (fy ((aI E6 rfl).eq (by rw [xL]))) (λG' v1 v2 q sG hq r1 Y=>?_) (λG' v1 v2 q sG hq _ r1 Y=>aM (aa (cE (by simp [aX]) r1) (aa (cE (by simp [aX]) Y) ag))) (cr Z6)) (by rw [Cy])) λbc H7 o7 s7 l7 E7=>?_
  .obtain ⟨t,ht,rfl⟩:=Lg.mp hq
   exact GI (n:=t.1) (a:=a) T.cl T.nS (by simp [aX,d0]) (sG _ _ b6) rfl (sG _ _ b7) (cE (by simp [aX]) r1)
  have S7:ab H H7:=s4.trans (s5.trans (s6.trans s7))
  have e0:bc[0]?=some (some (.ref a)):=(o7 0 Z5).trans d0
  have aj:=S7 _ _ ha
  have b8:aA (but H7 Z) bc [none,some (.int ((n:Nat):Int)),some (.tup g),some (.lst (pairD m)),some (.tup (du (fm st) m)),some (.lst (pairD (restOf (fm st) m)))]:=by
   have:=E7.fk aj rfl
   rw [j7 af] at this
   exact this
  have cd:but H7 (ls++l::Z)=but H7 Z:=j7 (tq a0 a1)
  have ch:au (ls++l::Z) H7:=λx c=>(lv.same S7) x ((tq a0 a1 x).mp c)
  have L:=b8
  rw [<-cd] at L
  refine Ir (K:=K) (to:=kF K (aR 0) "offers") (ty:=aR 4) (te:=m8 (bb (aR 1) (bb (aR 5) bv))) (M:=Z) (o:=(n,restOf (fm st) m)) (key:=du (fm st) m) ch (λQ q=>⟨.ref a,e0,a,C,dx,_,.ref l,rfl,aj,T.cl,T.nO,rfl,q⟩) (hO.same S7) (Fh cq _) hz (aI L (i:=4) rfl) (aM (aa (aI L (i:=1) rfl) (aa (aI L (i:=5) rfl) ag))) λk H8 n8 i8 k8 l8 O8=>?_
  have N:a≠l:=λz=>by
   obtain ⟨c5,O,_⟩:=hO.kvs
   rw [<-z,ha] at O;cases O
  have bi:a∉ls:=λz=>by
   obtain ⟨vs,O⟩:=hO.lists a z
   rw [ha] at O;cases O
  have bk:=k8 _ _ N bi aj
  have am:a∉k:=λz=>by
   obtain ⟨vs,O⟩:=O8.lists a z
   rw [bk] at O;cases O
  obtain ⟨u1,bl,co⟩:=E7.get 1 _ rfl
  have cs:=co.dP
  subst cs
  refine ⟨.int ((n:Nat):Int),bl,.ref a,e0,a,C,dx,_,rfl,bk,T.cl,T.nN,(show 5<1000 by decide),?_⟩
  have U:∀x∈a::l::k,x∈os\/H x=none:=λx c=>by
   rw [G]
   rcases KY.mp c with z|z
   .exact .inl (by rw [z];simp)
   .rcases KY.mp z with z|z
    .exact .inl (by rw [z];simp)
    .rcases n8 x z with w|w
     .exact .inl (by simp [w])
     .refine .inr ?_
      cases qq:H x with
      |none=>rfl
      |some u=>rw [S7 _ _ qq] at w;cases w
  have bs:∀x∈os,x∈a::l::k:=λx c=>by
   rw [G] at c
   rcases KY.mp c with z|z
   .rw [z];simp
   .rcases KY.mp z with z|z
    .rw [z];simp
    .exact KG _ (KG _ (i8 x z))
  have bt:∀b u,b∉os->H b=some u->upd H8 a (.ins C dx (jn v0 sa w2 l ((n:Nat):Int))) b=some u:=λb u hb qb=>by
   rw [G] at hb
   simp only [KY,PH] at hb
   rw [aC hb.1]
   exact k8 b u hb.2.1 hb.2.2 (S7 _ _ qb)
  have SZ:ab (but H Z) (but (upd H8 a (.ins C dx (jn v0 sa w2 l ((n:Nat):Int)))) ((a::l::k)++Z)):=ua U v bt
  have O9:eR (upd H8 a (.ins C dx (jn v0 sa w2 l ((n:Nat):Int)))) ((a::l::k)++Z) l k (st.of++[(du (fm st) m,(n,restOf (fm st) m))]):=by
   have hc:∀x,x∈k++l::Z↔x∈k++l::((a::l::k)++Z):=λx=>by
    simp only [Ld,KY]
    constructor
    .rintro (z|z|z)
     .exact .inl z
     .exact .inr (.inl z)
     .exact .inr (.inr (.inr z))
    .rintro (z|z|(z|z|z)|z)
     .exact .inl z
     .exact .inr (.inl z)
     .exact .inr (.inr (by rw [z];exact aZ))
     .exact .inr (.inl z)
     .exact .inl z
     .exact .inr (.inr z)
   refine (O8.Gs hc).frame Z8 (λx c=>by simp [c]) Z8 (λx c=>by simp [c]) (λb u hb qb=>?_) ?_
   .rw [aC]
    .exact qb
    .intro z
     rcases KY.mp hb with w|w
     .exact N (by rw [<-z,w])
     .exact am (by rw [<-z];exact w)
   .rw [dH Z8]
    exact ab.refl _
  refine q (a::l::k) _ U bs bt (λx c=>?_) ?_
  .refine (l8.upd (a:=a)) x ?_
   rcases Ld.mp c with z|z
   .rcases KY.mp z with z|z
    .rw [z];exact KW _ (KG _ aZ)
    .rcases KY.mp z with z|z
     .rw [z];exact KW _ KN
     .exact K9 _ z
   .exact KW _ (KG _ z)
  .have eS:dw st n g={st with of:=st.of++[(du (fm st) m,(n,restOf (fm st) m))],newest:=n}:=by unfold dw;rw [J]
   rw [eS]
   exact ⟨⟨dx,v0,sa,w2,l,k,oS,rfl,aK,r0.mono SZ,SZ _ _ as,rg.mono SZ,O9⟩⟩
 .have J:bw st.cW g []=none:=by
   cases J:bw st.cW g [] with
   |none=>rfl
   |some m=>rw [J] at e;exact absurd e (by simp [nJ])
  have S5:=s4.trans s5
  have eS:dw st n g=st:=by unfold dw;rw [J]
  have hc:∀x,x∈os++Z↔x∈Z:=λx=>⟨λh=>by
   rcases Ld.mp h with z|z
   .exact v x z
   .exact z,λh=>KW _ h⟩
  refine q os H5 (λx c=>.inl c) (λx c=>c) (λb u _ qb=>S5 _ _ qb) (λx c=>(lv.same S5) x ((hc x).mp c)) ?_
  rw [eS]
  refine an.frame v (λx c=>K9 _ c) (λb u _ qb=>S5 _ _ qb) ?_
  rw [j7 hc]
  exact S5.but Z
end
end a8
namespace a8
open PySem L2 FL
section
variable {P:Program}{w:World}{K:PySem.W.Frag}{mg:Str->Option Value}{base:Heap}{f:Addr}{fd:FuncData}
def uE:b9 ["self","setting","guard","slots"] ["self","setting"] (be mJ):=⟨rfl,rfl,rfl,Z9,rfl,Z9,Z9⟩
def FH(F:aH K "allows" "Step.allows" mJ f fd)(T:kE K C)(B:Bl mg)(k:a5 P w K mg base 1 "filled" ["atom","setting"] (bJ pW))(l:a5 P w K mg base 1 "holds" ["guard"] (bJ qF)):bq P w K mg base bI 2 f fd ["self","setting"] (wk C):=by
 refine F.ok uE (λvs H Q E ⟨_,_,_,_,_,e,_⟩=>by rw [e];rfl) (λa2 A ac s H vs Q E hr h=>?_)
 obtain ⟨M,st,S,v0,v1,rfl,lv,af,r1,hS,hg,q⟩:=h
 obtain ⟨a,dx,w0,sa,w3,ao,oS,rfl,ga,g0,g1,g3,g2⟩:=af
 refine ⟨_,(az (dh Lj rfl (cF (dJ (pv 0) rfl)) (kn rfl (eY (bp 2 uE.nd) (eY (bp 3 uE.nd) iQ))) (ay (bB (dF (cu (bQ l hr (ah (bQ k hr (ah (pv 2) (ah (fC ["setting","slot"] [1] 1 (cF (pv 3)) (λ_ _ _ _ _=>(bp 1 (show (["setting","slot"]:List Str).Nodup from by decide+kernel))) (λ_ _ _ _ _=>jm) (λ_ _ _ _ _=>(j9 (pv 0) (pv 1)))) ap))) ap)))) (ay (bd cA)) bS)))
   (ay (bd cA))),?_⟩
 have E0:aA (but H M) (L2.start ["self","setting","guard","slots"] [.ref a,v1]) [none,some (.lst (pairD S)),none,none]:=fL (.raw (.dat r1 .nil)) _
 refine jA (M:=M) (ds:=st.gs.map lz) (fy (gx T.cl T.nG rfl ga rfl g3)) lv λH1 I=>?_
 refine ⟨λj b G=>ab H1 G/\b[0]?=some (some (.ref a))/\aA (but G M) b [none,some (.lst (pairD S)),none,none]/\gi S (st.gs.take j)=true,⟨ab.refl _,rfl,E0.same I,rfl⟩,λj b G ⟨x,_⟩=>⟨x.but M,(lv.same I).same x⟩,?_,?_⟩
 .rintro j d x b G J o ⟨L,i0,E',c⟩ Y rx
  obtain ⟨g,t,rfl⟩:∃g,st.gs[j]?=some g/\d=lz g:=by
   rw [KZ] at o
   cases e:st.gs[j]? with
   |none=>rw [e] at o;cases o
   |some y=>rw [e] at o;exact ⟨y,rfl,(K8 o).symm⟩
  obtain ⟨⟨r,a1,b1,eg,N,O,aj⟩,hi,hz⟩:=hg g (KU t)
  refine nH rx λu1 u2 q1 q2=>?_
  have E3:aA (but J M) ((b.set 2 (some u1)).set 3 (some u2)) [none,some (.lst (pairD S)),some (.tup g.1),some (.lst (g.2.map λn=>D.int (n:Nat)))]:=((E'.same Y).set 2 q1).set 3 q2
  have l3:au M J:=(lv.same (I.trans L)).same Y
  obtain ⟨vS,am,rS⟩:=E3.get 1 _ rfl
  have hp:=yB hS hi
  have cq:∀y∈g.1,y.sc=true:=λy hy=>by
   rw [eg] at hy
   simp only [KY,Lu,LO] at hy
   rcases hy with rfl|rfl|rfl
   .rfl
   .exact N
   .exact O
  have an:bY (eh S g.2) (.str r)=.str r:=by
   refine jv ?_
   cases e:fi (eh S g.2) (.str r) with
   |false=>rfl
   |true=>
    obtain ⟨p,u,e2⟩:=Pp.mp e
    have e2:D.str p.1=.str r:=Le e2
    have:=(hp p u).2
    rw [e2,aj] at this;cases this
  have m:g.1.map (bY (eh S g.2))=[.str r,bY (eh S g.2) a1,bY (eh S g.2) b1]:=by
   rw [eg,LB,LB,LB,an];rfl
  have z:∀p∈eh S g.2,p.2.sc=true:=λp u=>(hp p u).1
  have U:holdsA (g.1.map (bY (eh S g.2)))=holdsD r (bY (eh S g.2) a1) (bY (eh S g.2) b1):=by rw [m];rfl
  have as:=cb (R:=qF) (E:=L2.E0) (d:=.bl (holdsA (g.1.map (bY (eh S g.2))))) (ds:=[.tup (g.1.map (bY (eh S g.2)))]) ⟨r,_,_,by rw [m],(kg N z).2,(kg O z).2,by rw [U]⟩
   (aa (cb (R:=pW) (E:=L2.E0) (ds:=[.tup g.1,.lst (pairD (eh S g.2))]) ⟨g.1,eh S g.2,rfl,cq,z,by rw [eg];exact (show 3<=1000 by decide),rfl⟩ (aa (aI E3 (i:=2) rfl) (aa (ae.eq (gf (caps:=aX [1] 1) (i:=1) (p:=λ_=>true) (f:=λd=>match d with|.int n=>xq (S.getD n.toNat (("":Str),.av))|_=>.av) (tt:=ka) (te:=bz (eF K) (aR 0) (aR 1)) (fy (K:=K) (aI E3 (i:=3) rfl)) (λG' v d _ _ _=>jG) (λG' v d sG o _ rv=>?_) (by rw [KP];exact cr Z6)) ?_) ag))) ag)
  .refine gX l3 E3 (dL (cm as)) (λe H4 s4 l4 E4=>?_) (λe H4 s4 l4 E4=>nx ?_)
   .have hf:gi S st.gs=false:=by
     unfold gi
     rw [List.all_eq_false]
     exact ⟨g,KU t,by simpa using e⟩
    rw [hf] at q
    exact q H4 (I.trans (L.trans (Y.trans s4)))
   .refine ⟨L.trans (Y.trans s4),?_,(E4.drop 2).drop 3,?_⟩
    .rw [KQ Z5,KQ Z5];exact i0
    .unfold gi at c⊢
     rw [LG,t,List.all_append,c]
     simpa using e
  .obtain ⟨n,hn,rfl⟩:=Lg.mp o
   have a0:=hi n hn
   have h0:((aX [1] 1 ((b.set 2 (some u1)).set 3 (some u2))).set 1 (some v))[0]?=some (some vS):=by simp only [aX,LB,Nq,am];rfl
   have h1:((aX [1] 1 ((b.set 2 (some u1)).set 3 (some u2))).set 1 (some v))[1]?=some (some v):=by simp [aX]
   refine bR (ds:=pairD S) ?_ (cE h0 (rS.mono sG)) (cE h1 rv)
   refine jI Z6 ?_
   show (pairD S)[n]?=some (xq (S.getD n (("":Str),.av)))
   unfold pairD
   rw [KZ,List.getD,KL a0]
   rfl
  .rw [LZ.mpr λ_ _=>rfl]
   unfold eh pairD
   rw [LH,LH]
   rfl
 .rintro b G ⟨L,i0,E',c⟩
  rw [KP,Lz (KR _)] at c
  rw [c] at q
  exact q G (I.trans L)
def kU:b9 ["self","way","lowest","setting","places","shared_things","found","place","pairs","further"] ["self","way","lowest"] (be mH):=⟨rfl,rfl,rfl,Z9,rfl,Z9,Z9⟩
def DS(F:aH K "carry_on" "Step.carry_on" mH f fd)(T:kE K C)(B:Bl mg)(t:d9 P w K mg base 2 C "allows" ["self","setting"] (wk C)):bq P w K mg base bI 3 f fd ["self","way","lowest"] (ug C):=by
 refine F.ok kU (λvs H Q E ⟨_,_,_,_,_,_,e,_⟩=>by rw [e];rfl) (λed A ch s H vs Q E hr h=>?_)
 obtain ⟨M,st,w0,lo,v0,v1,rfl,lv,an,r1,hS,a0,a1,Y,q⟩:=h
 obtain ⟨a,dx,w1,sa,w3,ao,oS,rfl,ga,g0,gs,g3,g2⟩:=id an
 have co:=fO hr
 have mw:=T.cl
 refine ⟨_,(az (bg 3 kU.nd (aT (pv 1) aE))
   (az (bg 4 kU.nd (aT (pv 1) aE))
   (az (bg 5 kU.nd (sk B (fC ["setting","slot"] [3] 1 (Dr (Jj (dJ (pv 0) rfl))) (λ_ _ _ _ _=>(bp 1 (show (["setting","slot"]:List Str).Nodup from by decide+kernel))) (λ_ _ _ _ _=>jm) (λ_ _ _ _ _=>(j9 (j9 (pv 0) (pv 1)) aE)))))
   (az (bg 6 kU.nd (cQ ap))
   (az (dh Lj rfl (Dz B.reversed (ah (tL co (dJ (pv 0) rfl) (pv 5) (cQ ap) ⟨rfl,rfl,rfl,rfl⟩) ap)) (kn rfl (eY (bp 7 kU.nd) (eY (bp 8 kU.nd) iQ))) (az (bB (bK jE (pv 7) (pv 2)) (ay Fb) bS)
   (az (bg 9 kU.nd (cj k9 (pv 3) (pv 8)))
   (ay (bB (cu (kJ (pv 0) mw t hr (ah (pv 9) ap))) (ay (jx (pv 6) (dy (ah (pv 9) (ah (cj Aw (pv 4) (dy (ah (pv 7) ap))) ap))))) bS)))))
   (ay (bd (pv 6)))))))),?_⟩
 have E0:aA (but H M) (L2.start ["self","way","lowest","setting","places","shared_things","found","place","pairs","further"] [.ref a,v1,.int lo]) [none,some (cR w0),some (.int lo),none,none,none,none,none,none,none]:=fL (.raw (.dat r1 (.dat (.int lo) .nil))) _
 obtain ⟨S,c⟩:=w0
 have hS:jj S:=hS
 have a0:S.length<=500:=a0
 have a1:c.length<=500:=a1
 have Y:jQ S.length st:=Y
 refine fY (i:=3) lv E0 (bV (ds:=[.lst (pairD S),.tup (c.map λn=>D.int (n:Nat))]) (d:=.lst (pairD S)) ge (aI E0 rfl) ar) λeg H1 o1 s1 l1 E1=>?_
 refine fY (i:=4) l1 E1 (bV (ds:=[.lst (pairD S),.tup (c.map λn=>D.int (n:Nat))]) (d:=.tup (c.map λn=>D.int (n:Nat))) rfl (aI E1 rfl) ar) λac H2 o2 s2 l2 E2=>?_
 have a2:ac[0]?=some (some (.ref a)):=(o2 0 Z5).trans ((o1 0 Z5).trans rfl)
 have a3:ab (but H M) (but H2 M):=(s1.trans s2).but M
 obtain ⟨vS,cs,rS⟩:=E2.get 3 _ rfl
 have ct:(fH st.shared).map (·.2)=(st.shared.map λp=>((p.2:Nat):Int)).map V.int:=by unfold fH;rw [LH,LH];rfl
 refine fY (i:=5) (d:=.tup (gP S (iG st))) l2 E2 (rm (aa (ae.eq (gf (caps:=aX [3] 1) (i:=1) (p:=λ_=>true) (f:=λd=>match d with|.int n=>(S.getD n.toNat (("":Str),.av)).2|_=>.av) (tt:=ka) (te:=bz (eF K) (bz (eF K) (aR 0) (aR 1)) (tC (.int 1))) (Ja (kB T.cl T.nS a2 (a3 _ _ ga) rfl) (a3 _ _ gs) ct) (λG' v d _ _ _=>jG) (λG' v d sG hd _ rv=>?_) (by rw [KP,KP];have:=Y.shl;exact cr Z6)) ?_) ag)) λej H3 o3 s3 l3 E3=>?_
 .obtain ⟨z,c1,rfl⟩:=Lg.mp hd
  obtain ⟨p,c2,rfl⟩:=Lg.mp c1
  have af:=Y.sh p.2 (Lg.mpr ⟨p,c2,rfl⟩)
  generalize p.2=n at af rv
  have h0:((aX [3] 1 ac).set 1 (some v))[0]?=some (some vS):=by simp only [aX,LB,Nq,cs];rfl
  have h1:((aX [3] 1 ac).set 1 (some v))[1]?=some (some v):=by simp [aX]
  have hp:(pairD S)[n]?=some (.tup [.str S[n].1,S[n].2]):=by unfold pairD;rw [KZ,KL af];rfl
  have hg:S.getD n (("":Str),.av)=S[n]:=by rw [List.getD,KL af];rfl
  refine ae.eq (bV (ds:=[.str S[n].1,S[n].2]) (d:=S[n].2) rfl (bR (ds:=pairD S) (d:=.tup [.str S[n].1,S[n].2]) (jI (i:=(n:Int)) Z6 (by rw [MM];exact hp)) (cE h0 (rS.mono sG)) (cE h1 rv)) ar) ?_
  show S[n].2=(S.getD (n:Int).toNat (("":Str),.av)).2
  rw [MM,hg]
 .show D.lst _=D.lst (gP S (iG st))
  rw [LZ.mpr λ_ _=>rfl]
  unfold gP eh iG
  rw [LH,LH,LH,LH]
  rfl
 have a4:=EI hS Y.sh
 refine oU (i:=6) l3 E3 Z8 ag (Ll _) λb c3 c4 H5 o5 i5 n5 h5 r5 l5 k5 E5=>?_
 have bc:ab H H5:=(s1.trans (s2.trans s3)).trans λb o e=>(k5 b o e).2
 have aj:H b=none:=none_of (s1.trans (s2.trans s3)) k5
 have SG:ab (but H M) (but H5 (b::M)):=iW aj bc
 have bi:c4[0]?=some (some (.ref a)):=(o5 0 Z5).trans ((o3 0 Z5).trans a2)
 generalize bk:gP S (iG st)=m at a4 E5 q
 unfold gS at q
 rw [show gP ((S,c):aJ).1 (iG st)=m from bk] at q
 have da:((fP st.of m).reverse).length<=st.of.length:=by rw [Oj];exact Lv _ _
 have bl:∀o∈(fP st.of m).reverse,o∈st.of:=λo hm=>(La.mp (NK.mp hm)).1
 have bs:(g6 st.of m).reverse=((fP st.of m).reverse).map λo=>mN o.2:=by unfold g6;rw [O0]
 generalize (fP st.of m).reverse=L at q da bl bs
 refine jA (M:=b::M) (ds:=L.map λo=>mN o.2) (by
  have:=F6 (K:=K) (aa (J9 T.cl T.nO bi (SG _ _ ga) rfl (g2.mono SG) a4 (aI E5 (i:=5) rfl)) ag)
  rw [bs] at this
  exact this) l5 λH6 s6=>?_
 refine ⟨λj k J=>∃ws,k[0]?=some (some (.ref a))/\k[6]?=some (some (.ref b))/\J b=some (.lst ws)/\aD (but J (b::M)) ws (((L.take j).map (ny (S,c))).filter (λx=>gi x.1 st.gs)|>.map cR)/\ab H J/\au (b::M) J/\ab (but H6 (b::M)) (but J (b::M))/\aA (but J (b::M)) k [none,some (cR (S,c)),some (.int lo),some (.lst (pairD S)),some (.tup (c.map λn=>D.int (n:Nat))),some (.tup m),none,none,none,none]/\∀o∈L.take j,fresh lo o=true,
  ⟨c3,bi,i5,s6 _ _ h5,r5.mono (s6.but _),bc.trans s6,l5.same s6,ab.refl _,E5.same s6,λo hm=>by simp at hm⟩,λj k J ⟨_,_,_,_,_,_,x,y,_,_⟩=>⟨y,x⟩,?_,?_⟩
 .rintro j d x k J bt hd ⟨ws,j0,j5,hb,rb,S0,l',S',E',u⟩ r rx
  obtain ⟨o,G,rfl⟩:∃o,L[j]?=some o/\d=mN o.2:=by
   rw [KZ] at hd
   cases e:L[j]? with
   |none=>rw [e] at hd;cases hd
   |some y=>rw [e] at hd;exact ⟨y,rfl,(K8 hd).symm⟩
  have dc:=KU G
  have am:=Y.of o (bl o dc)
  have ek:=(KJ.mp G).1
  have ec:=Y.uR
  refine nH rx λu1 u2 q1 q2=>?_
  have E7:aA (but bt (b::M)) ((k.set 7 (some u1)).set 8 (some u2)) [none,some (cR (S,c)),some (.int lo),some (.lst (pairD S)),some (.tup (c.map λn=>D.int (n:Nat))),some (.tup m),none,some (.int (o.2.1:Nat)),some (.lst (pairD o.2.2)),none]:=((E'.same r).set 7 q1).set 8 q2
  have l7:=l'.same r
  have c0:((k.set 7 (some u1)).set 8 (some u2))[0]?=some (some (.ref a)):=by rw [KQ Z5,KQ Z5];exact j0
  have c5:((k.set 7 (some u1)).set 8 (some u2))[6]?=some (some (.ref b)):=by rw [KQ Z5,KQ Z5];exact j5
  have dd:pairD S++pairD o.2.2=pairD (S++o.2.2):=by unfold pairD;rw [Lq]
  have bx:∀ps:aP,(pairD ps).length=ps.length:=λps=>by unfold pairD;rw [KP]
  refine gX l7 E7 (bN (jL (aI E7 rfl) (aI E7 rfl))) (λe b0 I b6 N=>?_) (λe b0 I b6 N=>?_)
  .have df:fresh lo o=false:=by
    have h1:=Le e
    unfold FL.fresh
    exact Lp Z6
   refine ⟨.ref b,c5,q (.ref b) b0 (S0.trans (r.trans I)) (mf n5 (I _ _ (r _ _ hb)) ?_)⟩
   rw [zl u G df]
   exact rb.mono ((r.trans I).but _)
  refine nx ?_
  have b7:fresh lo o=true:=by
   have h1:=LQ e
   unfold FL.fresh
   exact Ln Z6
  have U:∀x∈L.take (j+1),fresh lo x=true:=λx hx=>by
   rw [LG,G] at hx
   rcases Ld.mp hx with z|z
   .exact u x z
   .have:x=o:=by simpa using z
    rw [this];exact b7
  refine fY (i:=9) b6 N ((kA (by rw [bx,bx];have:=am.2.1;omega) (aI N rfl) (aI N rfl)).eq (by rw [dd])) λem H8 o8 s8 l8 E8=>?_
  have l:ab bt H8:=I.trans s8
  have d0:=(o8 0 Z5).trans c0
  have d5:=(o8 6 Z5).trans c5
  have di:jj (S++o.2.2):=λp hp=>by
   rcases Ld.mp hp with z|z
   .exact hS p z
   .exact am.1 p z
  have dp:ab (but H M) (but H8 (b::M)):=iW aj (S0.trans (r.trans l))
  have tk:(L.take (j+1)).map (ny (S,c))=(L.take j).map (ny (S,c))++[(S++o.2.2,c++[o.2.1])]:=by
   rw [LG,G,Lq];rfl
  refine gX l8 E8 (Js d0 (an.mono dp) di (λg hg=>by rw [Lh];exact am.2.2 g hg) (aI E8 rfl)) (λe H9 O l9 E9=>?_) (λe H9 O l9 E9=>nx ?_)
  .have dt:∀(L:List aJ),((L.filter λx=>gi x.1 st.gs).map cR).length<=L.length:=λL=>by rw [KP];exact Lv _ _
   have b8:=dt ((L.take j).map (ny (S,c)))
   rw [KP (as:=List.take j L),Lx] at b8
   refine wG l9 E9 (a:=b) Z8 d5 (O _ _ (l _ _ (r _ _ hb))) (rb.mono ((r.trans (l.trans O)).but _)) (cr (Lk b8 Z6)) (aM (aa (aI E9 rfl) (aa (zO (by simp;omega) (aI E9 rfl) (aM (aa (aI E9 rfl) ag))) ag))) λen d1 cd d2 d3 d4 ea=>?_
   have eb:ab (but H9 (b::M)) (but d1 (b::M)):=nD Z8 cd
   refine ⟨_,d0,d5,d3,?_,nE (S0.trans (r.trans (l.trans O))) aj cd,d2,S'.trans (((r.trans (l.trans O)).but _).trans eb),((ea.drop 7).drop 8).drop 9,U⟩
   rw [tk,Me,Lq]
   have e1:List.map cR (List.filter (λx=>gi x.1 st.gs) [((S++o.2.2,c++[o.2.1]):aJ)])=[cR (S++o.2.2,c++[o.2.1])]:=by simp [e]
   rw [e1]
   have e2:cR (S++o.2.2,c++[o.2.1])=.tup [.lst (pairD (S++o.2.2)),.tup ((c.map λn=>D.int (n:Nat))++[.int (o.2.1:Nat)])]:=by unfold cR;rw [Lq];rfl
   rw [e2]
   exact d4
  .refine ⟨ws,d0,d5,O _ _ (l _ _ (r _ _ hb)),?_,S0.trans (r.trans (l.trans O)),l9,S'.trans ((r.trans (l.trans O)).but _),((E9.drop 7).drop 8).drop 9,U⟩
   rw [tk,Me,Lq]
   have e1:List.map cR (List.filter (λx=>gi x.1 st.gs) [((S++o.2.2,c++[o.2.1]):aJ)])=[]:=by simp [e]
   rw [e1,LA]
   exact rb.mono ((r.trans (l.trans O)).but _)
 .rintro k J ⟨ws,j0,j5,hb,rb,S0,l',S',E',u⟩
  rw [KP,Lz (KR _)] at rb u
  refine ⟨.ref b,j5,q (.ref b) J S0 (mf n5 hb ?_)⟩
  rw [qk u]
  exact rb
end
end a8
namespace a8
open PySem L2 FL
section
variable {P:Program}{w:World}{K:PySem.W.Frag}{mg:Str->Option Value}{base:Heap}{f:Addr}{fd:FuncData}
def jV:b9 ["body","waiting","slots","steps","asker","shared","blank","guards"] ["body"] (be sU):=⟨rfl,rfl,rfl,Z9,rfl,Z9,Z9⟩
def IF(F:aH K "steps_for" "steps_for" sU f fd)(B:Bl mg)(L:a5 P w K mg base 2 "guards_in" ["body"] (bJ qT))(N:a5 P w K mg base 2 "askers_in" ["body"] (bJ xo))(c:a5 P w K mg base 2 "blanks_in" ["atom"] (bJ o0))(U:a5 P w K mg base 3 "slots_of" ["atom","slots"] (iO wo))(G:a5 P w K mg base 4 "is_ready" ["guard","slots"] (iO zy))(bc:jf P w K mg base 1 C "Step" ["self","asker","shared","guards"] (wW C)):bq P w K mg base bI 6 f fd ["body"] (xl C):=by
 refine F.ok jV (λvs H Q E ⟨_,_,_,e,_⟩=>by rw [e];rfl) (λf2 A em s H vs Q E hr h=>?_)
 obtain ⟨M,O,v0,rfl,lv,r1,hB,q⟩:=h
 have hu:=eD hr
 have bt:=fO hr
 refine ⟨_,(az (nq (i:=1) ["guard"] [] 1 jV.nd rfl (Or.inl rfl) (cF (bQ L hr (ah (pv 0) ap))) (λ_ _ _ _ _=>(bp 0 (jU _))) (λ_ _ _ _ _=>(gF (Bf (iB c hr (ah (pv 0) ap)) (λ_=>rfl)))) (λ_ _ _ _ _=>(pv 0)))
   (az (bg 2 jV.nd so)
   (az (bg 3 jV.nd (cQ ap))
   (az (dh Lj rfl (cF (bQ N hr (ah (pv 0) ap))) (bp 4 jV.nd) (az (bg 5 jV.nd (Fv (wD B (fC ["slots","blank"] [2] 1 (cF (bQ c hr (ah (pv 4) ap))) (λ_ _ _ _ _=>(bp 1 (show (["slots","blank"]:List Str).Nodup from by decide+kernel))) (λ_ _ _ _ _=>(gF (iu (lH (by exact bt) (pv 1) (pv 0))))) (λ_ _ _ _ _=>(dy (ah (pv 1) (ah (tj (by exact bt) (pv 0) (pv 1) (λ_ _=>rfl)) ap))))))))
   (az (dh Lj rfl (cF (bQ c hr (ah (pv 4) ap))) (bp 6 jV.nd) (ay (ky (xE bt (pv 2) (pv 6) (IM B (pv 2)) ⟨rfl,rfl,rfl,rfl⟩))))
   (az (nq (i:=7) ["slots","guard"] [2] 1 jV.nd rfl (Or.inl rfl) (cF (pv 1)) (λ_ _ _ _ _=>(bp 1 (show (["slots","guard"]:List Str).Nodup from by decide+kernel))) (λ_ _ _ _ _=>(gF (cu (iB G hr (ah (pv 1) (ah (pv 0) ap)))))) (λ_ _ _ _ _=>(dy (ah (pv 1) (ah (iB U hr (ah (pv 1) (ah (pv 0) ap))) ap)))))
   (az (nq (i:=1) ["slots","guard"] [2] 1 jV.nd rfl (Or.inl rfl) (cF (pv 1)) (λ_ _ _ _ _=>(bp 1 (show (["slots","guard"]:List Str).Nodup from by decide+kernel))) (λ_ _ _ _ _=>(gF (dF (cu (iB G hr (ah (pv 1) (ah (pv 0) ap))))))) (λ_ _ _ _ _=>(pv 1)))
   (ay (jx (pv 3) (u8 bc hr (ah (pv 4) (ah (pv 5) (ah (pv 7) ap)))))))))))
   (ay (bd (pv 3))))))),?_⟩
 have E0:aA (but H M) (L2.start ["body","waiting","slots","steps","asker","shared","blank","guards"] [v0]) [some (c8 O),none,none,none,none,none,none,none]:=fL (.dat r1 .nil) _
 have en:(O.filter aN).length<=100:=Lk (Lv _ _) hB.2
 refine fY (i:=1) (d:=cv ((O.filter aN).filter c9)) lv E0 (ae.eq (gf (caps:=aX [] 1) (i:=0) (p:=qh c9) (f:=λd=>d) (fy (ds:=(O.filter aN).map D.tup) (cb ⟨O,rfl,hB.1,hB.2,rfl⟩ (aa (aI E0 rfl) ag))) (λG' v d sG J r=>?_) (λG' v d sG J _ r=>cE (by simp [aX]) r) (by rw [KP];exact cr Z6)) ?_) λf3 H1 o1 s1 l1 E1=>?_
 .obtain ⟨g,hg,rfl⟩:=Lg.mp J
  exact zH (cb (d:=fU (ak [] g)) ⟨g,rfl,hB.1 g (La.mp hg).1,rfl⟩ (aa (cE (by simp [aX]) r) ag))
 .exact LL D.lst (sv _ c9 _ D.tup _ (λ_ _=>rfl) (λ_ _=>rfl))
 refine B7 (i:=2) l1 E1 Z8 λp f4 H2 o2 i2 n2 h2 l2 k2 E2=>?_
 refine oU (i:=3) l2 E2 Z8 ag (Ll _) λb ep er H3 o3 i3 n3 h3 r3 l3 k3 E3=>?_
 have es:er[2]?=some (some (.ref p)):=(o3 2 Z5).trans i2
 obtain ⟨a0,et⟩:=k3 _ _ h2
 have cs:ep=[]:=by cases r3;rfl
 subst cs
 have ct:ab H1 H2:=λx o e=>(k2 x o e).2
 have eu:ab H2 H3:=λx o e=>(k3 x o e).2
 have ev:ab H H3:=s1.trans (ct.trans eu)
 have ew:H p=none:=none_of s1 k2
 have c0:H b=none:=none_of (s1.trans ct) k3
 have ex:b∉M:=λz=>n3 (KG _ z)
 have ey:(O.filter λa=> !aN a).length<=100:=Lk (Lv _ _) hB.2
 have c1:∀a∈(O.filter λa=> !aN a),eV a:=λa ha=>hB.1 a (La.mp ha).1
 refine jA (M:=b::p::M) (ds:=(O.filter λa=> !aN a).map D.tup) (fy (cb ⟨O,rfl,hB.1,hB.2,rfl⟩ (aa (aI E3 rfl) ag))) l3 λH4 s4=>?_
 unfold eX at q
 generalize fv:(O.filter λa=> !aN a)=ac at q ey c1
 have c2:∀g∈(O.filter aN).filter c9,eV g:=λg hg=>hB.1 g (La.mp (La.mp hg).1).1
 have c3:((O.filter aN).filter c9).length<=100:=Lk (Lv _ _) en
 generalize (O.filter aN).filter c9=W0 at q c2 c3 E3
 refine ⟨λj t T=>∃m Wj done us am,cL ac [] W0=done++cL (ac.drop j) m Wj/\m.length<=100*j/\done.length<=j/\(∀g∈Wj,eV g)/\Wj.length<=100/\t[2]?=some (some (.ref p))/\t[3]?=some (some (.ref b))/\T p=some (.dK (dX m))/\T b=some (.lst us)/\gg C (but T (b::p::M)) us am done/\(∀os∈am,∀x∈os,H x=none)/\ab H T/\au (b::p::M) T/\ab (but H4 (b::p::M)) (but T (b::p::M))/\aA (but T (b::p::M)) t [some (c8 O),some (cv Wj),none,none,none,none,none,none],
  ⟨[],W0,[],[],[],rfl,KR _,KR _,c2,c3,es,i3,s4 _ _ et,s4 _ _ h3,.nil,(λos ho=>nomatch ho),ev.trans s4,l3.same s4,ab.refl _,E3.same s4⟩,λj t T ⟨_,_,_,_,_,_,_,_,_,_,_,_,_,_,_,_,_,x,y,_⟩=>⟨y,x⟩,?_,?_⟩
 .rintro j d x t T bx J ⟨m,Wj,done,us,am,I,ez,e0,a1,bk,j3,j4,hp,hb,a2,a3,S0,l',S',E'⟩ s5 rx
  obtain ⟨a,c4,rfl⟩:∃a,ac[j]?=some a/\d=.tup a:=by
   rw [KZ] at J
   cases e:ac[j]? with
   |none=>rw [e] at J;cases J
   |some y=>rw [e] at J;exact ⟨y,rfl,(K8 J).symm⟩
  have b0:=c1 a (KU c4)
  obtain ⟨e1,e2⟩:=KJ.mp c4
  rw [MI e1,e2] at I
  have E5:aA (but bx (b::p::M)) (t.set 4 (some x)) [some (c8 O),some (cv Wj),none,none,some (.tup a),none,none,none]:=(E'.same s5).set 4 rx
  have b3:(t.set 4 (some x))[2]?=some (some (.ref p)):=(KQ Z5).trans j3
  have b4:(t.set 4 (some x))[3]?=some (some (.ref b)):=(KQ Z5).trans j4
  have c5:=s5 _ _ hp
  have l5:=l'.same s5
  have lV:∀{X:Hp},au (b::p::M) X->au (b::M) X:=λl z hz=>l z (by
   rcases KY.mp hz with w|w
   .rw [w];exact KN
   .exact KG _ (KG _ w))
  have pV:p∉b::M:=λz=>by
   rcases KY.mp z with z|z
   .exact a0 z
   .exact n2 z
  have da:(ak [] a).Nodup:=wY NI
  have e3:=kW a []
  rw [MR] at e3
  have f0:=b0.len
  have dc:but bx (b::M) p=some (.dK (dX m)):=by rw [bh pV];exact c5
  refine J6 (i:=5) (M:=b::M) (ps:=((ak [] a).filter λb=>decide (b∈m)).map λb=>(b,D.int (m.idxOf b:Nat))) (lV l5) (E5.mono vM) Z8 (ae.eq (gf (caps:=aX [2] 1) (i:=1) (p:=λd=>decide (d.name∈m)) (f:=λd=>.tup [d,.int (m.idxOf d.name:Nat)]) (fy (ds:=(ak [] a).map D.str) (cb ⟨a,rfl,b0,rfl⟩ (aa (aI (E5.mono vM) rfl) ag))) (λG' v d sG J r=>?_) (λG' v d sG J e4 r=>?_) (by rw [KP];exact cr Z6)) ?_) (λz hz=>?_) ?_ λsa oS b6 H7 o7 i7 n7 m7 h7 s7 f5 E7=>?_
  .obtain ⟨n,hn,rfl⟩:=Lg.mp J
   exact zT (n:=n) (a:=p) (by simp [aX,b3]) (sG _ _ dc) (cE (by simp [aX]) r)
  .obtain ⟨n,hn,rfl⟩:=Lg.mp J
   exact aM (aa (cE (by simp [aX]) r) (aa (xV (n:=n) (a:=p) (by simp [aX,b3]) (sG _ _ dc) (Le e4) (cE (by simp [aX]) r)) ag))
  .unfold pairD
   rw [Mv,LH,LH]
   rfl
  .obtain ⟨n,hn,rfl⟩:=Lg.mp hz
   rfl
  .rw [LH]
   show (List.map (λb=>b) _).Nodup
   rw [NS]
   exact Pt _ da
  have e5:bA (((ak [] a).filter λb=>decide (b∈m)).map λb=>(b,D.int (m.idxOf b:Nat)))=fH (jp a m):=by
   unfold bA fH jp
   rw [LH,LH]
   rfl
  rw [e5] at h7
  have d3:b6[2]?=some (some (.ref p)):=(o7 2 Z5).trans b3
  have d4:b6[3]?=some (some (.ref b)):=(o7 3 Z5).trans b4
  have b7:=s7 _ _ c5
  have l7:au (b::p::M) H7:=l5.same s7
  have dd:aA (but H7 (b::p::M)) b6 [some (c8 O),some (cv Wj),none,none,some (.tup a),none,none,none]:=AB E7 b7
  have bs:sa≠p:=λz=>by rw [z,b7] at h7;cases h7
  have df:sa≠b:=λz=>m7 (by rw [z];exact KN)
  have di:sa∉M:=λz=>m7 (KG _ z)
  refine jA (M:=b::p::M) (ds:=(ak [] a).map D.str) (fy (cb ⟨a,rfl,b0,rfl⟩ (aa (aI dd rfl) ag))) l7 λH8 s8=>?_
  refine ⟨λk t T=>t[2]?=some (some (.ref p))/\t[3]?=some (some (.ref b))/\t[5]?=some (some (.ref sa))/\T p=some (.dK (dX (m++((ak [] a).take k).filter λx=> !decide (x∈m))))/\(∀z o,z≠p->H8 z=some o->T z=some o)/\au (b::p::M) T/\ab (but H8 (b::p::M)) (but T (b::p::M))/\aA (but T (b::p::M)) t [some (c8 O),some (cv Wj),none,none,some (.tup a),none,none,none],
   ⟨d3,d4,i7,by rw [Pu,Pe,LA];exact s8 _ _ b7,λz o _ e=>e,l7.same s8,ab.refl _,dd.same s8⟩,λk t T ⟨_,_,_,_,_,x,y,_⟩=>⟨y,x⟩,?_,?_⟩
  .rintro k d y τ X X' J ⟨t3,t4,t7,tp,tk,tl,tS,tE⟩ s9 ry
   obtain ⟨n,e6,rfl⟩:∃n,(ak [] a)[k]?=some n/\d=.str n:=by
    rw [KZ] at J
    cases e:(ak [] a)[k]? with
    |none=>rw [e] at J;cases J
    |some y=>rw [e] at J;exact ⟨y,rfl,(K8 J).symm⟩
   have E9:aA (but X' (b::p::M)) (τ.set 6 (some y)) [some (c8 O),some (cv Wj),none,none,some (.tup a),none,some (.str n),none]:=(tE.same s9).set 6 ry
   have w3:(τ.set 6 (some y))[2]?=some (some (.ref p)):=(KQ Z5).trans t3
   refine EN (n:=n) (tl.same s9) E9 Z8 w3 (s9 _ _ tp) ?_ (aI E9 rfl) λY kY lY hY EY=>?_
   .have h1:(m++((ak [] a).take k).filter λx=> !decide (x∈m)).length<=100*j+100:=by
     rw [Lh]
     have:=Lv (λx=> !decide (x∈m)) ((ak [] a).take k)
     rw [Lx] at this
     omega
    exact M6 (Lk h1 (show 100*j+100<=20000 by omega)) (show 20000<sizeLine by decide)
   .have SY:ab (but X' (b::p::M)) (but Y (b::p::M)):=nD Z8 kY
    refine ⟨w3,(KQ Z5).trans t4,(KQ Z5).trans t7,?_,λz o hz e=>kY z o hz (s9 _ _ (tk z o hz e)),lY,tS.trans ((s9.but _).trans SY),EY.drop 6⟩
    rw [<-JB da e6]
    exact hY
  .rintro τ X ⟨t3,t4,t7,tp,tk,tl,tS,tE⟩
   rw [KP,Lz (KR _),<-mn] at tp
   have b8:but X (b::M) p=some (.dK (dX (ak m a))):=by rw [bh pV];exact tp
   have dp:(ak m a).length<=100*(j+1):=by have:=kW a m;omega
   have EV:=tE.mono (vM (p:=p))
   refine fY (i:=7) (M:=b::M) (d:=.lst (((Wj.filter λg=>ck g (ak m a)).map λg=>(g,cO g (ak m a))).map lz)) (lV tl) EV (ae.eq (gf (caps:=aX [2] 1) (i:=1) (p:=qh λg=>ck g (ak m a)) (f:=xG λg=>lz (g,cO g (ak m a))) (fy (ds:=Wj.map D.tup) (aI EV rfl)) (λG' v d sG J r=>?_) (λG' v d sG J _ r=>?_) (by rw [KP];exact cr Z6)) ?_) λga H9 o9 s9 l9 E9=>?_
   .obtain ⟨g,hg,rfl⟩:=Lg.mp J
    exact cm (p9 (d:=.bl (ck g (ak m a))) ⟨g,_,rfl,a1 g hg,rfl⟩ (oZ (cE (by simp [aX]) r) (oJ (a:=p) (by simp [aX,t3]) (sG _ _ b8) pQ)))
   .obtain ⟨g,hg,rfl⟩:=Lg.mp J
    exact aM (aa (cE (by simp [aX]) r) (aa (p9 ⟨g,_,rfl,a1 g hg,rfl⟩ (oZ (cE (by simp [aX]) r) (oJ (a:=p) (by simp [aX,t3]) (sG _ _ b8) pQ))) ag))
   .rw [sv _ (λg=>ck g (ak m a)) _ (λg=>lz (g,cO g (ak m a))) _ (λ_ _=>rfl) (λ_ _=>rfl),LH]
    rfl
   have dt:=(s9.but (b::M)) _ _ b8
   have w3:=(o9 2 Z5).trans t3
   refine fY (i:=1) (M:=b::M) (d:=cv (Wj.filter λg=> !ck g (ak m a))) l9 E9 (ae.eq (gf (caps:=aX [2] 1) (i:=1) (p:=qh λg=> !ck g (ak m a)) (f:=λd=>d) (fy (ds:=Wj.map D.tup) (aI E9 rfl)) (λG' v d sG J r=>?_) (λG' v d sG J _ r=>cE (by simp [aX]) r) (by rw [KP];exact cr Z6)) ?_) λd0 Ha oa e7 la Ea=>?_
   .obtain ⟨g,hg,rfl⟩:=Lg.mp J
    exact dL (cm (p9 (d:=.bl (ck g (ak m a))) ⟨g,_,rfl,a1 g hg,rfl⟩ (oZ (cE (by simp [aX]) r) (oJ (a:=p) (by simp [aX,w3]) (sG _ _ dt) pQ))))
   .exact LL D.lst (sv _ (λg=> !ck g (ak m a)) _ D.tup _ (λ_ _=>rfl) (λ_ _=>rfl))
   have z3:=(oa 2 Z5).trans w3
   have z4:d0[3]?=some (some (.ref b)):=(oa 3 Z5).trans ((o9 3 Z5).trans t4)
   have z5:d0[5]?=some (some (.ref sa)):=(oa 5 Z5).trans ((o9 5 Z5).trans t7)
   have an:=s9.trans e7
   have d1:=an _ _ tp
   have cd:=AB Ea d1
   have e8:ab (but H8 (b::p::M)) (but Ha (b::p::M)):=tS.trans (an.but _)
   have ch:ab (but bx (b::p::M)) (but Ha (b::p::M)):=(((s7.trans s8).but _)).trans e8
   have d2:Ha b=some (.lst us):=an _ _ (tk b _ (LN a0) (s8 _ _ (s7 _ _ (s5 _ _ hb))))
   have d5:Ha sa=some (.cK oS (.dK (fH (jp a m)))):=an _ _ (tk sa _ bs (s8 _ _ h7))
   obtain ⟨u4,fa,q4⟩:=cd.get 4 _ rfl
   obtain ⟨u7,fl,q7⟩:=cd.get 7 _ rfl
   have cl:au (b::p::M) Ha:=tl.same an
   have ea:∀z o,H z=some o->Ha z=some o:=λz o e=>by
    have fn:z≠p:=de e ew
    exact an _ _ (tk z o fn (s8 _ _ (s7 _ _ (s5 _ _ (S0 _ _ e)))))
   have af:∀{z:Addr},Ha z=none->H z=none:=λ{z} e=>by
    cases qz:H z with
    |none=>rfl
    |some u=>rw [ea _ _ qz] at e;cases e
   refine ⟨.ref b,z4,(show gj K "list" (.ref b) _ from .inl ⟨rfl,us,aO.of d2⟩),u4,fa,.ref sa,z5,u7,fl,λx dx hx ec gb=>⟨x,dx,u4,.ref sa,u7,rfl,aK,λpo a4 co=>⟨rfl,?_⟩⟩⟩
   have aj:Ha po=none:=by
    rw [aC co] at a4
    by_cases e:po=dx
    .rw [e];exact ec
    .rw [aC e] at a4;exact a4
   have f1:po≠dx:=λe=>by rw [aC co,e,aK] at a4;cases a4
   have SX:ab Ha (upd (upd (upd (upd Ha dx (.own x)) x (.ins C dx [])) po (.dT [])) x (.ins C dx (jn u4 sa u7 po (-1)))):=λz o e=>by
    rw [aC (de e hx),aC (de e aj),aC (de e hx),aC (de e ec)];exact e
   refine ⟨b,us,.ref x,rfl,rfl,SX _ _ d2,by rw [a2.l1];exact cr Z6,?_⟩
   generalize ed:upd (upd (upd (upd Ha dx (.own x)) x (.ins C dx [])) po (.dT [])) x (.ins C dx (jn u4 sa u7 po (-1)))=HX at SX
   have fp:HX x=some (.ins C dx (jn u4 sa u7 po (-1))):=by rw [<-ed];exact aK
   have eg:HX po=some (.dT []):=by rw [<-ed,aC co];exact aK
   have eb:but (upd HX b (.lst (us++[.ref x]))) (b::p::M)=but HX (b::p::M):=dH KN
   have ao:ab (but Ha (b::p::M)) (but (upd HX b (.lst (us++[.ref x]))) (b::p::M)):=by rw [eb];exact SX.but _
   have fr:x∉b::p::M:=cl.fresh hx
   have ej:po∉b::p::M:=cl.fresh aj
   have fs:sa∉b::p::M:=by
    simp only [KY,PH]
    exact ⟨df,bs,di⟩
   refine ⟨ak m a,Wj.filter λg=> !ck g (ak m a),done++[oo a m Wj],us++[.ref x],am++[[x,po]],?_,dp,by rw [Lh,Mi];omega,λg hg=>a1 g (La.mp hg).1,Lk (Lv _ _) bk,z3,z4,?_,aK,?_,?_,?_,(cl.same SX).upd,S'.trans ((s5.but _).trans (ch.trans ao)),?_⟩
   .rw [I]
    show done++(_::_)=_
    rw [LK]
    rfl
   .rw [aC a0];exact SX _ _ d1
   .have ek:=(a2.mono ((s5.but _).trans (ch.trans ao)))
    refine ek.snoc ⟨x,dx,u4,sa,u7,po,oS,rfl,rfl,?_,q4.mono ao,?_,q7.mono ao,?_,rfl⟩ (λo ho z hz ft=>?_)
    .rw [eb,bh fr];exact fp
    .refine ao _ _ ?_
     rw [bh fs];exact d5
    .rw [eb,bh ej];exact eg
    .obtain ⟨i,hi⟩:=LM.mp ho
     obtain ⟨u,hu,_⟩:=a2.seen hi z hz
     obtain ⟨_,bi⟩:=ax ((s5.but _|>.trans ch) _ _ hu)
     rcases KY.mp ft with e|e
     .rw [e,hx] at bi;cases bi
     .have e:z=po:=by simpa using e
      rw [e,aj] at bi;cases bi
   .intro os ho z hz
    rcases Ld.mp ho with e|e
    .exact a3 os e z hz
    .have e:os=[x,po]:=by simpa using e
     rw [e] at hz
     rcases KY.mp hz with e|e
     .rw [e];exact af hx
     .have e:z=po:=by simpa using e
      rw [e];exact af aj
   .refine nE (a:=b) (λz o e=>?_) c0 (λz o hz e=>by rw [aC hz];exact e)
    exact SX _ _ (ea z o e)
   .exact (((cd.mono ao).drop 4).drop 7)
 .rintro t T ⟨m,Wj,done,us,am,I,ez,e0,a1,bk,j3,j4,hp,hb,a2,a3,S0,l',S',E'⟩
  rw [KP,NR (KR _)] at I
  have I:cL ac [] W0=done++[]:=I
  rw [LA] at I
  rw [I] at q
  refine ⟨.ref b,j4,q b us am T S0 (by rw [bh ex];exact hb) (a2.mono (d6 λz hz=>KG _ (KG _ hz))) a3 c0⟩
end
end a8
namespace a8
open PySem L2 FL
section
variable {P:Program}{w:World}{K:PySem.W.Frag}{mg:Str->Option Value}{base:Heap}{f:Addr}{fd:FuncData}
def Kc:b9 ["self","body"] ["self","body"] (be mT):=⟨rfl,rfl,rfl,Z9,rfl,Z9,Z9⟩
def Do(F:aH K "__init__" "Loom.__init__" mT f fd)(I:lC K CL)(B:Bl mg)(c:a5 P w K mg base 2 "guards_in" ["body"] (bJ qT))(j:a5 P w K mg base 2 "blanks_in" ["atom"] (bJ o0))(t:a5 P w K mg base 1 "holds" ["guard"] (bJ qF))(k:a5 P w K mg base 6 "steps_for" ["body"] (xl C)):bq P w K mg base bI 7 f fd ["self","body"] (vP C CL):=by
 refine F.ok Kc (λvs H Q E ⟨_,_,_,_,_,e,_⟩=>by rw [e];rfl) (λbk A a2 s H vs Q E hr h=>?_)
 obtain ⟨M,m,x,n,T,rfl,hx,lv,r1,U,hG,q⟩:=h
 refine ⟨_,(az (fA (pv 0) (bQ k hr (ah (pv 1) ap)) rfl)
   (az (fA (pv 0) (yM (uo B (fC ["guard"] [] 1 (cF (bQ c hr (ah (pv 1) ap))) (λ_ _ _ _ _=>(bp 0 (jU _))) (λ_ _ _ _ _=>(gF (dF (Bf (iB j hr (ah (pv 0) ap)) (λ_=>rfl))))) (λ_ _ _ _ _=>(iB t hr (ah (pv 0) ap)))))) rfl)
   (az (fA (pv 0) aE rfl)
   (az (fA (pv 0) aE rfl)
   (ay (fA (pv 0) (kO kM aE) rfl)))))),?_⟩
 have lx:au (x::M) H:=lv.cons hx
 have Y:al (but H (x::M)) T (c8 m):=al.fk hx rfl r1
 have E0:aA (but H (x::M)) (L2.start ["self","body"] [.ref x,T]) [none,some (c8 m)]:=fL (.raw (.dat Y .nil)) _
 have bt:(m.filter aN).length<=100:=Lk (Lv _ _) U.2
 have ac:∀g∈m.filter aN,eV g/\∃r a b,g=[.str r,a,b]:=λg L=>⟨U.1 g (La.mp L).1,hG g (La.mp L).1 (La.mp L).2⟩
 refine ⟨T,rfl,x::M,m,T,rfl,lx,Y,U,λp us af H1 s1 hp aj a3 bx=>?_⟩
 have a4:=s1 _ _ hx
 refine ⟨.ref x,rfl,x,CL,n,[],rfl,a4,I.cl,I.nS,by decide,?_⟩
 generalize J:upd H1 x (.ins CL n (cM "steps" (.ref p) []))=H2
 have bc:H2 x=some (.ins CL n [("steps",.ref p)]):=by rw [<-J];exact aK
 have am:but H2 (x::M)=but H1 (x::M):=by rw [<-J];exact dH KN
 have l2:au (x::M) H2:=by rw [<-J];exact (lx.same s1).upd
 have E2:aA (but H2 (x::M)) (L2.start ["self","body"] [.ref x,T]) [none,some (c8 m)]:=by rw [am];exact E0.same s1
 have K2:∀b u,b≠x->H b=some u->H2 b=some u:=λb u hb e=>by rw [<-J,aC hb];exact s1 _ _ e
 refine AX (BO (z8 (wF (bs:=((m.filter aN).filter λg=> !c9 g).map holdsA) (aa (ae.eq (gf (caps:=aX [] 1) (i:=0) (p:=qh λg=> !c9 g) (f:=xG λg=>.bl (holdsA g)) (fy (ds:=(m.filter aN).map D.tup) (cb (R:=qT) (E:=L2.E0) ⟨m,rfl,U.1,U.2,rfl⟩ (aa (aI E2 (i:=1) rfl) ag))) (λG' v d sG hd r=>?_) (λG' v d sG hd _ r=>?_) (by rw [KP];exact cr Z6)) ?_) ag))) l2 λv3 H3 s3 r3=>?_)
 .obtain ⟨g,L,rfl⟩:=Lg.mp hd
  exact dL (zH (cb (d:=fU (ak [] g)) ⟨g,rfl,(ac g L).1,rfl⟩ (aa (cE (by simp [aX]) r) ag)))
 .obtain ⟨g,L,rfl⟩:=Lg.mp hd
  obtain ⟨an,r0,a0,b0,rfl⟩:=ac g L
  exact cb ⟨r0,a0,b0,rfl,(an.sc a0 Z8).1,(an.sc b0 Z8).1,rfl⟩ (aa (cE (by simp [aX]) r) ag)
 .rw [sv _ (λg=> !c9 g) _ (λg=>.bl (holdsA g)) _ (λ_ _=>rfl) (λ_ _=>rfl),LH]
  rfl
 have e3:v3=.bl (lh m):=by
  have:=r3.ia
  rw [this,NP]
  rfl
 subst e3
 refine ⟨.ref x,rfl,x,CL,n,_,rfl,s3 _ _ bc,I.cl,I.nB,(show 1<1000 by decide),?_⟩
 refine ⟨.ref x,rfl,x,CL,n,_,rfl,aK,I.cl,I.nT,(show 2<1000 by decide),?_⟩
 refine ⟨.ref x,rfl,x,CL,n,_,rfl,aK,I.cl,I.nF,(show 3<1000 by decide),?_⟩
 refine ⟨1,rfl,.ref x,rfl,x,CL,n,_,rfl,aK,I.cl,I.nL,(show 4<1000 by decide),?_⟩
 rw [kz,kz,kz]
 have bi:but (upd H3 x (.ins CL n (iy p (lh m) 0 0 (-1)))) (x::M)=but H3 (x::M):=dH KN
 have ao:ab (but H1 (x::M)) (but (upd H3 x (.ins CL n (iy p (lh m) 0 0 (-1)))) (x::M)):=by
  rw [bi,<-am];exact s3.but _
 have l:=aj.mono ao
 have a1:=l.own
 have G:∀os∈af,∀y∈os,∃o,upd H3 x (.ins CL n (iy p (lh m) 0 0 (-1))) y=some o/\y∉x::M:=λos N y hy=>by
  obtain ⟨i,hi⟩:=LM.mp N
  obtain ⟨o,h1,_⟩:=l.seen hi y hy
  obtain ⟨q1,q2⟩:=ax h1
  exact ⟨o,q2,q1⟩
 refine q af (upd H3 x (.ins CL n (iy p (lh m) 0 0 (-1)))) (λb u hb e=>by rw [aC hb];exact s3 _ _ (K2 b u hb e)) a3 (λy hy=>?_) ⟨n,p,us,aK,?_,a1,KW _ KN,λos N z=>(G os N x z).choose_spec.2 KN⟩
 .rcases Ld.mp hy with z|z
  .obtain ⟨os,N,O⟩:=LF.mp z
   obtain ⟨o,h1,_⟩:=G os N y O
   rw [h1];exact λz=>nomatch z
  .exact (l2.same s3).upd y z
 .obtain ⟨q1,q2⟩:=ax (ao _ _ hp)
  rw [bh]
  .exact q2
  .intro z
   rcases Ld.mp z with z|z
   .obtain ⟨os,N,O⟩:=LF.mp z
    obtain ⟨i,hi⟩:=LM.mp N
    obtain ⟨o,h1,h2⟩:=l.seen hi p O
    rw [(ax h1).2] at q2
    cases q2
    cases h2
   .exact q1 z
def rR:b9 ["self","facts","step","place","fact"] ["self","facts"] (be lR):=⟨rfl,rfl,rfl,Z9,rfl,Z9,Z9⟩
def Eu(F:aH K "take_in" "Loom.take_in" lR f fd)(T:kE K C)(TL:lC K CL)(B:Bl mg)(cd:mg "max"=none)(a3:d9 P w K mg base 3 C "offer" ["self","place","fact"] (BA C)):bq P w K mg base bI 4 f fd ["self","facts"] (Bw C CL):=by
 refine F.ok rR (λvs H Q E ⟨_,_,_,_,_,_,e,_⟩=>by rw [e];rfl) (λfp A et s H vs Q E hr h=>?_)
 obtain ⟨Z,an,k,c,a,v1,rfl,lv,hL,r1,hF,hS,fr,hz,q⟩:=h
 have mw:=T.cl
 refine ⟨_,(az (fA (pv 0) (dJ (pv 0) rfl) rfl)
   (az (fA (pv 0) (cj iZ (dJ (pv 0) rfl) (cg B (pv 1))) rfl)
   (az (dh Lj rfl (cF (dJ (pv 0) rfl)) (bp 2 rR.nd) (ay (dh Lj rfl (EQ B.enumerate (pv 1) (dJ (pv 0) rfl)) (kn rfl (eY (bp 3 rR.nd) (eY (bp 4 rR.nd) iQ))) (ay (ky (kJ (pv 2) mw a3 hr (ah (pv 3) (ah (pv 4) ap))))))))
   (ay (fA (pv 0) (Bk cd (fC ["self","n","step"] [0] 2 (Cd B.enumerate (ah (dJ (pv 0) rfl) ap)) (λ_ _ _ _ _=>(ux (n:=2) rfl (eY (bp 1 (show (["self","n","step"]:List Str).Nodup from by decide+kernel)) (eY (bp 2 (show (["self","n","step"]:List Str).Nodup from by decide+kernel)) iQ)))) (λ_ _ _ _ _=>(gF (bK rB (pY (pv 2) rfl) (pY (pv 0) rfl)))) (λ_ _ _ _ _=>(pv 1))) (kO kM aE)) rfl))))),?_⟩
 obtain ⟨dx,sl,us,ha,df,ch,aZ,co⟩:=hL
 have di:∀os∈an,∀x∈os,x∈Z:=λos L x J=>by
  obtain ⟨i,hi⟩:=LM.mp L
  have a1:=(KJ.mp hi).1
  have dp:=ch.l2
  have cs:i<k.steps.length:=by omega
  obtain ⟨_,o2,_,h2,_,h4⟩:=ch.get i k.steps[i] (KL cs)
  rw [hi] at h2
  cases h2
  exact h4 x J
 refine ⟨.ref a,rfl,a,CL,dx,_,.int k.taken,rfl,ha,TL.cl,TL.nT,rfl,.ref a,rfl,a,CL,dx,_,rfl,ha,TL.cl,TL.nF,(show 5<1000 by decide),?_⟩
 obtain ⟨af,vf,e1,hf,rf⟩:=r1.eA
 subst e1
 have eu:af≠a:=λz=>(ax hf).1 (by rw [z];exact aZ)
 refine ⟨.ref a,rfl,a,CL,dx,_,.int k.taken,rfl,aK,TL.cl,TL.nF,rfl,.ref af,rfl,af,vf,rfl,.inl (aO.of (by rw [aC eu];exact (ax hf).2)),_,_,rfl,rfl,.ref a,rfl,a,CL,dx,_,rfl,aK,TL.cl,TL.nT,(show 5<1000 by decide),?_⟩
 rw [kz]
 have ev:vf.length=c.length:=by rw [rf.length,KP]
 rw [ev]
 generalize bs:upd H a _=H2
 have ds:H2 a=some (.ins CL dx (iy sl k.iT ((k.taken:Nat)+(c.length:Nat)) (k.taken:Nat) k.last)):=by rw [<-bs];exact aK
 have ct:but H2 Z=but H Z:=by rw [<-bs];exact dH aZ
 have l2:au Z H2:=by rw [<-bs];exact lv.upd
 have K2:∀b u,b≠a->H b=some u->H2 b=some u:=λb u hb e=>by rw [<-bs,aC hb];exact e
 have as:eC C H2 Z us an k.steps:=ch.frame (λx J=>J) (λb u ⟨os,L,hb⟩ e=>K2 b u (λz=>co os L (by rw [<-z];exact hb)) e) (by rw [ct];exact ab.refl _)
 have N2:∀{x:Addr},H2 x=none->H x=none:=λ{x} e=>by
  cases qx:H x with
  |none=>rfl
  |some u=>
   by_cases z:x=a
   .rw [z,ds] at e;cases e
   .rw [K2 x u z qx] at e;cases e
 have ew:al (but H2 Z) (.ref af) (.lst (c.map D.tup)):=by rw [ct];exact r1
 have dt:but H2 Z sl=some (.lst us):=by rw [ct];exact df
 obtain ⟨Zr,bt,ex⟩:∃Zr:List Addr,(∀x,x∈a::Zr↔x∈Z)/\a∉Zr:=⟨Z.filter (λy=>decide (y≠a)),λx=>by
  by_cases e:x=a
  .simp [e,aZ]
  .simp [e],by simp⟩
 have G1:ab (but H2 Z) (but H2 Zr):=d6 λx J=>(bt x).mp (KG _ J)
 have lr:au Zr H2:=λx J=>l2 x ((bt x).mp (KG _ J))
 have ga:but H2 Zr a=some (.ins CL dx (iy sl k.iT ((k.taken:Nat)+(c.length:Nat)) (k.taken:Nat) k.last)):=by rw [bh ex];exact ds
 have d1:but H2 Zr sl=some (.lst us):=G1 _ _ dt
 have ey:al (but H2 Zr) (.ref af) (.lst (c.map D.tup)):=ew.mono G1
 have N:∀os∈an,∀x∈os,x∈Zr:=λos L x J=>by
  have:=(bt x).mpr (di os L x J)
  rcases KY.mp this with z|z
  .exact absurd (by rw [<-z];exact J) (co os L)
  .exact z
 have b6:eC C H2 Zr us an k.steps:=⟨as.l1,as.l2,λj s qs=>by
  obtain ⟨a',os,h1,h2,h3,h4⟩:=as.get j s qs
  have L:=KU h2
  exact ⟨a',os,h1,h2,h3.frame h4 (N os L) (λb u _ e=>e) G1,N os L⟩,as.apart⟩
 have E2:aA (but H2 Zr) (L2.start ["self","facts","step","place","fact"] [.ref a,.ref af]) [none,some (.lst (c.map D.tup)),none,none,none]:=fL (.raw (.dat ey .nil)) _
 have c1:=b6.l1
 refine qV (M:=Zr) (u6 (kB TL.cl TL.nS rfl ga rfl) d1) lr λH3 s3=>?_
 have c3:=b6.mono s3
 have d5:=(s3.but Zr) _ _ ga
 have ea:=(s3.but Zr) _ _ d1
 have E3:=E2.same s3
 let O:Nat->Nat->List bu:=λj i=>(k.steps.zipIdx).map λp=>if p.2<j then dv p.1 k.taken c else if p.2=j then dv p.1 k.taken (c.take i) else p.1
 have l:∀j i m s,k.steps[m]?=some s->(O j i)[m]?=some (if m<j then dv s k.taken c else if m=j then dv s k.taken (c.take i) else s):=λj i m s e=>by
  show ((k.steps.zipIdx).map _)[m]?=_
  rw [KZ,Pr,e]
  simp
 have r:∀j i,(O j i).length=k.steps.length:=λj i=>by simp [O]
 clear_value O
 have c4:O 0 0=k.steps:=by
  apply MN
  intro m
  cases e:k.steps[m]? with
  |none=>rw [LI (by rw [r];exact MK.mp e)]
  |some s=>
   rw [l 0 0 m s e]
   by_cases z:m=0
   .rw [KS Z6,K4 z];rfl
   .rw [KS Z6,KS z]
 have a4:O k.steps.length 0=k.steps.map λs=>dv s k.taken c:=by
  apply MN
  intro m
  rw [KZ]
  cases e:k.steps[m]? with
  |none=>rw [LI (by rw [r];exact MK.mp e)];rfl
  |some s=>
   rw [l _ 0 m s e,K4 (KJ.mp e).1]
   rfl
 have a2:∀j,O j c.length=O (j+1) 0:=λj=>by
  apply MN
  intro m
  cases e:k.steps[m]? with
  |none=>
   have:=MK.mp e
   rw [LI (by rw [r];exact this),LI (by rw [r];exact this)]
  |some s=>
   rw [l j _ m s e,l (j+1) 0 m s e,Lz (KR _)]
   by_cases z:m<j
   .rw [K4 z,K4 Z6]
   .by_cases z2:m=j
    .rw [KS z,K4 z2,K4 Z6]
    .rw [KS z,KS z2,KS Z6]
     by_cases z3:m=j+1
     .rw [K4 z3];rfl
     .rw [KS z3]
 have bc:∀j i g s,k.steps[j]?=some s->c[i]?=some g->(O j i).set j (dw (dv s k.taken (c.take i)) (k.taken+i) g)=O j (i+1):=λj i g s e eg=>by
  apply MN
  intro m
  by_cases z:j=m
  .subst z
   rw [K6 (by rw [r];exact (KJ.mp e).1),l j (i+1) j s e,KS (Mc _),K4 rfl,J1 eg]
  .rw [KQ z]
   cases e2:k.steps[m]? with
   |none=>
    have:=MK.mp e2
    rw [LI (by rw [r];exact this),LI (by rw [r];exact this)]
   |some t=>
    have z':¬m=j:=λw=>z w.symm
    rw [l j i m t e2,l j (i+1) m t e2,KS z',KS z']
 have b0:∀{H':Hp} {Z':List Addr} {G:List (List Addr)} {ez:List bu},ip C us H3 Zr an H' Z' G ez->but H' Z' a=some (.ins CL dx (iy sl k.iT ((k.taken:Nat)+(c.length:Nat)) (k.taken:Nat) k.last)):=λI=>I.same N _ _ d5
 refine ⟨λj M' Y H'=>∃G,ip C us H3 Zr an H' M' G (O j 0)/\Y[0]?=some (some (.ref a))/\aA (but H3 Zr) Y [none,some (.lst (c.map D.tup)),none,none,none],
  ⟨an,⟨by rw [c4];exact c3,λos L x J=>.inl ⟨os,L,J⟩,λb u _ e=>e,lr.same s3,λx J=>J,λx J=>.inl J⟩,rfl,E3⟩,λj M' Y H' ⟨G,I,_,_⟩=>⟨I.same N,I.live⟩,?_,?_⟩
 .rintro j M' x Y H' e0 fs ⟨G,I,i0,E'⟩ s4 J
  have J:us[j]?=some x:=J
  have e3:j<k.steps.length:=by omega
  have c5:k.steps[j]?=some k.steps[j]:=KL e3
  have I4:=I.mono s4
  have E4:aA (but e0 M') (Y.set 2 (some x)) [none,some (.lst (c.map D.tup)),none,none,none]:=(E'.mono (I4.same N)).off 2 _
  have c0:(Y.set 2 (some x))[0]?=some (some (.ref a)):=(KQ Z5).trans i0
  have e4:Y.length=5:=E'.len
  have c2:(Y.set 2 (some x))[2]?=some (some x):=K6 Z6
  have EB:aA (but H3 Zr) (Y.set 2 (some x)) [none,some (.lst (c.map D.tup)),none,none,none]:=E'.off 2 _
  have g4:=b0 I4
  refine qV (M:=M') (JR (GV (n:=k.taken) Z6 (aI E4 rfl) (gx TL.cl TL.nF c0 g4 rfl (.int _)))) I4.live λH5 s5=>?_
  have I5:=I4.mono s5
  have eb:(kS k.taken (c.map D.tup)).length=c.length:=by simp [kS]
  refine ⟨λi M2 U X=>∃ac,ip C us H3 Zr an X M2 ac (O j i)/\ab (but H5 M') (but X M2)/\U[0]?=some (some (.ref a))/\U[2]?=some (some x)/\aA (but H3 Zr) U [none,some (.lst (c.map D.tup)),none,none,none],
   ⟨G,I5,ab.refl _,c0,c2,EB⟩,λi M2 U X ⟨ac,I2,S2,_,_,_⟩=>⟨S2,I2.live⟩,?_,?_⟩
  .rintro i M2 y U X X' a1 ⟨ac,I2,S2,da,ec,bx⟩ s6 ⟨d,hd,ry⟩
   have a1:i<c.length:=by rw [eb] at a1;exact a1
   have dc:c[i]?=some c[i]:=KL a1
   have eU:d=.tup [.int ((k.taken+i:Nat):Int),.tup c[i]]:=by
    have:(kS k.taken (c.map D.tup))[i]?=some (.tup [.int ((k.taken+i:Nat):Int),.tup c[i]]):=by
     simp [kS,dc]
    rw [this] at hd
    exact (K8 hd).symm
   subst eU
   have I6:=I2.mono s6
   refine nH ry λu1 u2 q1 q2=>?_
   have e1:=q1.dP
   subst e1
   have dp:U.length=5:=bx.len
   have d0:((U.set 3 (some (.int ((k.taken+i:Nat):Int)))).set 4 (some u2))[0]?=some (some (.ref a)):=by rw [KQ Z5,KQ Z5];exact da
   have d2:((U.set 3 (some (.int ((k.taken+i:Nat):Int)))).set 4 (some u2))[2]?=some (some x):=by rw [KQ Z5,KQ Z5];exact ec
   have d3:((U.set 3 (some (.int ((k.taken+i:Nat):Int)))).set 4 (some u2))[3]?=some (some (.int ((k.taken+i:Nat):Int))):=by rw [KQ Z5];exact K6 Z6
   have d4:((U.set 3 (some (.int ((k.taken+i:Nat):Int)))).set 4 (some u2))[4]?=some (some u2):=K6 (by rw [Mw];omega)
   have bi:=l j i j _ c5
   rw [KS (Mc _),K4 rfl] at bi
   obtain ⟨aj,os,h1,h2,h3,h4⟩:=I6.st.get j _ bi
   have e5:x=.ref aj:=by rw [J] at h1;exact K8 h1
   subst e5
   obtain ⟨ed,w0,sa,w2,ao,ls,oS,e7,bk,_⟩:=h3.at_
   have e8:=hF _ (KU dc)
   have ej:=hS _ (KU c5)
   have ek:=y2 k.steps[j] k.taken (c.take i)
   rw [Lx] at ek
   refine ⟨.ref aj,d2,aj,ed,_,rfl,bk,rfl,.int ((k.taken+i:Nat):Int),d3,u2,d4,M2,os,_,aj,k.taken+i,c[i],u2,rfl,I6.live,h3,h4,q2,by rw [Fn];exact ej.1,e8,by have:=ej.2;omega,λdd fa n1 n2 n3 n4 n5=>?_⟩
   have I7:=I6.put bi h1 h2 h4 n1 n2 n3 n4 n5
   rw [bc j i _ _ c5 dc] at I7
   have S7:ab (but X' M2) (but fa (dd++M2)):=ua n1 h4 n3
   exact ⟨dd++M2,ac.set j dd,I7,S2.trans ((s6.but _).trans S7),d0,d2,(bx.off 3 _).off 4 _⟩
  .rintro M2 U X ⟨ac,I2,S2,da,ec,bx⟩
   rw [eb,a2] at I2
   exact ⟨M2,ac,I2,da,bx⟩
 .rintro M' Y H' ⟨G,I,i0,E'⟩
  rw [show us.length=k.steps.length from c1,a4] at I
  have bl:=(ax (b0 I)).2
  have b7:=I.same N _ _ ea
  have a0:=(ax b7).2
  have en:∀b,but H' [] b=H' b:=λb=>bh Z8
  refine BO (M:=[]) (Jv (K:=K) (is:=((List.range us.length).filter λj=>decide ((k.taken:Int)<=((k.steps.map λs=>dv s k.taken c).getD j ⟨[],[],[],[],-1⟩).newest)).map λj=>((j:Nat):Int)) (n:=-1) (ae.eq (Ff (K:=K) (caps:=aX [0] 2) (i:=1) (j:=2) Z5 (p:=λj=>decide ((k.taken:Int)<=((k.steps.map λs=>dv s k.taken c).getD j ⟨[],[],[],[],-1⟩).newest)) (f:=λj=>.int (j:Nat)) (BK (kB TL.cl TL.nS i0 (by rw [en];exact bl) rfl) (by rw [en];exact a0)) (λG' v m sG hv=>?_) (λG' v m sG hv _=>cE (by simp [aX]) (.int _)) (by rw [c1];exact cr Z6)) (by rw [LH];rfl)) (oq ar)) au.nil λv6 H6 s6 r6=>?_
  .have hm:=(KJ.mp hv).1
   have em:m<(k.steps.map λs=>dv s k.taken c).length:=by rw [KP];omega
   obtain ⟨am,os,h1,h2,h3,h4⟩:=I.st.get m _ (KL em)
   have e1:v=.ref am:=by rw [hv] at h1;exact K8 h1
   subst e1
   obtain ⟨ed,w0,sa,w2,ao,ls,oS,e7,bk,_⟩:=h3.at_
   have eN:(k.steps.map λs=>dv s k.taken c).getD m ⟨[],[],[],[],-1⟩=(k.steps.map λs=>dv s k.taken c)[m]:=by rw [List.getD,KL em];rfl
   rw [eN]
   exact bN (tD (gx (a:=am) T.cl T.nN (by simp [aX]) (sG _ _ (by rw [en];exact bk)) rfl (.int _)) (gx (a:=a) TL.cl TL.nF (by simp [aX,i0]) (sG _ _ (by rw [en];exact bl)) rfl (.int _)))
  have e6:=r6.dP
  subst e6
  refine ⟨.ref a,i0,a,CL,dx,_,rfl,s6 _ _ bl,TL.cl,TL.nL,(show 5<1000 by decide),?_⟩
  rw [show us.length=(k.steps.map λs=>dv s k.taken c).length by rw [KP];exact c1]
  generalize ep:upd H6 a _=H7
  have er:H7 a=some (.ins CL dx (iy sl k.iT ((k.taken:Nat)+(c.length:Nat)) (k.taken:Nat) (AL (k.steps.map λs=>dv s k.taken c) k.taken))):=by rw [<-ep];exact aK
  have K7:∀b u,b≠a->H' b=some u->H7 b=some u:=λb u hb e=>by rw [<-ep,aC hb];exact s6 _ _ e
  have fl:H3 a=some (.ins CL dx (iy sl k.iT ((k.taken:Nat)+(c.length:Nat)) (k.taken:Nat) k.last)):=(ax d5).2
  have es:∀os∈G,a∉os:=λos L z=>by
   rcases I.own os L a z with ⟨o,h1,h2⟩|h1
   .exact co o h1 h2
   .rw [fl] at h1;cases h1
  have b8:∀os∈G,∀x∈os,x∈M':=λos L x J=>by
   obtain ⟨i,hi⟩:=LM.mp L
   have a1:=(KJ.mp hi).1
   have dp:=I.st.l2
   have cs:i<(k.steps.map λs=>dv s k.taken c).length:=by omega
   obtain ⟨_,o2,_,h2,_,h4⟩:=I.st.get i _ (KL cs)
   rw [hi] at h2
   cases h2
   exact h4 x J
  have ZM:∀x∈Z,x=a\/x∈M':=λx J=>by
   rcases KY.mp ((bt x).mpr J) with z|z
   .exact .inl z
   .exact .inr (I.sub x z)
  have S7:ab (but H' (a::M')) (but H7 (G.flatten++Z)):=λb u e=>by
   obtain ⟨q1,q2⟩:=ax e
   simp only [KY,PH] at q1
   rw [bh]
   .exact K7 b u q1.1 q2
   .intro z
    rcases Ld.mp z with z|z
    .obtain ⟨os,L,J⟩:=LF.mp z
     exact q1.2 (b8 os L b J)
    .rcases ZM b z with w|w
     .exact q1.1 w
     .exact q1.2 w
  have l7:au (G.flatten++Z) H7:=λx J=>by
   have hM:x=a\/x∈M':=by
    rcases Ld.mp J with z|z
    .obtain ⟨os,L,J⟩:=LF.mp z
     exact .inr (b8 os L x J)
    .exact ZM x z
   by_cases z:x=a
   .rw [z,er];exact λz=>nomatch z
   .rcases hM with w|w
    .exact absurd w z
    .cases q7:H' x with
     |none=>exact absurd q7 (I.live x w)
     |some u=>rw [K7 x u z q7];exact λz=>nomatch z
  refine q G H7 (λos L x J=>?_) (λb u hb L e=>K7 b u hb (I.keep b u L (s3 _ _ (K2 b u hb e)))) l7 ⟨dx,sl,us,?_,?_,?_,KW _ aZ,es⟩
  .rcases I.own os L x J with z|z
   .exact .inl z
   .refine .inr (N2 ?_)
    cases q3:H2 x with
    |none=>rfl
    |some u=>rw [s3 _ _ q3] at z;cases z
  .exact er
  .refine S7 _ _ ?_
   have fn:sl≠a:=λz=>by rw [z,bl] at a0;cases a0
   rw [bh (by simp only [KY,PH];exact ⟨fn,(ax b7).1⟩)]
   exact a0
  .exact (I.st.fk bl rfl).AK (λos L x J=>K9 _ (LF.mpr ⟨os,L,J⟩)) (λb u ⟨os,L,hb⟩ e=>K7 b u (λz=>es os L (by rw [<-z];exact hb)) e) S7
end
end a8
namespace a8
open PySem L2 FL
section
variable {P:Program}{w:World}{K:PySem.W.Frag}{mg:Str->Option Value}{base:Heap}{f:Addr}{fd:FuncData}
def Jl:b9 ["self"] ["self"] (be mS):=⟨rfl,rfl,rfl,Z9,rfl,Z9,Z9⟩
def CQ(F:aH K "beginnings" "Loom.beginnings" mS f fd)(T:kE K C)(k:lC K CL)(B:Bl mg):bq P w K mg base bI 1 f fd ["self"] (A8 C CL):=by
 refine F.ok Jl (λvs H Q E ⟨_,_,_,e,_⟩=>by rw [e];rfl) (λac A L s H vs Q E hr h=>?_)
 obtain ⟨M,b,v0,rfl,lv,hL,hn,q⟩:=h
 refine ⟨_,(az (bB (eM (cu (dJ (pv 0) rfl)) (fS (iI (bK jE (dJ (pv 0) rfl) aE) (iM (bK oR (dJ (pv 0) rfl) aE))).pt)).pt (ay (bd (cQ ap))) bS)
   (az (bB (dF (cu (uo B (fC ["step"] [] 1 (cF (dJ (pv 0) rfl)) (λ_ _ _ _ _=>(bp 0 (jU _))) (λ_ _ _ _ _=>jm) (λ_ _ _ _ _=>(iL rB (pY (pv 0) rfl) aE)))))) (ay (bd (cQ ap))) bS)
   (ay (bd (cQ (ah (dy (ah (cQ ap) (ah (dy ap) ap))) ap)))))),?_⟩
 obtain ⟨a,dx,sl,us,rfl,I,gs,o⟩:=hL
 have E0:aA (but H M) (L2.start ["self"] [.ref a]) [none]:=fL (.raw .nil) _
 have r:=o.len
 refine gX lv E0 (eJ (cm (gx k.cl k.nB rfl I rfl (.bl _))) λ_=>jY (bN (jL (gx k.cl k.nL rfl I rfl (.int _)) ar)) λ_=>bN (p7 (gx k.cl k.nF rfl I rfl (.int _)) ar)) (λe H1 g N E1=>?_) (λe H1 g N E1=>nx ?_)
 .have c:fe b=[]:=by unfold fe;rw [K4 e]
  rw [c] at q
  exact wO N ag (Ll _) λp d O l t U r2=>q p d O (g.trans l) (jo g t) U r2
 have u:=o.mono (g.but M)
 refine gX N E1 (dL (cm (wF (bs:=b.steps.map λs=>decide ((0:Int)<=s.newest)) (aa (ae.eq (Jz (caps:=aX [] 1) (i:=0) (p:=λ_=>true) (f:=λj=>.bl (decide ((0:Int)<=(b.steps.getD j ⟨[],[],[],[],-1⟩).newest))) (u6 (K:=K) (kB k.cl k.nS rfl ((g.but M) _ _ I) rfl) ((g.but M) _ _ gs)) (λj G G' v _ h=>h) (λG' v j _ _ _=>jG) (λG' v j sG hj _ Y=>?_) (by rw [r];exact cr Z6)) ?_) ag)))) (λn O l l2 E2=>?_) (λn O l l2 E2=>nx ?_)
 .have Y:us[j]?=some v:=Y
  have x:j<b.steps.length:=by omega
  obtain ⟨v',h1,U⟩:=u.get j _ (KL x)
  rw [Y] at h1
  cases h1
  obtain ⟨am,af,w0,sa,w2,ao,oS,rfl,g1,_⟩:=U
  have eN:b.steps.getD j ⟨[],[],[],[],-1⟩=b.steps[j]:=by rw [List.getD,KL x];rfl
  rw [eN]
  exact tD (gx T.cl T.nN (by simp [aX]) (sG _ _ g1) rfl (.int _)) ar
 .rw [LZ.mpr λ_ _=>rfl,r,LH]
  congr 1
  apply MN
  intro m
  rw [KZ,KZ]
  by_cases y:m<b.steps.length
  .rw [List.getElem?_range y,KL y]
   show some (D.bl (decide ((0:Int)<=(b.steps.getD m ⟨[],[],[],[],-1⟩).newest)))=_
   rw [List.getD,KL y]
   rfl
  .rw [LI (by simpa using LC y),LI (LC y)]
   rfl
 .have c:fe b=[]:=by
   unfold fe
   rw [KS (by rw [e];exact K0),KS]
   intro z
   rw [NP] at n
   have J:(b.steps.all (id∘λs=>decide ((0:Int)<=s.newest)))=true:=z
   rw [J] at n
   cases n
  rw [c] at q
  exact wO l2 ag (Ll _) λp d H3 s3 t h3 r3=>q p d H3 (g.trans (l.trans s3)) (jo (g.trans l) t) h3 r3
 .have c:fe b=[([],[])]:=by
   unfold fe
   rw [KS (by rw [e];exact K0),K4]
   rw [NP] at n
   have J:(!(b.steps.all (id∘λs=>decide ((0:Int)<=s.newest))))=false:=n
   rw [Bool.not_eq_false'] at J
   exact J
  rw [c] at q
  exact wO l2 (ds:=[.tup [.lst [],.tup []]]) (aa (aM (aa (eO (ds:=[]) ag (hz:=Ll _)) (aa (aM (ds:=[]) ag (hz:=Ll _)) ag))) ag) (show 1<=sizeLine by decide) λp d H3 s3 t h3 r3=>q p d H3 (g.trans (l.trans s3)) (jo (g.trans l) t) h3 r3
def Ew:b9 ["self","way"] ["self","way"] (be lT):=⟨rfl,rfl,rfl,Z9,rfl,Z9,Z9⟩
def G7(F:aH K "is_whole" "Loom.is_whole" lT f fd)(m:lC K CL)(B:Bl mg):bq P w K mg base bI 1 f fd ["self","way"] (vC C CL):=by
 refine F.ok Ew (λp H Q E ⟨_,_,_,_,_,e,_⟩=>by rw [e];rfl) (λr A c s H p Q E t h=>?_)
 obtain ⟨M,u,b,T,x,rfl,y,z,g,q⟩:=h
 have G:=eD t
 refine ⟨_,(ay (bd (iL (fG (by exact G)) (cg B (aT (pv 1) aE)) (cg B (dJ (pv 0) rfl))))),?_⟩
 obtain ⟨a,U,Y,o,rfl,I,J,k⟩:=z
 have l:=k.len
 have E0:aA (but H M) (L2.start ["self","way"] [.ref a,x]) [none,some (cR b)]:=fL (.raw (.dat g .nil)) _
 refine eG y (lD (i:=((b.2.map λn=>D.int (n:Nat)).length:Nat)) (j:=(o.length:Nat)) (gR (aa (bV (ds:=[.lst (pairD b.1),.tup (b.2.map λn=>D.int (n:Nat))]) (d:=.tup (b.2.map λn=>D.int (n:Nat))) rfl (aI E0 rfl) ar) ag)) (Kk (kB m.cl m.nS rfl I rfl) J)) λv L N g=>?_
 have O:=g.ia
 subst O
 have:decide ((((b.2.map λn=>D.int (n:Nat)).length:Nat):Int)=((o.length:Nat):Int))=decide (b.2.length=u.steps.length):=by
  rw [KP,l]
  exact N0.mpr ⟨λh=>by omega,λh=>by omega⟩
 rw [this]
 exact q L N
def qc:b9 ["self","way","taken","lowest"] ["self","way"] (be lM):=⟨rfl,rfl,rfl,Z9,rfl,Z9,Z9⟩
def HY(F:aH K "carried_on" "Loom.carried_on" lM f fd)(T:kE K C)(k:lC K CL)(B:Bl mg)(o:mg "max"=none)(c:d9 P w K mg base 3 C "carry_on" ["self","way","lowest"] (ug C)):bq P w K mg base bI 4 f fd ["self","way"] (uD C CL):=by
 refine F.ok qc (λvs H Q E ⟨_,_,_,_,_,_,e,_⟩=>by rw [e];rfl) (λam A ac s H vs Q E hr h=>?_)
 obtain ⟨M,l,w0,v0,v1,sz,rfl,lv,hL,r1,hR,hW,p,q⟩:=h
 have hu:=eD hr
 have mw:=T.cl
 refine ⟨_,(az (bg 2 qc.nd (cg B (aT (pv 1) aE)))
   (az (bg 3 qc.nd aE)
   (az (bB (iI (bK (fG (by exact hu)) (pv 2) (dJ (pv 0) rfl)) (iM (bK jE (Bk o (aT (pv 1) aE) (kO kM aE)) (dJ (pv 0) rfl)))).pt (ay (bg 3 qc.nd (dJ (pv 0) rfl))) bS)
   (ay (bd (kJ (aT (dJ (pv 0) rfl) (pv 2)) mw c hr (ah (pv 1) (ah (pv 3) ap)))))))),?_⟩
 obtain ⟨a,dx,sl,us,rfl,z,gs,G⟩:=hL
 have an:=G.len
 obtain ⟨S,b⟩:=w0
 have p:b.length<l.steps.length:=p
 have E0:aA (but H M) (L2.start ["self","way","taken","lowest"] [.ref a,v1]) [none,some (cR (S,b)),none,none]:=fL (.raw (.dat r1 .nil)) _
 have af:(b.map λn=>D.int (n:Nat))=(b.map λn=>((n:Nat):Int)).map D.int:=by rw [LH];rfl
 refine fY (i:=2) (d:=.int (b.length:Nat)) lv E0 ((gR (aa (bV (ds:=[.lst (pairD S),.tup (b.map λn=>D.int (n:Nat))]) (d:=.tup (b.map λn=>D.int (n:Nat))) rfl (aI E0 rfl) ar) ag)).eq (by rw [KP])) λao H1 o1 u l1 E1=>?_
 dsimp only
 refine AX (fY (i:=3) (d:=.int 0) l1 E1 (ar (i:=0)) λaj H2 o2 x l2 E2=>?_)
 have g:aj[0]?=some (some (.ref a)):=(o2 0 Z5).trans ((o1 0 Z5).trans rfl)
 have I:=(u.trans x).but M
 have hs:=KL p
 obtain ⟨vj,J,m⟩:=G.get b.length _ hs
 have L:db l (S,b)=gS l.steps[b.length] (S,b) (kD l (S,b)):=by
  unfold db
  rw [show l.steps[((S,b):aJ).2.length]?=some l.steps[b.length] from hs]
 have N:jQ S.length l.steps[b.length]:=by
  have:=(hR.st _ _ hs).1
  have e:=hW.one
  have e:S.length=sz b.length:=e
  rw [e];exact this
 have O:S.length<=500:=by have e:S.length=sz b.length:=hW.one;rw [e];exact hR.le _
 have U:b.length<=500:=by have:=hR.len;omega
 rw [L] at q
 refine gX l2 E2 (jY (bN (lD (aI E2 rfl) (gx k.cl k.nL g (I _ _ z) rfl (.int _)))) λ_=>bN (jL (Fy (K:=K) (is:=b.map λn=>((n:Nat):Int)) ((bV (ds:=[.lst (pairD S),.tup (b.map λn=>D.int (n:Nat))]) (d:=.tup (b.map λn=>D.int (n:Nat))) rfl (aI E2 rfl) ar).eq (by rw [af])) (oq ar)) (gx k.cl k.nF g (I _ _ z) rfl (.int _)))) (λe H3 y l3 Y=>?_) (λe H3 y l3 Y=>nx ?_)
 .have j:=(u.trans (x.trans y)).but M
  refine fY (i:=3) l3 Y (gx k.cl k.nF g (j _ _ z) rfl (.int _)) λas H4 o4 s4 l4 E4=>?_
  have r:=(u.trans (x.trans (y.trans s4))).but M
  have t:kD l (S,b)=l.fresh:=by unfold kD;rw [K4 e]
  rw [t] at q
  exact eG l4 (yz (kB k.cl k.nS ((o4 0 Z5).trans g) (r _ _ z) rfl) (r _ _ gs) (aI E4 rfl) J (m.mono r) hW.ok O U N (aI E4 rfl) (aI E4 rfl)) λv H5 s5 r5=>q v H5 (u.trans (x.trans (y.trans (s4.trans s5)))) r5
 .have j:=(u.trans (x.trans y)).but M
  have t:kD l (S,b)=0:=by unfold kD;rw [KS (by rw [e];exact K0)]
  rw [t] at q
  exact eG l3 (yz (kB k.cl k.nS g (j _ _ z) rfl) (j _ _ gs) (aI Y rfl) J (m.mono j) hW.ok O U N (aI Y rfl) (aI Y rfl)) λv H5 s5 r5=>q v H5 (u.trans (x.trans (y.trans s5))) r5
end
end a8
namespace a8
open PySem L2 FL
section
variable {P:Program}{w:World}{K:PySem.W.Frag}{mg:Str->Option Value}{base:Heap}{f:Addr}{fd:FuncData}
def mZ:b9 ["self","number","loom","head","found","unfinished","way","fact"] ["self","number","loom"] (be mE):=⟨rfl,rfl,rfl,Z9,rfl,Z9,Z9⟩
def He(F:aH K "given_by" "Weaving.given_by" mE f fd)(TL:lC K CL)(TW:oN K CW)(B:Bl mg)(a4:a5 P w K mg base 1 "filled" ["atom","setting"] (bJ pW))(Y:d9 P w K mg base 1 CL "beginnings" ["self"] (A8 C CL))(ao:d9 P w K mg base 1 CL "is_whole" ["self","way"] (vC C CL))(ac:d9 P w K mg base 4 CL "carried_on" ["self","way"] (uD C CL)):bq P w K mg base bI 5 f fd ["self","number","loom"] (zQ C CL CW):=by
 refine F.ok mZ (λvs H Q E ⟨_,_,_,_,_,_,_,_,_,_,_,_,_,_,_,e,_⟩=>by rw [e];rfl) (λhn A fr s H vs Q E hr h=>?_)
 obtain ⟨M,r,a,dx,vr,ll,N,bt,G,I,bx,T,R,sz,v2,rfl,lv,ha,ek,b6,hT,rr,em,co,en,hG,hN,q⟩:=h
 have ep:=fO hr
 have mz:=TL.cl
 refine ⟨_,(az (bg 3 mZ.nd (aT (aT (dJ (pv 0) rfl) (pv 1)) aE))
   (az (bg 4 mZ.nd (cQ ap))
   (az (bg 5 mZ.nd (Dk (pv 2) mz Y hr))
   (az (w6 Lj (Be (pv 5) (λ_=>rfl)) (az (bg 6 mZ.nd (sm LU Np NX vc (pv 5)))
   (az (bg 7 mZ.nd (bQ a4 hr (ah (pv 3) (ah (aT (pv 6) aE) ap))))
   (ay (bB (iu (pE (by exact ep) (pv 7) (dJ (pv 0) rfl))) (ay (bB (cu (kJ (pv 2) mz ao hr (ah (pv 6) ap))) (az (ly ep (dJ (pv 0) rfl) (pv 7) cA rfl)
   (ay (jx (pv 4) (dy (ah (pv 7) (ah (pv 1) (ah (aT (pv 6) aE) ap))))))) (ay (ky (oT LU Mu MS tw (pv 5) (ah (kJ (pv 2) mz ac hr (ah (pv 6) ap)) ap)))))) bS)))))
   (ay (bd (pv 4))))))),?_⟩
 have hR:=hG.run
 obtain ⟨aL,fs,ho,hq,eL,ft,hs,hk⟩:=id co
 subst eL
 have E0:aA (but H M) (L2.start ["self","number","loom","head","found","unfinished","way","fact"] [.ref a,.int ((G:Nat):Int),.ref aL]) [none,some (.int ((G:Nat):Int)),none,none,none,none,none,none]:=fL (.raw (.dat (.int _) (.raw .nil))) _
 have fv:(bt.map bf)[G]?=some (bf (I,bx)):=by rw [KZ,em];rfl
 refine fY (i:=3) (d:=.tup I) lv E0 (bV (ds:=[.tup I,c8 bx]) (d:=.tup I) rfl (bR (ds:=bt.map bf) (d:=bf (I,bx)) (jF fv) (gx TW.cl TW.nR rfl ha rfl rr) (aI E0 rfl)) ar) λeq H1 o1 s1 l1 E1=>?_
 dsimp only
 have f0:eq[0]?=some (some (.ref a)):=(o1 0 Z5).trans rfl
 have f1:eq[2]?=some (some (.ref aL)):=(o1 2 Z5).trans rfl
 refine oU (i:=4) l1 E1 Z8 ag (Ll _) λy vF a0 H4 o4 i4 n4 h4 r4 l4 k4 E4=>?_
 have d3:ab H1 H4:=λx o e=>(k4 x o e).2
 have f2:H1 y=none:=none_of (ab.refl H1) k4
 have HF:H y=none:=none_of s1 k4
 have f3:vF=[]:=by cases r4;rfl
 subst f3
 have f4:a0[0]?=some (some (.ref a)):=(o4 0 Z5).trans f0
 have er:a0[2]?=some (some (.ref aL)):=(o4 2 Z5).trans f1
 have d4:ab (but H M) (but H4 (y::M)):=(s1.but M).trans (iW f2 d3)
 have es:=co.mono d4
 refine ⟨.ref aL,er,aL,fs,_,rfl,(ax (d4 _ _ ft)).2,rfl,y::M,r,.ref aL,rfl,l4,es,en,λk vU H5 s5 cs h5 r5=>?_⟩
 have b7:y≠k:=λz=>by rw [<-z,h4] at cs;cases cs
 have HU:H k=none:=jo (s1.trans d3) cs
 have et:ab H H5:=s1.trans (d3.trans s5)
 have eu:H5 N=some (.dT (cB T)):=et _ _ b6
 have dd:N≠y:=λz=>by rw [z,HF] at b6;cases b6
 have b8:N≠k:=λz=>by rw [z,HU] at b6;cases b6
 have ev:ab (but H4 (y::M)) (but H5 (k::y::M)):=iW cs s5
 have f5:ab (but H M) (but H5 (k::y::M)):=d4.trans ev
 have l5:au (k::y::M) H5:=(l4.same s5).cons h5
 have ga:=E4.len
 have E5:aA (but H5 (k::y::M)) (a0.set 5 (some (.ref k))) [none,some (.int ((G:Nat):Int)),none,some (.tup I),none,none,none,none]:=(E4.mono ev).off 5 _
 have gb:(a0.set 5 (some (.ref k)))[0]?=some (some (.ref a)):=(KQ Z5).trans f4
 have gd:(a0.set 5 (some (.ref k)))[2]?=some (some (.ref aL)):=(KQ Z5).trans er
 have gh:(a0.set 5 (some (.ref k)))[4]?=some (some (.ref y)):=(KQ Z5).trans i4
 have gl:(a0.set 5 (some (.ref k)))[5]?=some (some (.ref k)):=K6 (by rw [ga];exact (show 5<8 by decide))
 have gn:=s5 _ _ h4
 have d5:fe r=[]\/fe r=[([],[])]:=by
  unfold fe
  split
  .exact .inl rfl
  .split
   .exact .inr rfl
   .exact .inl rfl
 have df:(fe r).reverse=fe r:=by rcases d5 with z|z<;>rw [z]<;>rfl
 have ew:0+((fe r).map λw=>dN r (bZ r w) w).sum<=dN r r.steps.length ([],[]):=by
  rcases d5 with z|z
  .rw [z];exact Ll _
  .rw [z]
   show 0+(dN r (r.steps.length-0) ([],[])+0)<=_
   rw [PD];omega
 have ex:∀w∈fe r,GoodW sz r.steps w/\R w:=λw hw=>by
  rcases d5 with z|z
  .rw [z] at hw;cases hw
  .rw [z] at hw
   rw [Li.mp hw];exact ⟨GoodW.nil hR,hG.r0⟩
 unfold iY at q
 generalize fe r=B0 at q r5 df ew ex
 refine ⟨λm O X=>∃(j:List ef) (stack:List aJ) (uF L:List V),cC I G (B0.flatMap λw=>dY r (bZ r w) w) T=j++cC I G (stack.reverse.flatMap λw=>dY r (bZ r w) w) (T++bj j)/\(∀g∈T++bj j,f8 g)/\m=(stack.map λw=>dN r (bZ r w) w).sum/\j.length+m<=dN r r.steps.length ([],[])/\(∀w∈stack,GoodW sz r.steps w/\R w)/\O[0]?=some (some (.ref a))/\O[2]?=some (some (.ref aL))/\O[4]?=some (some (.ref y))/\O[5]?=some (some (.ref k))/\X y=some (.lst uF)/\aD (but X (k::y::M)) uF (j.map dM)/\X k=some (.lst L)/\aD (but X (k::y::M)) L (stack.map cR)/\X N=some (.dT (cB (T++bj j)))/\(∀b u,b≠N->H b=some u->X b=some u)/\au (k::y::M) X/\ab (but H M) (but X (k::y::M))/\aA (but X (k::y::M)) O [none,some (.int ((G:Nat):Int)),none,some (.tup I),none,none,none,none],
  ⟨_,[],B0,[],vU,by rw [df];show _=[]++cC I G _ (T++[]);rw [LA];rfl,by show∀g∈T++[],f8 g;rw [LA];exact hT,rfl,ew,ex,gb,gd,gh,gl,gn,.nil,h5,r5,by show H5 N=some (.dT (cB (T++[])));rw [LA];exact eu,λb u _ e=>et _ _ e,l5,f5,E5⟩,?_⟩
 rintro m O X ⟨j,stack,uF,L,as,U,rfl,go,an,j0,j2,j4,j5,ey,rF,ea,rU,ez,KX,lX,gp,EX⟩
 refine ⟨.ref k,j5, !L.isEmpty,.inl ⟨L,aO.of ea,rfl⟩,?_⟩
 have e0:stack=[]\/∃J w,stack=J++[w]:=by
  rcases List.eq_nil_or_concat stack with z|⟨J,w,z⟩
  .exact .inl z
  .exact .inr ⟨J,w,by rw [z,List.concat_eq_append]⟩
 rcases e0 with rfl|⟨J,w,rfl⟩
 .have hu:L=[]:=by cases rU;rfl
  subst hu
  refine Eq.mpr (KS (c:=(!([]:List V).isEmpty)=true) Z8) ?_
  have as:cC I G (B0.flatMap λw=>dY r (bZ r w) w) T=j++[]:=as
  rw [LA] at as
  rw [as] at q
  refine ⟨.ref y,j4,q y uF X KX HF ey (rF.mono (d6 λz hz=>KG _ hz)) ez⟩
 .have ct:=rU.length
  rw [KP,Lh,Mi] at ct
  obtain ⟨hw,ec⟩:=an w (KW _ (Li.mpr rfl))
  have c1:(((J++[w]).map cR))[L.length-1]?=some (cR w):=by
   rw [ct,MG,KZ,Lo (KR _),PF]
   rfl
  obtain ⟨u,hu,ru⟩:=rU.get c1
  have gs:(!L.isEmpty)=true:=by
   cases L with
   |nil=>simp at ct
   |cons _ _=>rfl
  refine Eq.mpr (K4 (c:=(!L.isEmpty)=true) gs) ?_
  rw [Lq,Pf,List.map_singleton,List.sum_singleton] at go⊢
  refine ⟨λaj af=>∃m',m'<(J.map λw=>dN r (bZ r w) w).sum+dN r (bZ r w) w/\∃(j:List ef) (stack:List aJ) (uF L:List V),cC I G (B0.flatMap λw=>dY r (bZ r w) w) T=j++cC I G (stack.reverse.flatMap λw=>dY r (bZ r w) w) (T++bj j)/\(∀g∈T++bj j,f8 g)/\m'=(stack.map λw=>dN r (bZ r w) w).sum/\j.length+m'<=dN r r.steps.length ([],[])/\(∀w∈stack,GoodW sz r.steps w/\R w)/\aj[0]?=some (some (.ref a))/\aj[2]?=some (some (.ref aL))/\aj[4]?=some (some (.ref y))/\aj[5]?=some (some (.ref k))/\af y=some (.lst uF)/\aD (but af (k::y::M)) uF (j.map dM)/\af k=some (.lst L)/\aD (but af (k::y::M)) L (stack.map cR)/\af N=some (.dT (cB (T++bj j)))/\(∀b u,b≠N->H b=some u->af b=some u)/\au (k::y::M) af/\ab (but H M) (but af (k::y::M))/\aA (but af (k::y::M)) aj [none,some (.int ((G:Nat):Int)),none,some (.tup I),none,none,none,none],λaj af h=>h,?_⟩
  refine ⟨.ref k,j5,(show gj K "list" (.ref k) _ from .inl ⟨rfl,L,aO.of ea⟩),k,L,u,rfl,rfl,ea,hu,?_⟩
  have eb:but (upd X k (.lst L.dropLast)) (k::y::M)=but X (k::y::M):=dH KN
  have bi:aD (but (upd X k (.lst L.dropLast)) (k::y::M)) L.dropLast (J.map cR):=by
   rw [eb]
   have h1:=rU.take J.length
   rw [Lq,N8 (by rw [KP];exact KR _),Lz (l:=List.map cR J) (by rw [KP];exact KR _)] at h1
   have h2:L.dropLast=L.take J.length:=by rw [Pj,ct,MG]
   rw [h2];exact h1
  have Ea:aA (but (upd X k (.lst L.dropLast)) (k::y::M)) (O.set 6 (some u)) [none,some (.int ((G:Nat):Int)),none,some (.tup I),none,none,some (cR w),none]:=by rw [eb];exact EX.set 6 ru
  have la:au (k::y::M) (upd X k (.lst L.dropLast)):=lX.upd
  have Ka:∀b u,b≠N->H b=some u->(upd X k (.lst L.dropLast)) b=some u:=λb o hb e=>by
   rw [aC (λz=>by rw [z,HU] at e;cases e)];exact KX b o hb e
  have e1:ab (but H M) (but (upd X k (.lst L.dropLast)) (k::y::M)):=by rw [eb];exact gp
  have a2:(upd X k (.lst L.dropLast)) y=some (.lst uF):=by rw [aC b7];exact ey
  have am:(upd X k (.lst L.dropLast)) k=some (.lst L.dropLast):=aK
  have cd:(upd X k (.lst L.dropLast)) N=some (.dT (cB (T++bj j))):=by rw [aC b8];exact ez
  have c3:aD (but (upd X k (.lst L.dropLast)) (k::y::M)) uF (j.map dM):=by rw [eb];exact rF
  have b0:(O.set 6 (some u))[0]?=some (some (.ref a)):=(KQ Z5).trans j0
  have b2:(O.set 6 (some u))[2]?=some (some (.ref aL)):=(KQ Z5).trans j2
  have b4:(O.set 6 (some u))[4]?=some (some (.ref y)):=(KQ Z5).trans j4
  have b5:(O.set 6 (some u))[5]?=some (some (.ref k)):=(KQ Z5).trans j5
  clear eb rU ru
  generalize upd X k (.lst L.dropLast)=Xa at bi Ea la Ka e1 a2 am cd c3
  generalize L.dropLast=uV at bi am
  have a1:cC I G (B0.flatMap λw=>dY r (bZ r w) w) T=j++cC I G (dY r (bZ r w) w++J.reverse.flatMap λw=>dY r (bZ r w) w) (T++bj j):=by
   rw [as,List.reverse_append,NQ]
   simp
  have gy:(bj j).length=j.length:=by unfold bj;rw [KP]
  have e2:∀n,n<=dN r r.steps.length ([],[])->n<sizeLine:=λn h=>by omega
  have hm:=vt r J
  have di:=B9 r (bZ r w) w
  have dp:∀p∈w.1,p.2.sc=true:=λp hp=>(hw.ok p hp).1
  have a3:bM (bm I w):=zV hG.cq dp
  have dt:∀g∈T++bj j,bM g:=λg hg=>(U g hg).1
  refine fY (i:=7) (d:=.tup (bm I w)) la Ea (cb (R:=pW) ⟨I,w.1,rfl,hG.cq,dp,by have:=hG.hl;omega,rfl⟩ (aa (aI Ea rfl) (aa (bV (ds:=[.lst (pairD w.1),.tup (w.2.map λn=>D.int (n:Nat))]) (d:=.lst (pairD w.1)) rfl (aI Ea rfl) ar) ag))) λg0 Xb ob sb lb Eb=>?_
  have c0:=(ob 0 Z5).trans b0
  have c2:=(ob 2 Z5).trans b2
  have c4:=(ob 4 Z5).trans b4
  have c5:=(ob 5 Z5).trans b5
  have bk:=e1.trans (sb.but (k::y::M))
  have ch:=sb _ _ cd
  obtain ⟨v7,e7,r7⟩:=Eb.get 7 _ rfl
  obtain ⟨e3,ht,g1,h7,g2⟩:=r7.e9
  subst g1
  have ed:=(ax h7).2
  rw [mL a3 g2] at ed
  have g3:=(ax (bk _ _ ha)).2
  refine ⟨.ref e3,e7,.ref a,c0,a,CW,dx,_,.ref N,rfl,g3,TW.cl,TW.nT,rfl,N,_,rfl,cN.t ch ed,_,rfl,?_⟩
  rw [vO a3 dt]
  by_cases bl:bm I w∈T++bj j
  .
   rw [Ln bl]
   refine Eq.mpr (KS (c:=(!true)=true) Z8) ?_
   have g4:=hG.skip w ec (U _ bl).2
   refine ⟨_,O2 di,j,J,uF,uV,?_,U,rfl,by omega,λx hx=>an x (K9 _ hx),c0,c2,c4,c5,sb _ _ a2,c3.mono (sb.but _),sb _ _ am,bi.mono (sb.but _),ch,λb u hb e=>sb _ _ (Ka b u hb e),lb,bk,(Eb.drop 7).drop 6⟩
   rw [a1,yn _ _ _ λx hx=>by rw [g4 x hx];exact bl]
  .rw [Lp bl]
   refine Eq.mpr (K4 (c:=(!false)=true) rfl) ?_
   refine gX lb Eb (Cr c2 (co.mono bk) (aI Eb rfl)) (λe Xc sc lc Ec=>?_) (λe Xc sc lc Ec=>?_)
   .have e:=Le e
    have kC:dY r (bZ r w) w=[w]:=by
     have:bZ r w=0:=by unfold bZ;omega
     rw [this];rfl
    have g5:f8 (bm I w):=⟨a3,hG.flat w ec e⟩
    have hc:=(ax (((sc.but (k::y::M)) _ _ (bk _ _ ha)))).2
    have e4:=sc _ _ ch
    refine ⟨.ref a,c0,a,CW,dx,_,.ref N,rfl,hc,TW.cl,TW.nT,rfl,.ref e3,e7,N,_,rfl,f6.t e4 (sc _ _ ed) (by rw [xu,Lh,gy];omega),?_⟩
    rw [ya a3 dt,KS bl]
    have da:but (upd Xc N (.dT (cB (T++bj j++[bm I w])))) (k::y::M)=but Xc (k::y::M):=dH (KG _ (KG _ ek))
    have Ed:aA (but (upd Xc N (.dT (cB (T++bj j++[bm I w])))) (k::y::M)) g0 [none,some (.int ((G:Nat):Int)),none,some (.tup I),none,none,some (cR w),some (.tup (bm I w))]:=by rw [da];exact Ec
    have d0:(upd Xc N (.dT (cB (T++bj j++[bm I w])))) y=some (.lst uF):=by rw [aC (LN dd)];exact sc _ _ (sb _ _ a2)
    have d1:(upd Xc N (.dT (cB (T++bj j++[bm I w])))) k=some (.lst uV):=by rw [aC (LN b8)];exact sc _ _ (sb _ _ am)
    have e5:aD (but (upd Xc N (.dT (cB (T++bj j++[bm I w])))) (k::y::M)) uF (j.map dM):=by rw [da];exact c3.mono ((sb.trans sc).but _)
    have e6:aD (but (upd Xc N (.dT (cB (T++bj j++[bm I w])))) (k::y::M)) uV (J.map cR):=by rw [da];exact bi.mono ((sb.trans sc).but _)
    have Kd:∀b u,b≠N->H b=some u->(upd Xc N (.dT (cB (T++bj j++[bm I w])))) b=some u:=λb u hb e=>by rw [aC hb];exact sc _ _ (sb _ _ (Ka b u hb e))
    have e8:ab (but H M) (but (upd Xc N (.dT (cB (T++bj j++[bm I w])))) (k::y::M)):=by rw [da];exact bk.trans (sc.but _)
    have ld:au (k::y::M) (upd Xc N (.dT (cB (T++bj j++[bm I w])))):=lc.upd
    have d2:(upd Xc N (.dT (cB (T++bj j++[bm I w])))) N=some (.dT (cB (T++bj j++[bm I w]))):=aK
    generalize upd Xc N (.dT (cB (T++bj j++[bm I w])))=Xd at Ed d0 d1 e5 e6 Kd e8 ld d2
    refine wG ld Ed (a:=y) (d:=dM (bm I w,(G,w.2))) Z8 c4 d0 e5 (by rw [KP];exact e2 _ Z6) (aM (aa (aI Ed rfl) (aa (aI Ed rfl) (aa (bV (ds:=[.lst (pairD w.1),.tup (w.2.map λn=>D.int (n:Nat))]) (d:=.tup (w.2.map λn=>D.int (n:Nat))) rfl (aI Ed rfl) ar) ag)))) λvd Xe ke le he re Ee=>?_
    have Se:ab (but Xd (k::y::M)) (but Xe (k::y::M)):=nD Z8 ke
    have eg:bj (j++[(bm I w,(G,w.2))])=bj j++[bm I w]:=by rw [pT];rfl
    refine ⟨_,O2 di,j++[(bm I w,(G,w.2))],J,_,uV,?_,?_,rfl,?_,λx hx=>an x (K9 _ hx),c0,c2,c4,c5,he,?_,ke _ _ (LN b7) d1,e6.mono Se,?_,?_,le,e8.trans Se,(Ee.drop 7).drop 6⟩
    .rw [a1,kC,List.singleton_append,og bl,eg,<-LK T]
     exact (LK j [(bm I w,(G,w.2))] _).symm
    .rw [eg,<-LK]
     intro g hg
     rcases Ld.mp hg with z|z
     .exact U g z
     .rw [Li.mp z];exact g5
    .rw [Lh,Mi];omega
    .rw [Lq];exact re
    .rw [eg,<-LK];exact ke _ _ dd d2
    .exact λb u hb e=>ke b u (λz=>by rw [z,HF] at e;cases e) (Kd b u hb e)
   .have e:=LQ e
    have hv:=hw.two
    have ej:w.2.length<r.steps.length:=by omega
    have hf:=xp hR hw
    have fa:=G8 ej
    have fl:=Gx ej
    have fn:=bk.trans (sc.but (k::y::M))
    have hy:=vt r (db r w)
    refine ⟨.ref k,c5,(show gj K "list" (.ref k) _ from .inl ⟨rfl,uV,aO.of (sc _ _ (sb _ _ am))⟩),Jf c2 (co.mono fn) hR hw ej (aI Ec rfl) (k::y::M) Xc (ab.refl _) lc _ λv Xd sd rv=>?_⟩
    obtain ⟨bc,zs,rfl,hh,fp⟩:=rv.eA
    have hi:=fp.length
    rw [KP] at hi
    have hj:=bi.length
    rw [KP] at hj
    have bs:=sb.trans (sc.trans sd)
    refine ⟨k,bc,uV,zs,rfl,rfl,bs _ _ am,(ax hh).2,My (e2 _ Z6),?_⟩
    have dc:but (upd Xd k (.lst (uV++zs))) (k::y::M)=but Xd (k::y::M):=dH KN
    refine ⟨((J++db r w).map λw=>dN r (bZ r w) w).sum,?_,j,J++db r w,uF,uV++zs,?_,U,rfl,?_,λx hx=>?_,c0,c2,c4,c5,?_,?_,aK,?_,?_,?_,(lc.same sd).upd,?_,?_⟩
    .rw [Lq,Pf,fa];omega
    .rw [a1,fl,List.reverse_append,NQ]
    .rw [Lq,Pf];omega
    .rcases Ld.mp hx with z|z
     .exact an x (K9 _ z)
     .exact ⟨hf x z,hG.rs w ec x z⟩
    .rw [aC b7];exact bs _ _ a2
    .rw [dc];exact c3.mono (bs.but _)
    .rw [dc,Lq];exact (bi.mono (bs.but _)).append fp
    .rw [aC b8];exact bs _ _ cd
    .exact λb u hb e=>by rw [aC (λz=>by rw [z,HU] at e;cases e)];exact bs _ _ (Ka b u hb e)
    .rw [dc];exact fn.trans (sd.but _)
    .rw [dc];exact ((Ec.same sd).drop 7).drop 6
end
end a8
namespace a8
open PySem L2 FL
section
variable {P:Program}{w:World}{K:PySem.W.Frag}{mg:Str->Option Value}{base:Heap}{f:Addr}{fd:FuncData}
def pI:b9 ["self","facts","fact","found","number","loom"] ["self","facts"] (be lN):=⟨rfl,rfl,rfl,Z9,rfl,Z9,Z9⟩
def FP(F:aH K "one_round" "Weaving.one_round" lN f fd)(TL:lC K CL)(TW:oN K CW)(B:Bl mg)(a1:d9 P w K mg base 4 CL "take_in" ["self","facts"] (Bw C CL))(ao:d9 P w K mg base 5 CW "given_by" ["self","number","loom"] (zQ C CL CW)):bq P w K mg base bI 6 f fd ["self","facts"] (Bu C CL CW):=by
 refine F.ok pI (λvs H Q E ⟨_,_,_,_,_,_,_,_,_,_,_,_,_,e,_⟩=>by rw [e];rfl) (λkc A g1 s H vs Q E hr h=>?_)
 obtain ⟨Z,a,dx,vr,ll,td,us,ac,I,l,T,c,v1,rfl,lv,ha,g2,da,ev,ew,g3,rr,r1,hO,q⟩:=h
 have g4:=fO hr
 have mz:=TL.cl
 have pD:=TW.cl
 refine ⟨_,(az (dh Lj rfl (cF (pv 1)) (bp 2 pI.nd) (ay (ly g4 (dJ (pv 0) rfl) (pv 2) cA rfl)))
   (az (bg 3 pI.nd (cQ ap))
   (az (dh Lj rfl (Cd B.enumerate (ah (dJ (pv 0) rfl) ap)) (kn rfl (eY (bp 4 pI.nd) (eY (bp 5 pI.nd) iQ))) (az (ky (kJ (pv 5) mz a1 hr (ah (pv 1) ap)))
   (ay (ky (oT LU Mu MS tw (pv 3) (ah (kJ (pv 0) pD ao hr (ah (pv 4) (ah (pv 5) ap))) ap))))))
   (ay (bd (pv 3)))))),?_⟩
 have E0:aA (but H Z) (L2.start ["self","facts","fact","found","number","loom"] [.ref a,v1]) [none,some (.lst (c.map D.tup)),none,none,none,none]:=fL (.raw (.dat r1 .nil)) _
 have ex:∀g∈dC T c,f8 g:=λg hg=>by
  rcases (vz c T g).mp hg with z|z
  .exact hO.tok g z
  .exact (hO.oz g z).2
 have bs:=hO.all
 rw [Lh] at bs
 refine jA (M:=Z) (fy (aI (i:=1) E0 rfl)) lv λH1 s1=>?_
 refine ⟨λj O X=>X td=some (.dT (cB (dC T (c.take j))))/\(∀b u,b≠td->H b=some u->X b=some u)/\au Z X/\ab (but H1 Z) (but X Z)/\O[0]?=some (some (.ref a))/\aA (but X Z) O [none,some (.lst (c.map D.tup)),none,none,none,none],
  ⟨s1 _ _ g3,λb u _ e=>s1 _ _ e,lv.same s1,ab.refl _,rfl,E0.same s1⟩,λj O X ⟨_,_,x,y,_⟩=>⟨y,x⟩,?_,?_⟩
 .rintro j d x O X X' hd ⟨ht,kX,lX,SX,j0,EX⟩ s2 rx
  rw [KZ] at hd
  obtain ⟨g,hg,rfl⟩:=LW.mp hd
  have ey:=KU hg
  obtain ⟨jR,kd,rfl,h2,g5⟩:=rx.e9
  have ez:=(ax h2).2
  rw [mL (hO.oz g ey).2.1 g5] at ez
  have hc:but H1 Z a=some (.ins CW dx (oH vr ll td)):=(s1.but Z) _ _ ha
  have e0:=s2 _ _ (ax (SX _ _ hc)).2
  have he:∀g∈dC T (c.take j),bM g:=λg hg=>by
   rcases (vz _ T g).mp hg with z|z
   .exact (hO.tok g z).1
   .exact (hO.oz g (Oh z)).2.1
  have d0:=CA T c j
  refine ⟨.ref a,(KQ Z5).trans j0,a,CW,dx,_,.ref td,rfl,e0,TW.cl,TW.nT,rfl,.ref jR,K6 (by rw [EX.len];exact (show 2<6 by decide)),td,_,rfl,f6.t (s2 _ _ ht) ez (by rw [xu];exact cr Z6),?_⟩
  rw [ya (hO.oz g ey).2.1 he]
  have hf:c.take (j+1)=c.take j++[g]:=by rw [LG,hg];rfl
  have eb:∀o,but (upd X' td o) Z=but X' Z:=λo=>dH ev
  refine ⟨by rw [hf,GG];exact aK,λb u hb e=>by rw [aC hb];exact s2 _ _ (kX b u hb e),(lX.same s2).upd,by rw [eb];exact SX.trans (s2.but Z),(KQ Z5).trans j0,?_⟩
  rw [eb]
  exact (EX.same s2).off 2 _
 rintro ke H2 ⟨bt,k2,l2,S2,hh,E2⟩
 rw [KP,MD] at bt
 have hi:ab (but H Z) (but H2 Z):=(s1.but Z).trans S2
 clear S2 s1 H1
 refine oU (i:=3) l2 E2 Z8 ag (Ll _) λn vF hk H3 o3 i3 n3 h3 r3 l3 k3 E3=>?_
 have ec:ab H2 H3:=λx o e=>(k3 x o e).2
 have a2:H2 n=none:=none_of (ab.refl H2) k3
 have hl:vF=[]:=by cases r3;rfl
 subst hl
 have e5:hk[0]?=some (some (.ref a)):=(o3 0 Z5).trans hh
 have dc:ab (but H Z) (but H3 (n::Z)):=hi.trans (iW a2 ec)
 have bk:=da.gc
 have K3:∀b u,b≠td->H b=some u->H3 b=some u:=λb u hb e=>ec _ _ (k2 b u hb e)
 have hm:H n=none:=by
  cases qx:H n with
  |none=>rfl
  |some u=>
   by_cases z:n=td
   .rw [z,bt] at a2;cases a2
   .rw [k2 n u z qx] at a2;cases a2
 have e6:n≠td:=λz=>by rw [z,bt] at a2;cases a2
 have dd:=ec _ _ bt
 have ed:∀{x:Addr},H3 x=none->H x=none:=λ{x} e=>by
  cases qx:H x with
  |none=>rfl
  |some u=>
   by_cases z:x=td
   .rw [z,dd] at e;cases e
   .rw [K3 x u z qx] at e;cases e
 have hn:dD C CL H3 (n::Z) us ac l:=da.frame (λos N x G=>KG _ (bk os N x G)) (λb u ⟨os,N,hb⟩ e=>K3 b u (λz=>ew os N (by rw [<-z];exact hb)) e) dc
 have i7:=hO.len
 have e7:(gI I l c).length=l.length:=by
  unfold gI
  rw [KP,List.length_zip]
  omega
 generalize i8:dC T c=T1 at ex bt dd q bs
 have d1:∀(j:Nat) r U,I[j]?=some r->l[j]?=some U->(gI I l c)[j]?=some (r.1,iY (cx U c)):=λj r U e1 e2=>by
  unfold gI
  rw [KZ,(OE (z:=(r,U))).mpr ⟨e1,e2⟩]
  rfl
 generalize hp:gI I l c=L at e7 q d1 bs
 have d0:∀j,bH 0 L T1=bH 0 (L.take j) T1++bH (0+(L.take j).length) (L.drop j) (T1++bj (bH 0 (L.take j) T1)):=λj=>by
  have:=wn (L.take j) (L.drop j) 0 T1
  rw [Pk] at this
  exact this
 have bx:∀j,T1.length+(bH 0 (L.take j) T1).length<=1000:=λj=>by
  have e:=LL List.length (d0 j)
  rw [Lh] at e
  have e2:(bj (bH 0 L T1)).length=(bH 0 L T1).length:=by unfold bj;rw [KP]
  omega
 refine qV (M:=n::Z) (BK (kB TW.cl TW.nL e5 (dc _ _ ha) rfl) (dc _ _ g2)) l3 λH4 s4=>?_
 refine ⟨λj J O X=>∃m uF,dD C CL X J us m ((l.take j).map (λU=>cx U c)++l.drop j)/\(∀os∈m,∀x∈os,(∃o∈ac,x∈o)\/H4 x=none)/\(∀b u,b≠td->b≠n->(∀os∈ac,b∉os)->H4 b=some u->X b=some u)/\au J X/\(∀x∈n::Z,x∈J)/\(∀x∈J,x∈n::Z\/H4 x=none)/\X td=some (.dT (cB (T1++bj (bH 0 (L.take j) T1))))/\X n=some (.lst uF)/\aD (but X J) uF ((bH 0 (L.take j) T1).map dM)/\ab (but H4 (n::Z)) (but X J)/\O[0]?=some (some (.ref a))/\O[3]?=some (some (.ref n))/\aA (but X J) O [none,some (.lst (c.map D.tup)),none,none,none,none],
  ⟨ac,[],?_,λos N x G=>.inl ⟨os,N,G⟩,λb u _ _ _ e=>e,l3.same s4,λx G=>G,λx G=>.inl G,?_,s4 _ _ h3,.nil,ab.refl _,e5,i3,E3.same s4⟩,λj J O X ⟨_,_,_,_,_,x,_,_,_,_,_,y,_⟩=>⟨y,x⟩,?_,?_⟩
 .show dD C CL H4 (n::Z) us ac ([]++l)
  rw [Na]
  exact hn.frame (λos N x G=>KG _ (bk os N x G)) (λb u _ e=>s4 _ _ e) (s4.but _)
 .show H4 td=some (.dT (cB (T1++[])))
  rw [LA];exact s4 _ _ dd
 .rintro j J x O X X' hj ⟨m,uF,a3,Y,kX,lX,an,b0,bl,b6,rF,SX,j0,j3,EX⟩ s5 ⟨TT,v,rfl,hs,hv⟩
  have eg:j<l.length:=by rw [<-da.l1];exact hj
  have b7:=KL eg
  generalize e8:l[j]=U at b7
  have df:=KL (show j<I.length by omega)
  generalize I[j]'(show j<I.length by omega)=ru at df
  obtain ⟨hd,fa⟩:=ru
  obtain ⟨R,sz,hG,jk⟩:=hO.give j _ U df b7
  obtain ⟨fl,hw,h0⟩:=hO.fc U (KU b7)
  refine ⟨TT,_,rfl,bo.of (ax hs).2,rfl,_,[v],rfl,v,[],rfl,rfl,?_⟩
  have fn:=lX.same s5
  have d2:((l.take j).map (λU=>cx U c)++l.drop j)[j]?=some U:=by
   rw [Lo (by rw [KP,Lx];omega),KP,Lx,show j-min j l.length=0 by omega,List.getElem?_drop,Nat.add_zero]
   exact b7
  have d3:dD C CL X' J us m ((l.take j).map (λU=>cx U c)++l.drop j):=a3.frame a3.gc (λb u _ e=>s5 _ _ e) (s5.but _)
  obtain ⟨aj,di,hu,fp,fr,d4⟩:=d3.get j U d2
  rw [hv] at hu
  cases hu
  have E5:aA (but X' J) ((O.set 4 (some (.int ((j:Nat):Int)))).set 5 (some (.ref aj))) [none,some (.lst (c.map D.tup)),none,none,some (.int ((j:Nat):Int)),none]:=((EX.same s5).set 4 (.int _)).off 5 _
  have fs:=EX.len
  have c0:((O.set 4 (some (.int ((j:Nat):Int)))).set 5 (some (.ref aj)))[0]?=some (some (.ref a)):=(KQ Z5).trans ((KQ Z5).trans j0)
  have c3:((O.set 4 (some (.int ((j:Nat):Int)))).set 5 (some (.ref aj)))[3]?=some (some (.ref n)):=(KQ Z5).trans ((KQ Z5).trans j3)
  have c4:((O.set 4 (some (.int ((j:Nat):Int)))).set 5 (some (.ref aj)))[4]?=some (some (.int ((j:Nat):Int))):=(KQ Z5).trans (K6 (by rw [fs];exact (show 4<6 by decide)))
  have c5:((O.set 4 (some (.int ((j:Nat):Int)))).set 5 (some (.ref aj)))[5]?=some (some (.ref aj)):=K6 (by rw [Mw,fs];exact (show 5<6 by decide))
  generalize (O.set 4 (some (V.int ((j:Nat):Int)))).set 5 (some (.ref aj))=τ at E5 c0 c3 c4 c5
  obtain ⟨ft,c1,h4⟩:=E5.get 1 _ rfl
  obtain ⟨h5,kk,km,h6,j1,j2,fv,j4⟩:=id fr
  refine ⟨.ref aj,c5,aj,h5,_,rfl,h6,rfl,ft,c1,J,di,U,c,aj,ft,rfl,fn,fr,h4,λg hg=>(hO.oz g hg).1,h0,fl,hw,λk X6 n6 k6 l6 L6=>?_⟩
  have h7:td∈J:=an td (KG _ ev)
  have f0:n∈J:=an n KN
  have f1:H4 td≠none:=λz=>by rw [s4 _ _ dd] at z;cases z
  have f2:H4 n≠none:=λz=>by rw [s4 _ _ h3] at z;cases z
  have b8:∀{y:Addr},(∀o∈ac,y∉o)->H4 y≠none->∀os∈m,y∉os:=λ{y} h1 h2 os N hy=>by
   rcases Y os N y hy with ⟨o,am,w⟩|w
   .exact h1 o am w
   .exact h2 w
  have cd:=b8 ew f1
  have as:=b8 (λo N z=>by have:=bk o N n z;exact n3 this) f2
  have af:=KU fp
  have ch:∀x∈k.flatten,x∈aj::di.flatten\/X' x=none:=λx G=>by
   obtain ⟨os,N,hy⟩:=LF.mp G
   rcases n6 os N x hy with ⟨o,am,w⟩|w
   .exact .inl (KG _ (LF.mpr ⟨o,am,w⟩))
   .exact .inr w
  have co:∀b u,b∉aj::di.flatten->X' b=some u->X6 b=some u:=λb u hb e=>k6 b u (λz=>hb (by rw [z];exact KN)) (λos N z=>hb (KG _ (LF.mpr ⟨os,N,z⟩))) e
  have ej:=d3.put fn d2 hv fp KN ch co L6
  have ek:ab (but X' J) (but X6 (k.flatten++J)):=λb u e=>by
   obtain ⟨q1,q2⟩:=ax e
   rw [bh]
   .exact co b u (λz=>q1 (d4 b z)) q2
   .intro z
    rcases Ld.mp z with z|z
    .rcases ch b z with w|w
     .exact q1 (d4 b w)
     .rw [w] at q2;cases q2
    .exact q1 z
  have d5:((l.take j).map (λU=>cx U c)++l.drop j).set j (cx U c)=(l.take (j+1)).map (λU=>cx U c)++l.drop (j+1):=by
   have f3:((l.take j).map λU=>cx U c).length=j:=by rw [KP,Lx];omega
   rw [List.set_append_right _ _ Z6,f3,PF,MI eg,List.set_cons_zero,LG,KL eg,Lq,LK,e8]
   rfl
  rw [d5] at ej
  have f4:X6 td=some (.dT (cB (T1++bj (bH 0 (L.take j) T1)))):=co _ _ (cd _ af) (s5 _ _ bl)
  have cs:X6 n=some (.lst uF):=co _ _ (as _ af) (s5 _ _ b6)
  have E6:=E5.mono ek
  have f5:ab (but H4 (n::Z)) (but X6 (k.flatten++J)):=SX.trans ((s5.but _).trans ek)
  have em:ab (but H Z) (but X6 (k.flatten++J)):=dc.trans ((s4.but _).trans f5)
  have ga:=rF.mono ((s5.but _).trans ek)
  obtain ⟨Mg,a0⟩:∃Mg:List Addr,∀x,x∈Mg↔x∈k.flatten++J/\x∉aj::k.flatten:=⟨(k.flatten++J).filter λx=>decide (x∉aj::k.flatten),λx=>by rw [La,OJ]⟩
  have a4:∀x∈Mg,x∈k.flatten++J:=λx G=>((a0 x).mp G).1
  have gb:ab (but X6 (k.flatten++J)) (but X6 Mg):=d6 a4
  have h8:ik C CL (but X6 Mg) (.ref aj) (cx U c):=L6.rep a4 (λz=>((a0 aj).mp z).2 KN) λos N x G z=>((a0 x).mp z).2 (KG _ (LF.mpr ⟨os,N,G⟩))
  have ct:∀{y:Addr},X' y≠none->y∉aj::di.flatten->y∉aj::k.flatten:=λ{y} h1 h2 z=>by
   rcases KY.mp z with w|w
   .exact h2 (by rw [w];exact KN)
   .rcases ch y w with u|u
    .exact h2 u
    .exact h1 u
  have bc:td∈Mg:=(a0 td).mpr ⟨KW _ h7,ct (λz=>by rw [s5 _ _ bl] at z;cases z) (cd _ af)⟩
  have ea:n∈Mg:=(a0 n).mpr ⟨KW _ f0,ct (λz=>by rw [s5 _ _ b6] at z;cases z) (as _ af)⟩
  have en:∀g∈T1++bj (bH 0 (L.take j) T1),f8 g:=λg hg=>by
   rcases Ld.mp hg with z|z
   .exact ex g z
   .obtain ⟨y,hy,rfl⟩:=Lg.mp z
    obtain ⟨_,i,qq,hq,_,ww,ep,e1,_⟩:=nW _ _ _ y hy
    have eq:(gI I l c)[i]?=some qq:=by
     rw [hp]
     have ih:=(KJ.mp hq).1
     rw [Lx] at ih
     rw [MQ Z6] at hq
     exact hq
    unfold gI at eq
    rw [KZ] at eq
    obtain ⟨⟨r',it⟩,hz,rfl⟩:=LW.mp eq
    obtain ⟨e3,e4⟩:=OE.mp hz
    obtain ⟨R',ko,G',_⟩:=hO.give i r' it e3 e4
    rw [e1]
    exact G'.ow ww ep
  have kp:τ.length=6:=E5.len
  refine ⟨.ref n,c3,(show gj K "list" (.ref n) _ from .inl ⟨rfl,uF,aO.of cs⟩),.ref a,c0,a,dx,_,rfl,(ax (em _ _ ha)).2,rfl,.int ((j:Nat):Int),c4,.ref aj,c5,Mg,cx U c,a,dx,vr,ll,td,I,j,hd,fa,T1++bj (bH 0 (L.take j) T1),R,sz,.ref aj,rfl,λx G=>l6 x (a4 x G),(em.trans gb) _ _ ha,bc,f4,en,rr.mono (em.trans gb),df,h8,?_,hG,?_,λp dp X7 k7 gd iv r7 gh=>?_⟩
  .show ((U.steps).map _).length<=100
   rw [KP];exact fl
  .have:=bx j
   have e2:(bj (bH 0 (L.take j) T1)).length=(bH 0 (L.take j) T1).length:=by unfold bj;rw [KP]
   rw [Lh,e2]
   have:sizeLine=16777216:=by decide
   omega
  have gl:=d1 j _ U df b7
  have ix:L.take (j+1)=L.take j++[(hd,iY (cx U c))]:=by rw [LG,gl];rfl
  have er:(L.take j).length=j:=by rw [Lx];omega
  have c2:bH 0 (L.take (j+1)) T1=bH 0 (L.take j) T1++cC hd j (iY (cx U c)) (T1++bj (bH 0 (L.take j) T1)):=by
   rw [ix,wn,er,M8]
   show _++(cC hd j _ _++[])=_
   rw [LA]
  have kr:n≠p:=λz=>by rw [<-z,cs] at gd;cases gd
  have gn:X7 n=some (.lst uF):=k7 _ _ e6 cs
  have ds:=bx (j+1)
  rw [c2,Lh] at ds
  have iz:=r7.length
  rw [KP] at iz
  have i0:=ga.length
  rw [KP] at i0
  refine ⟨n,p,uF,dp,rfl,rfl,gn,iv,My (cr Z6),?_⟩
  have L7:dD C CL X7 (k.flatten++J) us (m.set j (aj::k.flatten)) ((l.take (j+1)).map (λU=>cx U c)++l.drop (j+1)):=by
   have es:∀os∈m.set j (aj::k.flatten),td∉os:=λos N=>by
    rcases MJ N with w|w
    .exact cd os w
    .rw [w];exact ((a0 td).mp bc).2
   refine ej.frame ej.gc (λb u ⟨os,N,hb⟩ e=>k7 b u (λz=>es os N (by rw [<-z];exact hb)) e) λb u e=>?_
   obtain ⟨q1,q2⟩:=ax e
   rw [bh q1]
   exact k7 b u (λz=>q1 (by rw [z];exact a4 td bc)) q2
  have et:ab (but X6 (k.flatten++J)) (but X7 (k.flatten++J)):=λb u e=>by
   obtain ⟨q1,q2⟩:=ax e
   rw [bh q1]
   exact k7 b u (λz=>q1 (by rw [z];exact a4 td bc)) q2
  have go:n∈k.flatten++J:=a4 n ea
  have eb:but (upd X7 n (.lst (uF++dp))) (k.flatten++J)=but X7 (k.flatten++J):=dH go
  have i1:∀x∈aj::k.flatten,∀ts,X7 x≠some (.tup ts):=by
   have i2:=L7.get j (cx U c) (by
    rw [<-d5,K6 (by rw [Lh,KP,Lx,No];omega)])
   obtain ⟨a',j5,_,e2,A',_⟩:=i2
   rw [K6 (by rw [a3.l2,Lh,KP,Lx,No];omega)] at e2
   have e2:=K8 e2
   rw [e2]
   exact A'.Hb
  have i4:aD (but X7 (k.flatten++J)) dp ((cC hd j (iY (cx U c)) (T1++bj (bH 0 (L.take j) T1))).map dM):=by
   have h1:=r7.mono (d6 (H:=X7) (M:=Mg) (M':=p::Mg) λx G=>KG _ G)
   have h2:=aD.pN i1 (wz λd i5=>by
    obtain ⟨y,hy,rfl⟩:=Lg.mp i5
    obtain ⟨_,_,ww,ep,e1,_⟩:=iA _ _ y hy
    exact JV y (by rw [e1];exact (hG.ow ww ep).1)) h1
   rw [j7 (M':=k.flatten++J)] at h2
   .exact h2
   .intro x
    rw [Ld]
    constructor
    .rintro (w|w)
     .rcases KY.mp w with z|z
      .rw [z];exact KW _ fv
      .exact K9 _ z
     .exact a4 x w
    .intro w
     by_cases z:x∈aj::k.flatten
     .exact .inl z
     .exact .inr ((a0 x).mpr ⟨w,z⟩)
  have gp:∀{x:Addr},X' x=none->(∃o∈ac,x∈o)\/H4 x=none:=λ{x} e=>by
   by_cases z:∃o∈ac,x∈o
   .exact .inl z
   .cases qx:H4 x with
    |none=>exact .inr rfl
    |some u=>
     by_cases z1:x=td
     .rw [z1,s5 _ _ bl] at e;cases e
     .by_cases z2:x=n
      .rw [z2,s5 _ _ b6] at e;cases e
      .have:=s5 _ _ (kX x u z1 z2 (λo N G=>z ⟨o,N,G⟩) qx)
       rw [e] at this;cases this
  refine ⟨k.flatten++J,m.set j (aj::k.flatten),uF++dp,?_,λos N x G=>?_,λb u hb dt gs e=>?_,?_,λx G=>KW _ (an x G),λx G=>?_,?_,aK,?_,?_,c0,c3,?_⟩
  .have eu:∀os∈m.set j (aj::k.flatten),n∉os:=λos N=>by
    rcases MJ N with w|w
    .exact as os w
    .rw [w];exact ((a0 n).mp ea).2
   refine L7.frame L7.gc (λb u ⟨os,N,hb⟩ e=>?_) (by rw [eb];exact ab.refl _)
   rw [aC (λz=>eu os N (by rw [<-z];exact hb))]
   exact e
  .rcases MJ N with w|w
   .exact Y os w x G
   .rw [w] at G
    rcases KY.mp G with z|z
    .exact Y _ af x (by rw [z];exact KN)
    .rcases ch x z with y|y
     .exact Y _ af x y
     .exact gp y
  .rw [aC dt]
   refine k7 b u hb (co b u (λz=>?_) (s5 _ _ (kX b u hb dt gs e)))
   rcases Y _ af b z with ⟨o,am,w⟩|w
   .exact gs o am w
   .rw [e] at w;cases w
  .have:au (k.flatten++J) X7:=λx G z=>by
    cases qx:X6 x with
    |none=>exact l6 x G qx
    |some u=>
     by_cases w:x=td
     .rw [w,gh] at z;cases z
     .rw [k7 x u w qx] at z;cases z
   exact this.upd
  .rcases Ld.mp G with z|z
   .rcases ch x z with y|y
    .rcases Y _ af x y with ⟨o,am,w⟩|w
     .exact .inl (KG _ (bk o am x w))
     .exact .inr w
    .rcases gp y with ⟨o,am,w⟩|w
     .exact .inl (KG _ (bk o am x w))
     .exact .inr w
   .exact b0 x z
  .rw [aC (LN e6),gh,c2,pT,LK]
  .rw [eb,c2,Lq]
   exact (ga.mono et).append i4
  .rw [eb];exact f5.trans et
  .rw [eb]
   exact ((E6.mono et).drop 4)
 .rintro J O X ⟨m,uF,a3,Y,kX,lX,an,b0,bl,b6,rF,SX,j0,j3,EX⟩
  have gy:us.length=l.length:=da.l1
  rw [gy,MD,List.drop_length,LA] at a3
  rw [gy,<-e7,MD] at bl rF
  refine ⟨.ref n,j3,?_⟩
  have bi:∀{x:Addr},H4 x=none->H x=none:=λ{x} e=>ed (jo s4 e)
  have f0:n∈J:=an n KN
  have as:∀os∈m,n∉os:=λos N hy=>by
   rcases Y os N n hy with ⟨o,am,w⟩|w
   .exact n3 (bk o am n w)
   .rw [s4 _ _ h3] at w;cases w
  have Zs:∀x∈J.filter (λx=>decide (x≠n)),x∈J:=λx G=>(La.mp G).1
  have g0:n∉J.filter (λx=>decide (x≠n)):=λz=>by simp at z
  refine q (.ref n) X (J.filter λx=>decide (x≠n)) m (λb u hb dt e=>?_) (λx G=>?_) (λx G=>?_) (λx G=>lX x (Zs x G)) ?_ (λos N x G=>?_) bl ?_
  .have nb:b≠n:=λz=>by rw [z,hm] at e;cases e
   exact kX b u hb nb dt (s4 _ _ (K3 b u hb e))
  .refine La.mpr ⟨an x (KG _ G),Ln λz=>?_⟩
   rw [z] at G;exact n3 G
  .rcases b0 x (Zs x G) with z|z
   .rcases KY.mp z with w|w
    .rw [w] at G;exact absurd G g0
    .exact .inl w
   .exact .inr (bi z)
  .refine a3.frame (λos N x G=>La.mpr ⟨a3.gc os N x G,Ln λz=>as os N (by rw [<-z];exact G)⟩) (λb u _ e=>e) (d6 Zs)
  .rcases Y os N x G with z|z
   .exact .inl z
   .exact .inr (bi z)
  .exact .lst (by rw [bh g0];exact b6) (rF.mono (d6 Zs))
end
end a8
namespace a8
open PySem L2 FL
section
variable {P:Program}{w:World}{K:PySem.W.Frag}{mg:Str->Option Value}{base:Heap}{f:Addr}{fd:FuncData}
def CK:b9 ["self","rules"] ["self","rules"] (be md):=⟨rfl,rfl,rfl,Z9,rfl,Z9,Z9⟩
def Dj(F:aH K "__init__" "Weaving.__init__" md f fd)(J:oN K CW)(t:jf P w K mg base 7 CL "Loom" ["self","body"] (vP C CL)):bq P w K mg base bI 9 f fd ["self","rules"] (BN C CL CW):=by
 refine F.ok CK (λvs H Q E ⟨_,_,_,_,_,e,_⟩=>by rw [e];rfl) (λas A ac s H vs Q E hr h=>?_)
 obtain ⟨M,m,x,g,d,rfl,hx,lv,a0,r1,aw,a1,q⟩:=h
 refine ⟨_,(az (fA (pv 0) (pv 1) rfl)
   (az (fA (pv 0) (fC ["rule"] [] 1 (cF (pv 1)) (λ_ _ _ _ _=>(bp 0 (jU _))) (λ_ _ _ _ _=>jm) (λ_ _ _ _ _=>(CZ t hr (ah (j9 (pv 0) aE) ap)))) rfl)
   (ay (fA (pv 0) oQ rfl)))),?_⟩
 have af:al (but H (x::M)) d (.lst (m.map bf)):=al.fk hx rfl r1
 refine ⟨d,rfl,.ref x,rfl,x,CW,g,[],rfl,hx,J.cl,J.nR,(show 0<1000 by decide),?_⟩
 have N:but (upd H x (.ins CW g (cM "rules" d []))) (x::M)=but H (x::M):=dH KN
 have l1:au (x::M) (upd H x (.ins CW g (cM "rules" d []))):=(lv.upd).cons aK
 have E1:aA (but (upd H x (.ins CW g (cM "rules" d []))) (x::M)) (L2.start ["self","rules"] [.ref x,d]) [none,some (.lst (m.map bf))]:=by
  rw [N];exact fL (.raw (.dat af .nil)) _
 have n:(upd H x (.ins CW g (cM "rules" d []))) x=some (.ins CW g (cM "rules" d [])):=aK
 have K1:∀b u,b≠x->H b=some u->(upd H x (.ins CW g (cM "rules" d []))) b=some u:=λb u r e=>by rw [aC r];exact e
 have N1:∀{b:Addr},(upd H x (.ins CW g (cM "rules" d []))) b=none->H b=none:=λ{b} e=>by
  cases qb:H b with
  |none=>rfl
  |some u=>
   by_cases z:b=x
   .rw [z,n] at e;cases e
   .rw [K1 b u z qb] at e;cases e
 generalize upd H x (.ins CW g (cM "rules" d []))=H1 at N l1 E1 n K1 N1
 refine IE (M:=x::M) (fy (aI E1 rfl)) l1 aw Z6 λD us o L k2 B O hn l2 aj=>?_
 have am:=k2 _ _ n
 have an:x≠D:=λz=>by rw [<-z,n] at B;cases B
 refine ⟨.ref x,rfl,x,CW,g,_,rfl,am,J.cl,J.nL,(show 1<1000 by decide),λi j=>⟨.ref x,rfl,x,CW,g,[("rules",d),("looms",.ref D)],rfl,?_,J.cl,J.nT,(show 2<1000 by decide),?_⟩⟩
 .rw [aC (λz=>by rw [<-z,aK] at j;cases j)]
  exact aK
 have T:i≠x:=λz=>by rw [z,aK] at j;cases j
 have a:L i=none:=by rw [aC T] at j;exact j
 have U:i≠D:=λz=>by rw [z,O] at a;cases a
 have Y:∀{b:Addr},L b=none->H b=none:=λ{b} e=>N1 (jo (λc u q=>k2 c u q) e)
 have k:∀b,(upd (upd (upd L x (.ins CW g (cM "looms" (.ref D) (cM "rules" d [])))) i (.dT [])) x (.ins CW g (cM "told" (.ref i) [("rules",d),("looms",.ref D)]))) b=if b=x then some (.ins CW g (oH d D i)) else if b=i then some (.dT []) else L b:=λb=>by
  by_cases z:b=x
  .rw [K4 z,z];exact aK
  .rw [KS z,aC z]
   by_cases v:b=i
   .rw [K4 v,v];exact aK
   .rw [KS v,aC v,aC z]
 generalize upd (upd (upd L x (.ins CW g (cM "looms" (.ref D) (cM "rules" d [])))) i (.dT [])) x (.ins CW g (cM "told" (.ref i) [("rules",d),("looms",.ref D)]))=H5 at k
 have G:∀os∈o,∀y∈os,y≠x/\y≠i:=λos l y p=>by
  refine ⟨λz=>?_,λz=>?_⟩
  .have:=(hn os l y p).1
   rw [z,n] at this;cases this
  .refine l2 y (K9 _ (LF.mpr ⟨os,l,p⟩)) ?_
   rw [z];exact a
 have I:∀b u,b≠x->L b=some u->H5 b=some u:=λb u r e=>by
  rw [k,KS r,KS (λz=>by rw [z,a] at e;cases e)];exact e
 have a2:i∉M:=λz=>lv i z (Y a)
 have a3:x∉o.flatten:=λz=>by
  obtain ⟨os,l,p⟩:=LF.mp z
  exact (G os l x p).1 rfl
 refine q D i us o H5 (λb u r e=>I b u r (k2 _ _ (K1 b u r e))) (by rw [k,K4 rfl]) (Y a) (by rw [k,KS T,K4 rfl]) (λos l y p=>⟨N1 (hn os l y p).1,(G os l y p).2⟩) ?_ (λb r z=>?_) ?_
 .rw [bh,k,KS (LN an),KS (LN U)]
  .exact O
  .intro z
   rcases KY.mp z with w|w
   .exact U w.symm
   .rcases Ld.mp w with w|w
    .obtain ⟨os,l,p⟩:=LF.mp w
     exact (hn os l D p).2 rfl
    .exact lv D w (N1 B)
 .rw [k] at z
  by_cases z1:b=x
  .rw [K4 z1] at z;cases z
  .rw [KS z1] at z
   by_cases v:b=i
   .rw [K4 v] at z;cases z
   .rw [KS v] at z
    rcases KY.mp r with w|w
    .exact v w
    .refine l2 b ?_ z
     rcases Ld.mp w with w|w
     .exact K9 _ w
     .exact KW _ (KG _ w)
 .refine aj.frame (λos l y p=>KG _ (K9 _ (LF.mpr ⟨os,l,p⟩))) (λb u ⟨os,l,r⟩ e=>I b u (G os l b r).1 e) λb u e=>?_
  obtain ⟨q1,q2⟩:=ax e
  have ao:b≠x:=λz=>q1 (KW _ (by rw [z];exact KN))
  rw [bh]
  .exact I b u ao q2
  .intro z
   rcases KY.mp z with w|w
   .rw [w,a] at q2;cases q2
   .rcases Ld.mp w with w|w
    .exact q1 (K9 _ w)
    .exact q1 (KW _ (KG _ w))
def FM:b9 ["rules","facts"] ["rules","facts"] (be qy):=⟨rfl,rfl,rfl,Z9,rfl,Z9,Z9⟩
def GS(F:aH K "next_reasons" "next_reasons" qy f fd)(TW:oN K CW)(c:jf P w K mg base 9 CW "Weaving" ["self","rules"] (BN C CL CW))(a:d9 P w K mg base 6 CW "one_round" ["self","facts"] (Bu C CL CW)):bq P w K mg base bI 11 f fd ["rules","facts"] uZ:=by
 refine F.ok FM (λvs H Q E ⟨_,_,_,_,_,e,_⟩=>by rw [e];rfl) (λaf A I s H vs Q E hr h=>?_)
 obtain ⟨M,d,l,J,v1,rfl,lv,r0,r1,aw,L,hO,q⟩:=h
 have pD:=TW.cl
 refine ⟨_,(ay (bd (kJ (u8 c hr (ah (pv 0) ap)) pD a hr (ah (pv 1) ap)))),?_⟩
 refine ⟨J,rfl,λx j N O aj=>?_⟩
 have n:ab H (upd (upd H j (.own x)) x (.ins CW j [])):=λb u e=>by rw [aC (de e N),aC (de e O)];exact e
 have back:∀{z:Addr},(upd (upd H j (.own x)) x (.ins CW j [])) z=none->H z=none:=λ{z} e=>jo n e
 have k:(upd (upd H j (.own x)) x (.ins CW j [])) x=some (.ins CW j []):=aK
 generalize upd (upd H j (.own x)) x (.ins CW j [])=H1 at n back k
 have o:x∉M:=lv.fresh N
 refine ⟨M,d,x,j,J,rfl,k,lv.same n,o,r0.mono (n.but M),aw,L,λll p us g H2 k2 t i y G T l2 U=>⟨rfl,?_⟩⟩
 have S2:ab H H2:=λb u e=>k2 b u (de e N) (n _ _ e)
 have Y:x∉p::(g.flatten++M):=λz=>by
  rcases KY.mp z with w|w
  .rw [<-w,k] at i;cases i
  .rcases Ld.mp w with w|w
   .obtain ⟨os,m,hy⟩:=LF.mp w
    rw [(G os m x hy).1] at k;cases k
   .exact o w
 have SZ:ab (but H M) (but H2 (p::(g.flatten++M))):=λb u e=>by
  obtain ⟨q1,B⟩:=ax e
  rw [bh]
  .exact S2 _ _ B
  .intro z
   rcases KY.mp z with w|w
   .rw [w,back i] at B;cases B
   .rcases Ld.mp w with w|w
    .obtain ⟨os,m,hy⟩:=LF.mp w
     rw [back (G os m b hy).1] at B;cases B
    .exact q1 w
 refine ⟨x,j,_,rfl,t,rfl,v1,rfl,p::(g.flatten++M),x,j,J,ll,p,us,g,d,d.map λr=>cU r.2,[],l,v1,rfl,l2,by rw [bh Y];exact t,T,U,KN,λos m z=>(G os m p z).2 rfl,y,r0.mono SZ,r1.mono SZ,hO,λv H3 Z3 ac k3 z1 z2 l3 L3 n3 am r3=>?_⟩
 refine q v H3 (λb u e=>?_) (r3.mono (d6 λb hb=>z1 b (KG _ (KW _ hb))))
 refine k3 b u (λz=>by rw [z,back i] at e;cases e) (λos m z=>by rw [back (G os m b z).1] at e;cases e) (S2 _ _ e)
end
end a8
namespace a8
open PySem L2 FL
section
variable {P:Program}{w:World}{K:PySem.W.Frag}{mg:Str->Option Value}{base:Heap}{f:Addr}{fd:FuncData}
def Ki:b9 ["_law_script","_law_k"] ["_law_script","_law_k"] (be rX):=⟨rfl,rfl,rfl,Z9,rfl,Z9,Z9⟩
def F0 (F:aH K "_law_at" "_law_at" rX f fd)(B:Bl mg):bq P w K mg base bI 1 f fd ["_law_script","_law_k"] (bJ rE):=by
 refine F.ok Ki (fg (n:=2) λo d ⟨l,k,e,_⟩=>by rw [e];rfl) (λp A b s H G Q E r h=>?_)
 obtain ⟨M,o,d,t,u,⟨l,k,rfl,x,rfl⟩,q⟩:=h
 have I:=eD r
 refine ⟨_,(az (bB (bK jE (pv 1) (cg B (pv 0))) (ay (bd (aT (pv 0) (pv 1)))) bS)
   (ay (bd aE))),?_⟩
 have E0:=gZ u ["_law_script","_law_k"]
 refine gX t E0 (bN (jL (aI E0 rfl) (cY (aa (aI E0 rfl) ag)))) (λe j c m g=>?_) (λe j c m g=>?_)
 .have a:=Le e
  have i:l[k.toNat]?=some (lK l k):=by
   unfold lK
   rw [K4 a,List.getD,KL Z6]
   rfl
  exact eG m (bR (jI x i) (aI g rfl) (aI g rfl)) λv y z C=>q v y (c.trans z) C
 .have a:=LQ e
  have i:lK l k=.int 0:=by unfold lK;rw [KS a]
  rw [i] at q
  exact q (.int 0) j c (.int 0)
def Fp:b9 ["_law_found"] ["_law_found"] (be qY):=⟨rfl,rfl,rfl,Z9,rfl,Z9,Z9⟩
def IX (F:aH K "_law_whole" "_law_whole" qY f fd)(B:Bl mg):bq P w K mg base bI 1 f fd ["_law_found"] (bJ oY):=by
 refine F.ok Fp (fg (n:=1) λb d ⟨x,e,_⟩=>by rw [e];rfl) (λc A a s H j Q E k h=>?_)
 obtain ⟨M,b,d,g,i,⟨x,rfl,rfl⟩,q⟩:=h
 refine ⟨_,(ay (bd (nY (ee B (pv 0) B.int Ng) (pF (yM (ee B (pv 0) B.bool Nb)))))),?_⟩
 have E0:=gZ i ["_law_found"]
 exact eG g (fD (lL (aI E0 rfl)) λ_=>z8 (uS (aI E0 rfl))) q
def EJ:b9 ["_law_script"] ["_law_script"] (be sM):=⟨rfl,rfl,rfl,Z9,rfl,Z9,Z9⟩
def Fw (F:aH K "_law_mixed" "_law_mixed" sM f fd)(B:Bl mg):bq P w K mg base bI 1 f fd ["_law_script"] (bJ AU):=by
 refine F.ok EJ (fg (n:=1) λz d ⟨x,e,_⟩=>by rw [e];rfl) (λC A b s H u Q E hr h=>?_)
 obtain ⟨M,z,d,G,I,⟨a,rfl,J,rfl⟩,q⟩:=h
 refine ⟨_,(ay (bd (fC ["_law_script","_law_k"] [0] 1 (jH rfl B.range (ah (cg B (pv 0)) ap)) (λ_ _ _ _ _=>(bp 1 (show (["_law_script","_law_k"]:List Str).Nodup from by decide+kernel))) (λ_ _ _ _ _=>jm) (λ_ _ _ _ _=>(cj d8 (cj yP (cj iZ (j9 (pv 0) (pv 1)) (cj yP aE (pv 1))) aE) aE))))),?_⟩
 have E0:=gZ I ["_law_script"]
 obtain ⟨L,c,N⟩:=E0.get 0 _ rfl
 let g:D->D:=λd=>match d with
  |.int j=>.int ((a.getD j.toNat 0+7919*j)*48271%1000003)
  |_=>.av
 have m:=gf (caps:=aX [0] 1) (i:=1) (p:=λ_=>true) (f:=g) (tt:=ka) (te:=bz (rI (λ_ j=>0<j) λi j=>.int (i%j)) (bz (rI lU λi j=>.int (i*j)) (bz (fZ λi j=>.int (i+j)) (bz (eF K) (aR 0) (aR 1)) (bz (rI lU λi j=>.int (i*j)) (tC (.int 7919)) (aR 1))) (tC (.int 48271))) (tC (.int 1000003)))
  (BX (n:=a.length) Z6 (aa ((cY (K:=K) (l:=a.map D.int) (aa (aI (i:=0) E0 rfl) ag)).eq Z8) ag))
  (λO v d _ _ _=>jG) (λO v d T U _ r=>?_) (by simp only [KP,MB];exact cr Z6)
 .refine eG G (m.eq ?_) q
  have Y:(List.filter (λ_=>true) ((List.range a.length).map λ(k:Nat)=>D.int (0+k)))=(List.range a.length).map λ(k:Nat)=>D.int (0+k):=LZ.mpr λ_ _=>rfl
  rw [Y]
  show D.lst _=D.lst _
  congr 1
  unfold lE
  rw [LH,LH]
  refine Ly λk _=>?_
  show D.int ((a.getD (0+(k:Int)).toNat 0+7919*(0+(k:Int)))*48271%1000003)=D.int _
  have o:(0+(k:Int)).toNat=k:=by omega
  rw [o,Pc]
 .obtain ⟨k,hk,rfl⟩:=Lg.mp U
  have t:k<a.length:=Pm.mp hk
  have h0:((aX [0] 1 (L2.start ["_law_script"] u)).set 1 (some v))[0]?=some (some L):=by simp [aX,c]
  have y:((aX [0] 1 (L2.start ["_law_script"] u)).set 1 (some v))[1]?=some (some v):=by simp [aX]
  have ix:c7 (a.map D.int) (0+(k:Int))=some (.int (a.getD (0+(k:Int)).toNat 0)):=by
   have o:(0+(k:Int)).toNat=k:=by omega
   refine jI Z6 ?_
   rw [o,KZ,List.getD,KL t]
   rfl
  exact d7 Z5 (yV (.inr ⟨by decide,by decide⟩) (jy (bR ix (cE h0 (N.mono T)) (cE y r)) (yV (.inl ⟨by decide,by decide⟩) ar (cE y r))) ar) ar
def Ab:b9 ["_law_found","_law_part"] ["_law_found"] (be rL):=⟨rfl,rfl,rfl,Z9,rfl,Z9,Z9⟩
def D8 (F:aH K "_law_is_fact" "_law_is_fact" rL f fd)(B:Bl mg)(a:a5 P w K mg base 1 "_law_whole" ["_law_found"] (bJ oY)):bq P w K mg base bI 2 f fd ["_law_found"] (bJ uG):=by
 refine F.ok Ab (fg (n:=1) λt d ⟨_,e,_⟩=>by rw [e];rfl) (λu A k s H O Q E p h=>?_)
 obtain ⟨M,t,d,y,C,⟨_,rfl,⟨r,l,rfl,I⟩,rfl⟩,q⟩:=h
 have J:=eD p
 refine ⟨_,(az (bB (eM (dF (cu (ee B (pv 0) B.tuple L4))) (eM (bK (fG (by exact J)) (cg B (pv 0)) aE) (fS (dF (cu (ee B (aT (pv 0) aE) B.str MH)))))).pt (ay (bd cA)) bS)
   (az (dh Lj rfl (cF (pv 0)) (bp 1 Ab.nd) (ay (bB (iI (dF (cu (ee B (pv 1) B.str MH))) (iM (dF (cu (bQ a p (ah (pv 1) ap)))))).pt (ay (bd cA)) bS)))
   (ay (bd cA)))),?_⟩
 have L:Bx H M [] _ H [Sl.d (.tup (.str r::l)),.no]:=js y C ["_law_found","_law_part"]
 refine aU.run L ?_
 refine fN (λG m e=>eJ (b:=false) (c:=false) (aY.eq (dL (cm (mW (e.v rfl)))) rfl) λ_=>eJ (b:=false) (c:=false) (aY.eq (bN (lD (gR (K:=K) (aa (e.v rfl) ag)) ar)) (Lp (by simp;omega))) λ_=>aY.eq (dL (cm (iK (bV (ds:=.str r::l) (d:=.str r) ge (e.v rfl) ar)))) rfl) ?_
 refine ba (fK (i:=1) (dm.of λG m e=>gO (e.vd rfl)) (λ_ g=>∃s,g=[Sl.d (.tup (.str r::l)),s]) ⟨_,rfl⟩ (λT U Y j x g N o=>?_) (λg o=>?_))
 .obtain ⟨s,rfl⟩:=o
  have cq:x.sc=true:=by
   rcases KY.mp (KU N) with z|z
   .rw [z];rfl
   .exact I x z
  exact dg (b:=false) (λG m e=>aY.eq (jY (dL (cm (iK (e.v rfl)))) λ_=>dL (cm (cb ⟨x,rfl,rfl⟩ (aa (e.v rfl) ag)))) (Fe cq)) (λz=>nomatch z) (λ_=>eQ (dB ⟨_,rfl⟩))
 .obtain ⟨s,rfl⟩:=o
  dsimp only
  exact fj (λG m e=>mR (b:=true)) q
def tN:b9 ["_law_atoms","_law_blanks","_law_atom","_law_part"] ["_law_atoms"] (be sN):=⟨rfl,rfl,rfl,Z9,rfl,Z9,Z9⟩
def Gz (F:aH K "_law_blanks_in" "_law_blanks_in" sN f fd)(B:Bl mg):bq P w K mg base bI 1 f fd ["_law_atoms"] (bJ BH):=by
 refine F.ok tN (fg (n:=1) λds d ⟨_,e,_⟩=>by rw [e];rfl) (λao A T s H vs Q E hr h=>?_)
 obtain ⟨M,ds,d,lv,rs,⟨g,rfl,t,rfl⟩,q⟩:=h
 have hu:=eD hr
 refine ⟨_,(az (bg 1 tN.nd (cQ ap))
   (az (dh Lj rfl (cF (pv 0)) (bp 2 tN.nd) (ay (dh Lj rfl (cF (nj qu (pv 2) (mr aE) pe)) (bp 3 tN.nd) (ay (bB (iI (bK (yD hu) (pv 3) (dy (ah dA (ah dA (ah dA ap))))) (iM (bK (vp hu) (pv 3) (pv 1)))).pt (ay (jx (pv 1) (pv 3))) bS)))))
   (ay (bd (pv 1))))),?_⟩
 have b0:Bx H M [] _ H [Sl.d (c8 g),.no,.no,.no]:=js lv rs ["_law_atoms","_law_blanks","_law_atom","_law_part"]
 refine aU.run b0 (ba (ud (i:=1) ?_))
 have fc:∀(u:List (List D)) (l:List D) (j:Nat),u.length<=100->(∀a∈u,a.length<=10)->l.length<=10->(ak (aW [] u) (l.take j)).length<=1010:=λu l j h1 h2 h3=>by
  have g1:=Co (B:=[]) h2
  have g2:=kW (l.take j) (aW [] u)
  rw [Lx] at g2
  rw [MR] at g1
  omega
 refine ba (fK (i:=2) (ds:=g.map D.tup) (dm.of λG O e=>gO (e.vd rfl)) (λj m=>∃U p,m=[Sl.d (c8 g),.l ((aW [] (g.take j)).map D.str),U,p]) ⟨_,_,rfl⟩ (λB' sB hk j x m hj r=>?_) (λm r=>?_))
 .obtain ⟨U,p,rfl⟩:=r
  rw [KZ] at hj
  obtain ⟨a,ha,rfl⟩:=LW.mp hj
  have o:=KU ha
  obtain ⟨C,Y⟩:=t.ne a o
  have ac:=t.fc.2 a o
  obtain ⟨y,l,rfl⟩:∃y l,a=y::l:=by
   cases a with
   |nil=>exact absurd rfl C
   |cons y l=>exact ⟨y,l,rfl⟩
  have I:l.length<=10:=by rw [Lr] at ac;omega
  have J:aW [] (g.take (j+1))=ak (aW [] (g.take j)) l:=by rw [Hn g j ha,D0 C Y];rfl
  have af:∀z∈g.take j,z∈g:=λz hz=>Oh hz
  have aj:(g.take j).length<=100:=by rw [Lx];have:=t.fc.1;omega
  refine fK (i:=3) (ds:=l) (dm.of λG O e=>gO (tf (k:=1) (l:=y::l) Z5 (Nat.succ_pos _) (e.vd rfl))) (λi m=>∃p,m=[Sl.d (c8 g),.l ((ak (aW [] (g.take j)) (l.take i)).map D.str),.d (.tup (y::l)),p]) ⟨_,rfl⟩ (λB2 a0 a1 i x am hx r=>?_) (λam r=>?_)
  .obtain ⟨p,rfl⟩:=r
   have L:x∈l:=KU hx
   have cq:=t.sc _ o x (KG _ L)
   have N:aB x=decide (x∈cJ):=t.bl _ o x L
   have c:=G3 (B:=aW [] (g.take j)) hx
   have hf:=fc (g.take j) l i aj (λz hz=>t.fc.2 z (af z hz)) I
   generalize ak (aW [] (g.take j)) (l.take i)=Bj at c hf
   rw [IH _ _ cq,N] at c
   refine dg (b:=decide (x∈cJ)&& !decide (x∈Bj.map D.str)) (λG O e=>jY (bN (B3 (λy hy=>eT ((by decide:∀y∈cJ,y.sc=true) y hy) cq) (e.v rfl) (aM (ds:=cJ) (aa aF (aa aF (aa aF ag))) Z5))) λ_=>bN (uW (λy hy=>by obtain ⟨b,_,rfl⟩:=Lg.mp hy;exact eT rfl cq) (e.v rfl) (e.v rfl))) (λz=>?_) (λz=>?_)
   .rw [K4 z] at c
    have an:x=.str x.name:=by
     refine gT ?_
     rw [N];exact (Pw.mp z).1
    refine tY (j:=1) (d:=x) rfl (λG O e=>e.v rfl) (kR cq) (by rw [KP];exact M6 hf Z5) ?_
    rw [show Bj.map D.str++[x]=(Bj++[x.name]).map D.str by rw [Lq,an];rfl,<-c]
    exact dB ⟨_,rfl⟩
   .rw [KS (by rw [z];exact K0)] at c
    rw [<-c]
    exact eQ (dB ⟨_,rfl⟩)
  .obtain ⟨p,rfl⟩:=r
   rw [MD,<-J]
   exact dB ⟨_,_,rfl⟩
 .obtain ⟨U,p,rfl⟩:=r
  rw [KP,MD]
  exact fj (λG O e=>e.v rfl) q
def zS:b9 ["_law_found","_law_count","_law_most","_law_place"] ["_law_found","_law_count","_law_most"] (be rH):=⟨rfl,rfl,rfl,Z9,rfl,Z9,Z9⟩
def HC (F:aH K "_law_places_fit" "_law_places_fit" rH f fd)(B:Bl mg)(a:a5 P w K mg base 1 "_law_whole" ["_law_found"] (bJ oY)):bq P w K mg base bI 2 f fd ["_law_found","_law_count","_law_most"] (bJ Aq):=by
 refine F.ok zS (fg (n:=3) λt d ⟨_,_,_,e,_⟩=>by rw [e];rfl) (λu A k s H U Q E r h=>?_)
 obtain ⟨M,t,d,y,C,⟨l,n,m,rfl,I,J,rfl⟩,q⟩:=h
 have L:=eD r
 refine ⟨_,(az (bB (eM (dF (cu (ee B (pv 0) B.tuple L4))) (fS (bK (eo (by exact L)) (cg B (pv 0)) (pv 1)))).pt (ay (bd cA)) bS)
   (az (dh Lj rfl (cF (pv 0)) (bp 3 zS.nd) (ay (bB (eM (dF (cu (bQ a r (ah (pv 3) ap)))) (eM (bK jE (pv 3) aE) (fS (bK rB (pv 3) (pv 2))))).pt (ay (bd cA)) bS)))
   (ay (bd cA)))),?_⟩
 have N:Bx H M [] _ H [Sl.d (me l),.d (.int n),.d (.int m),.no]:=js y C ["_law_found","_law_count","_law_most","_law_place"]
 refine aU.run N ?_
 refine fN (λG o e=>eJ (b:=false) (c:=false) (aY.eq (dL (cm (mW (e.v rfl)))) rfl) λ_=>aY.eq (bN (im (gR (K:=K) (aa (e.v rfl) ag)) (e.v rfl))) (by rw [KP,I];simp)) ?_
 refine ba (fK (i:=3) (ds:=l.map λn=>D.int (n:Nat)) (dm.of λG o e=>gO (e.vd rfl)) (λ_ g=>∃s,g=[Sl.d (me l),.d (.int n),.d (.int m),s]) ⟨_,rfl⟩ (λY sB hk j x g O p=>?_) (λg p=>?_))
 .obtain ⟨s,rfl⟩:=p
  obtain ⟨i,T,rfl⟩:=Lg.mp (KU O)
  have:=J i T
  exact dg (b:=false) (λG o e=>eJ (b:=false) (c:=false) (aY.eq (dL (cm (cb ⟨_,rfl,rfl⟩ (aa (e.v rfl) ag)))) rfl) λ_=>eJ (b:=false) (c:=false) (aY.eq (bN (jL (e.v rfl) ar)) (Lp Z6)) λ_=>aY.eq (bN (tD (e.v rfl) (e.v rfl))) (Lp Z6)) (λz=>nomatch z) (λ_=>eQ (dB ⟨_,rfl⟩))
 .obtain ⟨s,rfl⟩:=p
  dsimp only
  exact fj (λG o e=>mR (b:=true)) q
def xB:b9 ["_law_one","_law_two","_law_k"] ["_law_one","_law_two"] (be qO):=⟨rfl,rfl,rfl,Z9,rfl,Z9,Z9⟩
def Ii (F:aH K "_law_stands_ahead" "_law_stands_ahead" qO f fd)(B:Bl mg):bq P w K mg base bI 1 f fd ["_law_one","_law_two"] (bJ wV):=by
 refine F.ok xB (fg (n:=2) λU d ⟨_,_,_,e,_⟩=>by rw [e];rfl) (λY A t s H vs Q E hr h=>?_)
 obtain ⟨M,U,d,lv,rs,⟨p,r,b,rfl,hz,hA,rfl⟩,q⟩:=h
 have hu:=eD hr
 refine ⟨_,(az (dh Lj rfl (jH rfl B.range (ah (cg B (pv 0)) ap)) (bp 2 xB.nd) (ay (bB (bK (eo (by exact hu)) (aT (pv 0) (pv 2)) (aT (pv 1) (pv 2))) (ay (bd (iL jE (aT (pv 0) (pv 2)) (aT (pv 1) (pv 2))))) bS)))
   (ay (bd cA))),?_⟩
 have b0:Bx H M [] _ H [Sl.d (.lst (p.map D.int)),.d (.lst (r.map D.int)),.no]:=js lv rs ["_law_one","_law_two","_law_k"]
 refine aU.run b0 ?_
 rcases hA with ⟨rfl,rfl⟩|⟨i,x,y,u,N,hy,C,rfl⟩
 .refine ba (fK (i:=2) (dm.kb (n:=p.length) Z6 λG k e=>aa ((cY (K:=K) (aa (e.v rfl) ag)).eq Z8) ag) (λ_ a=>∃s,a=[Sl.d (.lst (p.map D.int)),.d (.lst (p.map D.int)),s]) ⟨_,rfl⟩ (λB' O hk j z a I c=>?_) (λa c=>?_))
  .obtain ⟨s,rfl⟩:=c
   obtain ⟨J,rfl⟩:=hX 0 _ j z I
   have g:c7 (p.map D.int) (0+(j:Int))=some (.int p[j]):=ig (by rw [KZ,KL J];rfl)
   exact dg (b:=false) (λG k e=>aY.eq (bN (im (bR g (e.v rfl) (e.v rfl)) (bR g (e.v rfl) (e.v rfl)))) Z8) (λz=>nomatch z) (λ_=>eQ (dB ⟨_,rfl⟩))
  .obtain ⟨s,rfl⟩:=c
   dsimp only
   exact fj (λG k e=>mR (b:=false)) q
 have ac:=(KJ.mp N).1
 refine ba (fK (i:=2) (dm.kb (n:=p.length) Z6 λG k e=>aa ((cY (K:=K) (aa (e.v rfl) ag)).eq Z8) ag) (λj a=>j<=i/\∃s,a=[Sl.d (.lst (p.map D.int)),.d (.lst (r.map D.int)),s]) ⟨Ll _,_,rfl⟩ (λB' O hk j z a I c=>?_) (λa c=>?_))
 .obtain ⟨m,s,rfl⟩:=c
  obtain ⟨_,rfl⟩:=hX 0 _ j z I
  by_cases e:j=i
  .subst e
   have g:c7 (p.map D.int) (0+(j:Int))=some (.int x):=ig (by rw [KZ,N];rfl)
   have o:c7 (r.map D.int) (0+(j:Int))=some (.int y):=ig (by rw [KZ,hy];rfl)
   exact dg (b:=true) (λG k e=>aY.eq (bN (im (bR g (e.v rfl) (e.v rfl)) (bR o (e.v rfl) (e.v rfl)))) (by simp [C])) (λ_=>fj (λG k e=>jL (bR g (e.v rfl) (e.v rfl)) (bR o (e.v rfl) (e.v rfl))) λv H' s' r'=>q v H' (O.trans s') r') (λz=>nomatch z)
  .have L:j<i:=by omega
   have T:p[j]?=some p[j]:=KL Z6
   have h2:r[j]?=some p[j]:=by
    have:=LL (λl=>l[j]?) u
    simp only [MQ L] at this
    rw [<-this];exact T
   have g:c7 (p.map D.int) (0+(j:Int))=some (.int p[j]):=ig (by rw [KZ,T];rfl)
   have o:c7 (r.map D.int) (0+(j:Int))=some (.int p[j]):=ig (by rw [KZ,h2];rfl)
   exact dg (b:=false) (λG k e=>aY.eq (bN (im (bR g (e.v rfl) (e.v rfl)) (bR o (e.v rfl) (e.v rfl)))) Z8) (λz=>nomatch z) (λ_=>eQ (dB ⟨by omega,_,rfl⟩))
 .obtain ⟨m,_⟩:=c
  rw [KP,MB] at m
  omega
def yf:b9 ["_law_found","_law_due","_law_k"] ["_law_found","_law_due"] (be sV):=⟨rfl,rfl,rfl,Z9,rfl,Z9,Z9⟩
def Ez (F:aH K "_law_same_facts" "_law_same_facts" sV f fd)(B:Bl mg)(k:a5 P w K mg base 2 "_law_is_fact" ["_law_found"] (bJ uG)):bq P w K mg base bI 3 f fd ["_law_found","_law_due"] (bJ yS):=by
 refine F.ok yf (fg (n:=2) λI d ⟨_,e,_⟩=>by rw [e];rfl) (λJ A r s H Y Q E x h=>?_)
 obtain ⟨M,I,d,L,N,⟨m,rfl,O,hz,rfl⟩,q⟩:=h
 have y:=eD x
 refine ⟨_,(az (bB (eM (dF (cu (ee B (pv 0) B.list L9))) (fS (bK (eo (by exact y)) (cg B (pv 0)) (cg B (pv 1))))).pt (ay (bd cA)) bS)
   (az (dh Lj rfl (jH rfl B.range (ah (cg B (pv 1)) ap)) (bp 2 yf.nd) (ay (bB (eM (dF (cu (bQ k x (ah (aT (pv 0) (pv 2)) ap)))) (fS (bK (eo (by exact y)) (aT (pv 0) (pv 2)) (aT (pv 1) (pv 2))))).pt (ay (bd cA)) bS)))
   (ay (bd cA)))),?_⟩
 have T:Bx H M [] _ H [Sl.d (cv m),.d (cv m),.no]:=js L N ["_law_found","_law_due","_law_k"]
 refine aU.run T ?_
 refine fN (λG t e=>eJ (b:=false) (c:=false) (aY.eq (dL (cm (qI (e.v rfl)))) rfl) λ_=>aY.eq (bN (im (cY (K:=K) (aa (e.v rfl) ag)) (cY (K:=K) (aa (e.v rfl) ag)))) Z8) ?_
 refine ba (fK (i:=2) (dm.kb (n:=m.length) Z6 λG t e=>aa ((cY (K:=K) (aa (e.v rfl) ag)).eq Z8) ag) (λ_ o=>∃s,o=[Sl.d (cv m),.d (cv m),s]) ⟨_,rfl⟩ (λB' sB hk j z o U u=>?_) (λo u=>?_))
 .obtain ⟨s,rfl⟩:=u
  obtain ⟨l,rfl⟩:=hX 0 _ j z U
  have p:=O _ (Mm l)
  have g:c7 (m.map D.tup) (0+(j:Int))=some (.tup (m[j]'l)):=ig (by rw [KZ,KL l];rfl)
  have C:=nu (a:=m[j]'l) (b:=m[j]'l) p.sc p.sc
  exact dg (b:=false) (λG t e=>eJ (b:=false) (c:=false) (aY.eq (dL (cm (cb ⟨_,rfl,p,rfl⟩ (aa (bR g (e.v rfl) (e.v rfl)) ag)))) rfl) λ_=>aY.eq (bN (jP C.1 C.2 (bR g (e.v rfl) (e.v rfl)) (bR g (e.v rfl) (e.v rfl)))) Z8) (λz=>nomatch z) (λ_=>eQ (dB ⟨_,rfl⟩))
 .obtain ⟨s,rfl⟩:=u
  dsimp only
  exact fj (λG t e=>mR (b:=true)) q
def wH:b9 ["_law_script","_law_seed","_law_pools"] ["_law_script"] (be sx):=⟨rfl,rfl,rfl,Z9,rfl,Z9,Z9⟩
def GX (F:aH K "_law_pool_by" "_law_pool_by" sx f fd)(B:Bl mg)(a:a5 P w K mg base 1 "_law_at" ["_law_script","_law_k"] (bJ rE)):bq P w K mg base bI 2 f fd ["_law_script"] (bJ wf):=by
 refine F.ok wH (fg (n:=1) λo d ⟨_,e,_⟩=>by rw [e];rfl) (λp A k s H N Q E g h=>?_)
 obtain ⟨M,o,d,r,t,⟨b,rfl,rfl⟩,q⟩:=h
 have u:=eD g
 refine ⟨_,(az (bB (bK (fG (by exact u)) (cj d8 (bQ a g (ah (pv 0) (ah aE ap))) aE) aE) (ay (bd (fC ["_law_k"] [] 1 (jH rfl B.range (ah aE ap)) (λ_ _ _ _ _=>(bp 0 (jU _))) (λ_ _ _ _ _=>jm) (λ_ _ _ _ _=>(pv 0))))) bS)
   (az (bg 1 wH.nd (cj d8 (bQ a g (ah (pv 0) (ah aE ap))) aE))
   (az (bg 2 wH.nd (cQ (ah (cQ (ah dA (ah aE (ah dA ap)))) (ah (cQ (ah dA (ah aE (ah (kO kM aE) ap)))) (ah (cQ (ah (cj FR aE aE) (ah aE (ah (kO kM aE) ap)))) ap)))))
   (ay (bd (aT (cj k9 (pv 2) (cQ (ah (cQ (ah dA (ah (cj iZ (pv 1) aE) (ah (cj Fo (kO kM aE) (pv 1)) ap)))) ap))) (cj d8 (cj fM (bQ a g (ah (pv 0) (ah aE ap))) aE) aE))))))),?_⟩
 have x:Bx H M [] _ H [Sl.d (.lst (b.map D.int)),.no,.no]:=js r t ["_law_script","_law_seed","_law_pools"]
 refine aU.run x (ba (dg (λG j e=>bN (lD (d7 Z5 (cb (lW b 0) (aa (e.v rfl) (aa ar ag))) ar) ar)) (λz=>?_) (λz=>?_)))
 .have m:ie b=tM:=by unfold ie;rw [K4 (Le z)]
  rw [m] at q
  exact fj (λG j e=>ae.eq (e.comp (λ_=>true) (λd=>d) (BX (n:=10) Z5 (aa ar ag)) (λ_ _ _ _ _=>jG) (λO y d T _ C=>C.v rfl) (cr Z8)) (by rw [LZ.mpr λ_ _=>rfl,NS];rfl)) q
 .obtain ⟨d,I,J,L⟩:=fb (l:=nv (b.getD 1 0%1000)) (n:=4) (b.getD 0 0/4) Z5 rfl
  obtain ⟨c,rfl,_⟩:=yN (Pd (b.getD 1 0) (show (1000:Int)≠0 by decide)) d J
  have m:ie b=c:=by unfold ie;rw [KS (LQ z),<-L];rfl
  rw [m] at q
  refine eQ ?_
  dsimp only
  refine ba (ei (i:=1) (d:=.int (b.getD 1 0%1000)) (λG j e=>d7 Z5 (cb (lW b 1) (aa (e.v rfl) (aa ar ag))) ar) rfl ?_)
  refine ba (ff (i:=2) (d:=.lst [.lst [.str "ashenashenashen",.int 0,.str "ashenashxnashen"],.lst [.str "ashenashenashen",.int 2,.int (-1)],.lst [.int (10^(30:Int).toNat),.int 0,.int (-1)]]) (λG j e=>eO (aa (eO (aa aF (aa ar (aa aF ag)))) (aa (eO (aa aF (aa ar (aa (oq ar) ag)))) (aa (eO (aa (Km ⟨by decide,by decide,by decide⟩ ar ar) (aa ar (aa (oq ar) ag)))) ag)))) ?_)
  exact fj (λG j e=>bR (ds:=nv (b.getD 1 0%1000)) I (kA (xs:=[.lst [.str "ashenashenashen",.int 0,.str "ashenashxnashen"],.lst [.str "ashenashenashen",.int 2,.int (-1)],.lst [.int (10^(30:Int).toNat),.int 0,.int (-1)]]) (ys:=[.lst [.str "qu",.int (b.getD 1 0%1000+4),.int (-4-b.getD 1 0%1000)]]) (by show 3+1<=1000;decide) (e.v rfl) (eO (aa (eO (aa aF (aa (jy (e.v rfl) ar) (aa (D7 (oq ar) (e.v rfl)) ag)))) ag))) (d7 Z5 (fJ ⟨by decide,by decide⟩ (cb (lW b 0) (aa (e.v rfl) (aa ar ag))) ar) ar)) q
end
end a8
namespace a8
open PySem L2 FL
section
variable {P:Program}{w:World}{K:PySem.W.Frag}{mg:Str->Option Value}{base:Heap}{f:Addr}{fd:FuncData}
def DO:b9 ["_law_atom","_law_things"] ["_law_atom","_law_things"] (be qZ):=⟨rfl,rfl,rfl,Z9,rfl,Z9,Z9⟩
def D5 (F:aH K "_law_fill_in" "_law_fill_in" qZ f fd)(B:Bl mg):bq P w K mg base bI 1 f fd ["_law_atom","_law_things"] (iO rQ):=by
 refine F.ok DO (vw (n:=2) λds d ⟨_,_,e,_⟩=>by rw [e];rfl) (λcdv A outer s H vs Q E hr h=>?_)
 obtain ⟨M,ds,d,lv,rs,⟨a,S,rfl,hne,cq,hS,hz,rfl⟩,q⟩:=h
 have hu1:=fO hr
 obtain ⟨v0,v1,rfl,r0,⟨p,rfl,hp⟩⟩:=wM rs
 have r0:al (but H M) v0 (.tup a):=r0
 refine ⟨_,(ay (bd (sk B (cj k9 (cQ (ah (aT (pv 0) aE) ap)) (fC ["_law_things","_law_part"] [1] 1 (cF (nj qu (pv 0) (mr aE) pe)) (λ_ _ _ _ _=>(bp 1 (show (["_law_things","_law_part"]:List Str).Nodup from by decide+kernel))) (λ_ _ _ _ _=>jm) (λ_ _ _ _ _=>(tL hu1 (pv 0) (pv 1) (pv 1) ⟨rfl,rfl,rfl,rfl⟩))))))),?_⟩
 have E0:aA (but H M) (L2.start ["_law_atom","_law_things"] [v0,.ref p]) [some (.tup a),none]:=fL (.dat r0 (.raw .nil)) ["_law_atom","_law_things"]
 obtain ⟨x,r,rfl⟩:∃x r,a=x::r:=by
  cases a with
  |nil=>exact absurd rfl hne
  |cons x r=>exact ⟨x,r,rfl⟩
 rw [Lr] at hz
 refine eG lv (ae.eq (rm (aa (kA (xs:=[x]) (ys:=r.map (bY S)) (by rw [KP,Mi];omega) (eO (aa (bV (d:=x) ge (aI E0 rfl) ar) ag)) (ae.eq (gf (caps:=aX [1] 1) (i:=1) (p:=λ_=>true) (f:=bY S) (tt:=ka) (te:=oK (aR 0) (aR 1) (aR 1)) (gO (ds:=r) (tf (k:=1) (l:=x::r) Z5 (Nat.succ_pos _) (aI E0 rfl))) (λG' v d _ _ _=>jG) (λG' v d sG hd _ rv=>?_) (cr Z6)) (by rw [LZ.mpr λ_ _=>rfl]))) ag)) rfl) q
 exact BU (i:=0) (j:=1) (a:=p) (by simp [aX,L2.start]) (sG _ _ hp) (cq d (KG _ hd)) hS (cE (by simp [aX]) rv)
def Ep:b9 ["_law_atom","_law_there"] ["_law_atom","_law_there"] (be sZ):=⟨rfl,rfl,rfl,Z9,rfl,Z9,Z9⟩
def HE (F:aH K "_law_true" "_law_true" sZ f fd)(B:Bl mg)(g:a5 P w K mg base 1 "_law_whole" ["_law_found"] (bJ oY)):bq P w K mg base bI 2 f fd ["_law_atom","_law_there"] (spS wL):=by
 refine F.ok Ep (Ar (n:=2) λT d ⟨_,_,e,_⟩=>by rw [e];rfl) (λU A I s H vs Q E p h=>?_)
 obtain ⟨M,T,d,Y,rs,⟨a,l,rfl,⟨J,cq,o⟩,rfl⟩,q⟩:=h
 have L:=eD p
 have N:=fO p
 refine ⟨_,(az (bB (bK (fG (by exact L)) (aT (pv 0) aE) dA) (ay (bd (iL (eo (by exact L)) (aT (pv 0) aE) (aT (pv 0) aE)))) bS)
   (az (bB (bK (fG (by exact L)) (aT (pv 0) aE) dA) (ay (bd (nY (bQ g p (ah (aT (pv 0) aE) ap)) (nY (bQ g p (ah (aT (pv 0) aE) ap)) (pF (iL jE (aT (pv 0) aE) (aT (pv 0) aE))))))) bS)
   (ay (bd (Cs (lH (by exact N) (pv 0) (pv 1))))))),?_⟩
 have b0:Bx H M [] _ H [Sl.d (.tup a),.td l]:=Cn Y rs (by simp [Sl.own]) ["_law_atom","_law_there"]
 obtain ⟨x,r,rfl⟩:∃x r,a=x::r:=by
  cases a with
  |nil=>exact absurd rfl J
  |cons x r=>exact ⟨x,r,rfl⟩
 have t:=cq x KN
 refine aU.run b0 (ba (dg (λG m e=>bN (jD (d1:=x) (d2:=.str "unlike") (eT t rfl).1 (eT t (b:=.str "unlike") rfl).2 (bV (d:=x) ge (e.v rfl) ar) aF)) (λz=>?_) (λz=>eQ ?_)))
 .have e:=Le z
  subst e
  obtain ⟨r0,y,z,O⟩:=o (by unfold aN;simp)
  obtain ⟨_,rfl⟩:=N3 O
  have k:eW (l.map (·.1)) [.str "unlike",y,z]= !decide (y=z):=rfl
  rw [k] at q
  have u:=cq y Z8
  have C:=cq z Z8
  exact fj (λG m e=>jP (eT u C).1 (eT u C).2 (bV (d:=y) rfl (e.v rfl) ar) (bV (d:=z) rfl (e.v rfl) ar)) q
 have n1:=LQ z
 dsimp only
 refine ba (dg (λG m e=>bN (jD (d1:=x) (d2:=.str "less") (eT t rfl).1 (eT t (b:=.str "less") rfl).2 (bV (d:=x) ge (e.v rfl) ar) aF)) (λz=>?_) (λz=>eQ ?_))
 .have e:=Le z
  subst e
  obtain ⟨r0,y,z,O⟩:=o (by unfold aN;simp)
  obtain ⟨_,rfl⟩:=N3 O
  have u:=cq y Z8
  have C:=cq z Z8
  cases y with
  |int i=>
   cases z with
   |int j=>
    have k:eW (l.map (·.1)) [.str "less",.int i,.int j]=decide (i<j):=rfl
    rw [k] at q
    exact fj (λG m e=>(fD (b:=true) (c:=decide (i<j)) (cb ⟨.int i,rfl,rfl⟩ (aa (bV (d:=.int i) rfl (e.v rfl) ar) ag)) λ_=>(fD (b:=true) (cb ⟨.int j,rfl,rfl⟩ (aa (bV (d:=.int j) rfl (e.v rfl) ar) ag)) λ_=>jL (bV (d:=.int i) rfl (e.v rfl) ar) (bV (d:=.int j) rfl (e.v rfl) ar)).eq (by rw [N4])).eq (by rw [N4])) q
   |str j=>
    have k:eW (l.map (·.1)) [.str "less",.int i,.str j]=false:=rfl
    rw [k] at q
    exact fj (λG m e=>fD (b:=true) (c:=false) (cb ⟨.int i,rfl,rfl⟩ (aa (bV (d:=.int i) rfl (e.v rfl) ar) ag)) λ_=>fD (b:=false) (c:=false) (cb ⟨.str j,rfl,rfl⟩ (aa (bV (d:=.str j) rfl (e.v rfl) ar) ag)) λz=>nomatch z) q
   |_=>simp [D.sc] at C
  |str i=>
   have k:eW (l.map (·.1)) [.str "less",.str i,z]=false:=by cases z<;>rfl
   rw [k] at q
   exact fj (λG m e=>fD (b:=false) (c:=false) (cb ⟨.str i,rfl,rfl⟩ (aa (bV (d:=.str i) rfl (e.v rfl) ar) ag)) λz=>nomatch z) q
  |_=>simp [D.sc] at u
 have n2:=LQ z
 have k:eW (l.map (·.1)) (x::r)=decide (x::r∈l.map (·.1)):=by
  unfold eW
  rw [KS (show¬(x::r).headD .av=.str "unlike" from n1),KS (show¬(x::r).headD .av=.str "less" from n2)]
 rw [k] at q
 dsimp only
 exact fj (λG m e=>e.zf rfl cq (e.v rfl)) q
end
end a8
namespace L2
open PySem PySem.Spec PyProof.Rows
structure WE (X:Cx)(e:Expr)(t:TE):Prop where
 h:PE X e t
structure WA (X:Cx)(es:List Expr)(t:TA):Prop where
 h:PA X es t
structure WS (X:Cx)(st:Stmt)(t:TS):Prop where
 h:PS X st t
structure tV (X:Cx)(l:List Stmt)(t:TS):Prop where
 h:gu X l t
section
variable {X:Cx}{e a b c:Expr}{es:List Expr}{te ta tb:TE}{t:TA}{st:Stmt}{ca:List Stmt}{ts us:TS}{pos:Pos}
def aS{j}:WE X (.Constant (.str x) j pos) (tC (.str x)):=⟨dA⟩
def bC{j}:WE X (.Constant (.int i) j pos) (tC (.int i)):=⟨aE⟩
def wv(i:Nat)(f:X.N[i]?=some x:=by rfl)(g:oB X.env.scope x:=by first|exact Or.inl rfl|exact Or.inr (Or.inl rfl)|exact Or.inr (Or.inr rfl))(h:(x==("__debug__":Str))=false:=by decide)(d:(x==("__classdict__":Str))=false:=by decide):WE X (.Name x pos) (aR i):=⟨Ac f g h d⟩
def aV:WA X [] bv:=⟨ap⟩
def ai (d:WE X e te)(f:WA X es t)(g:starEach (e::es) X.env=(false,eval e X.env)::starEach es X.env:=by rfl):WA X (e::es) (bb te t):=⟨ah d.h f.h g⟩
def a7 {d}(h:WA X es t):WE X (.Tuple es d pos) (m8 t):=⟨dy h.h⟩
def nV (h:WA X es t):WE X (.List es pos) (jt t):=⟨cQ h.h⟩
def dZ(f:cD X (binaryOp d) r)(g:WE X a ta)(i:WE X b tb):WE X (.BinOp a d b pos) (bz r ta tb):=⟨cj f g.h i.h⟩
def gv (ha:WE X a ta)(hb:WE X b tb)(hs:qC b:=by intro _ _;rfl):WE X (.Subscript a b pos) (bz (eF X.K) ta tb):=⟨FL.aT ha.h hb.h hs⟩
def xh (h:WS X st ts):tV X [st] ts:=⟨ay h.h⟩
def fz (h:WS X st ts)(d:tV X ca us):tV X (st::ca) (pP ts us):=⟨az h.h d.h⟩
def Dc (h:WE X e te):WS X (.Return (some e) pos) (pS te):=⟨bd h.h⟩
def iq{i:Nat}(f:X.N.Nodup)(g:X.N[i]?=some x)(j:Loc X.env.scope x)(k:WE X e te)(l:swapsWith e (some (.Name x d)) pos.line X.env=pure false:=by rfl)(m:X.fn x=true\/X.env.scope.names.lookup x=some .local:=by first|exact .inl rfl|exact .inr rfl|assumption):
  WS X (.Assign [.Name x d] e pos) (dW te (ci i)):=⟨Av f g j k.h l m⟩
end
section
variable {P:Program}{w:World}{K:PySem.W.Frag}{mg:Str->Option Value}{base:Heap}
def aH.Ck{st:Stmt}{i:Sp}(F:aH K x b st f m)(S:b9 N g (be st))(j:∀d H Q E,i d H Q E->d.length=g.length)
  (e:∀(c:Value) (A:Around) (a:List Env) (s:Shared) (H:Hp) (d:List V) (Q:VK) (E:XK),cI k (A.deeper (envOfC b (be st) s.heap.objs.size f c))->i d H Q E->
   ∃t,tV (mh bI P w K mg base N b (be st) f c A a s H E).oF (dG st) t/\t {nx:=λ_ n=>Q .av n,rt:=Q} (start N d) H):bq P w K mg base bI (k+1) f m g i:=
 F.ok S j λc A a s H d Q E o l=>let ⟨t,h,q⟩:=e c A a s H d Q E o l;⟨t,h.h,q⟩
end
end L2
namespace a8
open PySem L2 FL
section
variable {P:Program}{w:World}{K:PySem.W.Frag}{mg:Str->Option Value}{base:Heap}{f:Addr}{fd:FuncData}
abbrev xf:List Str:=["_law_seed","_law_pool","_law_first","_law_second","_law_third","_law_one","_law_two","_law_parts","_law_words","_law_left","_law_right","_law_both","_law_head"]
def jS:b9 xf ["_law_seed","_law_pool","_law_first","_law_second","_law_third"] (be sn):=⟨rfl,rfl,rfl,Z9,rfl,Z9,Z9⟩
def FK (F:aH K "_law_menu_by" "_law_menu_by" sn f fd)(B:Bl mg):bq P w K mg base bI 1 f fd ["_law_seed","_law_pool","_law_first","_law_second","_law_third"] (nz xg Cb):=by
 refine F.Ck jS (BG (n:=5) λds ⟨_,_,_,_,_,e,_⟩=>by rw [e];rfl) (λb6 A am s H vs Q E hr h=>?_)
 obtain ⟨M,ds,lv,rs,⟨p,m,a,b,c,rfl,L⟩,q⟩:=h
 refine ⟨_,(fz (iq (i:=5) jS.nd rfl (Or.inl rfl) (gv (wv 1) (dZ d8 (wv 0) ⟨cg B (pv 1)⟩)))
   (fz (iq (i:=6) jS.nd rfl (Or.inl rfl) (gv (wv 1) (dZ d8 (dZ iZ (dZ fM (wv 0) ⟨cg B (pv 1)⟩) bC) ⟨cg B (pv 1)⟩)))
   (fz (iq (i:=7) jS.nd rfl (Or.inl rfl) (nV (ai aS (ai aS (ai aS (ai (wv 5) aV))))))
   (fz (iq (i:=8) jS.nd rfl (Or.inl rfl) (nV (ai aS (ai aS (ai aS aV)))))
   (fz (iq (i:=9) jS.nd rfl (Or.inl rfl) (a7 (ai (gv (wv 8) (dZ d8 (wv 2) bC)) (ai (gv (wv 7) (dZ d8 (dZ fM (wv 2) bC) bC)) (ai (gv (wv 7) (dZ d8 (dZ fM (wv 2) bC) bC)) aV)))))
   (fz (iq (i:=10) jS.nd rfl (Or.inl rfl) (a7 (ai (gv (wv 8) (dZ d8 (wv 3) bC)) (ai (gv (wv 7) (dZ d8 (dZ fM (wv 3) bC) bC)) (ai (gv (wv 7) (dZ d8 (dZ fM (wv 3) bC) bC)) aV)))))
   (fz (iq (i:=11) jS.nd rfl (Or.inl rfl) (dZ Aw ⟨nj qu (pv 9) (mr aE) pe⟩ ⟨nj qu (pv 10) (mr aE) pe⟩))
   (fz (iq (i:=12) jS.nd rfl (Or.inl rfl) (a7 (ai (gv (wv 8) (dZ d8 (wv 4) bC)) (ai (gv (wv 11) (dZ d8 (dZ fM (wv 4) bC) bC)) (ai (gv (wv 11) (dZ d8 (dZ fM (wv 4) bC) bC)) aV)))))
   (xh (Dc (nV (ai (a7 (ai (a7 (ai aS (ai aS (ai aS aV)))) (ai (a7 (ai (a7 (ai aS (ai aS (ai aS aV)))) aV)) aV))) (ai (a7 (ai (a7 (ai aS (ai aS (ai aS aV)))) (ai (a7 (ai (a7 (ai aS (ai aS (ai aS aV)))) (ai (a7 (ai aS (ai aS (ai aS aV)))) aV))) aV))) (ai (a7 (ai (a7 (ai aS (ai aS aV))) (ai (a7 (ai (a7 (ai aS (ai aS aV))) (ai (a7 (ai aS (ai aS (ai aS aV)))) aV))) aV))) (ai (a7 (ai (a7 (ai aS (ai aS (ai aS aV)))) (ai (a7 (ai (a7 (ai aS (ai aS (ai aS aV)))) aV)) aV))) (ai (a7 (ai (a7 (ai aS (ai aS (ai aS aV)))) (ai (a7 (ai (a7 (ai aS (ai aS (ai aS aV)))) (ai (a7 (ai aS (ai aS (ai aS aV)))) (ai (a7 (ai aS (ai aS (ai aS aV)))) aV)))) aV))) (ai (a7 (ai (a7 (ai aS aV)) (ai (a7 (ai (a7 (ai aS (ai (wv 5) aV))) (ai (a7 (ai aS (ai aS (ai aS aV)))) aV))) aV))) (ai (a7 (ai (a7 (ai aS (ai aS (ai aS aV)))) (ai (a7 (ai (a7 (ai aS (ai aS (ai aS aV)))) (ai (a7 (ai aS (ai aS (ai aS aV)))) aV))) aV))) (ai (a7 (ai (a7 (ai aS (ai (wv 6) aV))) (ai (a7 (ai (a7 (ai aS aV)) aV)) aV))) (ai (a7 (ai (a7 (ai aS (ai aS (ai aS aV)))) (ai (a7 (ai (a7 (ai aS (ai aS (ai aS aV)))) (ai (a7 (ai aS (ai aS (ai aS aV)))) (ai (a7 (ai aS (ai aS (ai aS aV)))) aV)))) aV))) (ai (a7 (ai (a7 (ai aS (ai aS (ai aS aV)))) (ai (a7 (ai (a7 (ai aS (ai aS (ai aS aV)))) (ai (a7 (ai aS (ai aS (ai aS aV)))) aV))) aV))) (ai (a7 (ai (a7 (ai aS (ai aS (ai (wv 5) aV)))) (ai (a7 (ai (a7 (ai aS (ai aS aV))) (ai (a7 (ai aS (ai (wv 6) (ai bC aV)))) aV))) aV))) (ai (a7 (ai (a7 (ai aS (ai (wv 5) aV))) (ai (a7 (ai (a7 (ai aS (ai bC (ai bC aV)))) aV)) aV))) (ai (a7 (ai (wv 12) (ai (a7 (ai (wv 9) (ai (wv 10) aV))) aV))) (ai (a7 (ai (wv 12) (ai (a7 (ai (wv 9) (ai (a7 (ai aS (ai (gv (wv 11) bC) (ai (gv (wv 11) bC) aV)))) (ai (wv 10) aV)))) aV))) aV))))))))))))))))))))))))),?_⟩
 have b0:Bx H M [] _ H [Sl.d (.int p),.d (.lst m),.d (.int a),.d (.int b),.d (.int c),.no,.no,.no,.no,.no,.no,.no,.no]:=js lv rs xf
 obtain ⟨n,N,h0,b7⟩:∃n:Nat,m.length=n/\0<n/\n<=10:=⟨_,rfl,by rcases L.len with z|z<;>omega,by rcases L.len with z|z<;>omega⟩
 obtain ⟨g,o1,o2,_⟩:=fb (l:=m) (n:=n) p h0 N
 obtain ⟨J,t1,t2,_⟩:=fb (l:=m) (n:=n) (p/(n:Int)+1) h0 N
 refine aU.run b0 (ba (ei (i:=5) (d:=g) (λG I e=>bR o1 (e.v rfl) (d7 Z6 (e.v rfl) ((cY (K:=K) (aa (e.v rfl) ag)).eq (by rw [N])))) (kR (L.gp g o2).1) ?_))
 dsimp only
 refine ba (ei (i:=6) (d:=J) (λG I e=>bR t1 (e.v rfl) (d7 Z6 (jy (fJ ⟨by omega,by omega⟩ (e.v rfl) ((cY (K:=K) (aa (e.v rfl) ag)).eq (by rw [N]))) ar) ((cY (K:=K) (aa (e.v rfl) ag)).eq (by rw [N])))) (kR (L.gp J t2).1) ?_)
 dsimp only
 refine ba (ff (i:=7) (d:=.lst [.str "X",.str "Xy",.str "Z",g]) (λG I e=>eO (aa aF (aa aF (aa aF (aa (e.vd rfl) ag))))) ?_)
 dsimp only
 refine ba (ff (i:=8) (d:=.lst (gQ.map D.str)) (λG I e=>eO (aa aF (aa aF (aa aF ag))) Z5) ?_)
 have O:∀x∈[D.str "X",.str "Xy",.str "Z",g],x∈m\/x∈cJ:=λx j=>by
  simp only [KY,Lu,LO] at j
  rcases j with rfl|rfl|rfl|rfl
  .exact .inr (by simp [cJ])
  .exact .inr (by simp [cJ])
  .exact .inr (by simp [cJ])
  .exact .inl o2
 have o:∀x∈[D.str "X",.str "Xy",.str "Z",g],x.sc=true:=λx j=>(O x j).elim (λz=>(L.gp x z).1) (λz=>(qH x z).1)
 obtain ⟨_,an,ao,_⟩:=fb (l:=gQ.map D.str) (n:=3) a Z5 rfl
 obtain ⟨wl,as,rfl⟩:=Lg.mp ao
 obtain ⟨u,a0,T,_⟩:=fb (l:=[D.str "X",.str "Xy",.str "Z",g]) (n:=4) (a/3) Z5 rfl
 obtain ⟨r,a1,U,_⟩:=fb (l:=[D.str "X",.str "Xy",.str "Z",g]) (n:=4) (a/12) Z5 rfl
 dsimp only
 refine ba (ei (i:=9) (d:=.tup [.str wl,u,r]) (λG I e=>aM (aa (bR (ds:=gQ.map D.str) an (e.v rfl) (d7 Z5 (e.v rfl) ar)) (aa (bR a0 (e.v rfl) (d7 Z5 (fJ ⟨by decide,by decide⟩ (e.v rfl) ar) ar)) (aa (bR a1 (e.v rfl) (d7 Z5 (fJ ⟨by decide,by decide⟩ (e.v rfl) ar) ar)) ag)))) (gN λx j=>?_) ?_)
 .simp only [KY,Lu,LO] at j
  rcases j with rfl|rfl|rfl
  .rfl
  .exact o _ T
  .exact o _ U
 obtain ⟨_,a2,a3,_⟩:=fb (l:=gQ.map D.str) (n:=3) b Z5 rfl
 obtain ⟨wr,a4,rfl⟩:=Lg.mp a3
 obtain ⟨t,bc,Y,_⟩:=fb (l:=[D.str "X",.str "Xy",.str "Z",g]) (n:=4) (b/3) Z5 rfl
 obtain ⟨y,bi,ac,_⟩:=fb (l:=[D.str "X",.str "Xy",.str "Z",g]) (n:=4) (b/12) Z5 rfl
 dsimp only
 refine ba (ei (i:=10) (d:=.tup [.str wr,t,y]) (λG I e=>aM (aa (bR (ds:=gQ.map D.str) a2 (e.v rfl) (d7 Z5 (e.v rfl) ar)) (aa (bR bc (e.v rfl) (d7 Z5 (fJ ⟨by decide,by decide⟩ (e.v rfl) ar) ar)) (aa (bR bi (e.v rfl) (d7 Z5 (fJ ⟨by decide,by decide⟩ (e.v rfl) ar) ar)) ag)))) (gN λx j=>?_) ?_)
 .simp only [KY,Lu,LO] at j
  rcases j with rfl|rfl|rfl
  .rfl
  .exact o _ Y
  .exact o _ ac
 have C:∀x∈[u,r,t,y],x∈[D.str "X",.str "Xy",.str "Z",g]:=λx j=>by
  simp only [KY,Lu,LO] at j
  rcases j with rfl|rfl|rfl|rfl
  .exact T
  .exact U
  .exact Y
  .exact ac
 dsimp only
 refine ba (ei (i:=11) (d:=.tup [u,r,t,y]) (λG I e=>zO (xs:=[u,r]) (ys:=[t,y]) Z8 (tf (k:=1) (l:=[.str wl,u,r]) Z5 Z8 (e.v rfl)) (tf (k:=1) (l:=[.str wr,t,y]) Z5 Z8 (e.v rfl))) (gN λx j=>o x (C x j)) ?_)
 obtain ⟨_,bk,bl,_⟩:=fb (l:=gQ.map D.str) (n:=3) c Z5 rfl
 obtain ⟨wh,bs,rfl⟩:=Lg.mp bl
 obtain ⟨h1,bt,af,_⟩:=fb (l:=[u,r,t,y]) (n:=4) (c/3) Z5 rfl
 obtain ⟨h2,bx,aj,_⟩:=fb (l:=[u,r,t,y]) (n:=4) (c/12) Z5 rfl
 dsimp only
 refine ba (ei (i:=12) (d:=.tup [.str wh,h1,h2]) (λG I e=>aM (aa (bR (ds:=gQ.map D.str) bk (e.v rfl) (d7 Z5 (e.v rfl) ar)) (aa (bV bt (e.v rfl) (d7 Z5 (fJ ⟨by decide,by decide⟩ (e.v rfl) ar) ar)) (aa (bV bx (e.v rfl) (d7 Z5 (fJ ⟨by decide,by decide⟩ (e.v rfl) ar) ar)) ag)))) (gN λx j=>?_) ?_)
 .simp only [KY,Lu,LO] at j
  rcases j with rfl|rfl|rfl
  .rfl
  .exact o _ (C _ af)
  .exact o _ (C _ aj)
 dsimp only
 refine fj (d:=.lst ((vJ g J [.str wl,u,r] [.str wr,t,y] [.str wh,h1,h2] r t).map bf)) (λG I e=>ae.eq (eO (aa (aM (aa (aM (aa aF (aa aF (aa aF ag)))) (aa (aM (aa (aM (aa aF (aa aF (aa aF ag)))) ag)) ag))) (aa (aM (aa (aM (aa aF (aa aF (aa aF ag)))) (aa (aM (aa (aM (aa aF (aa aF (aa aF ag)))) (aa (aM (aa aF (aa aF (aa aF ag)))) ag))) ag))) (aa (aM (aa (aM (aa aF (aa aF ag))) (aa (aM (aa (aM (aa aF (aa aF ag))) (aa (aM (aa aF (aa aF (aa aF ag)))) ag))) ag))) (aa (aM (aa (aM (aa aF (aa aF (aa aF ag)))) (aa (aM (aa (aM (aa aF (aa aF (aa aF ag)))) ag)) ag))) (aa (aM (aa (aM (aa aF (aa aF (aa aF ag)))) (aa (aM (aa (aM (aa aF (aa aF (aa aF ag)))) (aa (aM (aa aF (aa aF (aa aF ag)))) (aa (aM (aa aF (aa aF (aa aF ag)))) ag)))) ag))) (aa (aM (aa (aM (aa aF ag)) (aa (aM (aa (aM (aa aF (aa (e.v rfl) ag))) (aa (aM (aa aF (aa aF (aa aF ag)))) ag))) ag))) (aa (aM (aa (aM (aa aF (aa aF (aa aF ag)))) (aa (aM (aa (aM (aa aF (aa aF (aa aF ag)))) (aa (aM (aa aF (aa aF (aa aF ag)))) ag))) ag))) (aa (aM (aa (aM (aa aF (aa (e.v rfl) ag))) (aa (aM (aa (aM (aa aF ag)) ag)) ag))) (aa (aM (aa (aM (aa aF (aa aF (aa aF ag)))) (aa (aM (aa (aM (aa aF (aa aF (aa aF ag)))) (aa (aM (aa aF (aa aF (aa aF ag)))) (aa (aM (aa aF (aa aF (aa aF ag)))) ag)))) ag))) (aa (aM (aa (aM (aa aF (aa aF (aa aF ag)))) (aa (aM (aa (aM (aa aF (aa aF (aa aF ag)))) (aa (aM (aa aF (aa aF (aa aF ag)))) ag))) ag))) (aa (aM (aa (aM (aa aF (aa aF (aa (e.v rfl) ag)))) (aa (aM (aa (aM (aa aF (aa aF ag))) (aa (aM (aa aF (aa (e.v rfl) (aa ar ag)))) ag))) ag))) (aa (aM (aa (aM (aa aF (aa (e.v rfl) ag))) (aa (aM (aa (aM (aa aF (aa ar (aa ar ag)))) ag)) ag))) (aa (aM (aa (e.v rfl) (aa (aM (aa (e.v rfl) (aa (e.v rfl) ag))) ag))) (aa (aM (aa (e.v rfl) (aa (aM (aa (e.v rfl) (aa (aM (aa aF (aa (bV (ds:=[u,r,t,y]) (d:=r) rfl (e.v rfl) ar) (aa (bV (ds:=[u,r,t,y]) (d:=t) rfl (e.v rfl) ar) ag)))) (aa (e.v rfl) ag)))) ag))) ag))))))))))))))) rfl) (λv H' s' r'=>q _ v H' ⟨p,m,a,b,c,_,rfl,rfl,rfl,IG L o2 t2 as a4 bs (λx j=>O x (C x j)) (λx j=>?_),rfl⟩ s' r')
 simp only [KY,Lu,LO] at j
 rcases j with rfl|rfl
 .exact af
 .exact aj
end
end a8
namespace a8
open PySem L2 FL
section
variable {P:Program}{w:World}{K:PySem.W.Frag}{mg:Str->Option Value}{base:Heap}{f:Addr}{fd:FuncData}
def kN:List (List Nat):=[[0,1,2],[0,6,5],[1,0,4],[3,8,9],[9,0,6],[3,9,2],[0,5,7],[10,3,2],[11,2,10],[12,0,3],[13,1,0],[12,13,2]]
def ja (l:List Nat):D:=.tup (l.map λn=>D.int (n:Nat))
def GK:∀l∈kN,l.length=3/\∀x∈l,x<14:=by decide
abbrev Bv:List Str:=["_law_script","_law_pool","_law_seed","_law_more","_law_menu","_law_threes","_law_three","_law_cells","_law_rules","_law_k","_law_way","_law_one","_law_two","_law_rule"]
def fh:b9 Bv ["_law_script"] (be sF):=⟨rfl,rfl,rfl,Z9,rfl,Z9,Z9⟩
def C6 (F:aH K "_law_rules_by" "_law_rules_by" sF f fd)(B:Bl mg)(o:a5 P w K mg base 1 "_law_at" ["_law_script","_law_k"] (bJ rE))(t:a5 P w K mg base 2 "_law_pool_by" ["_law_script"] (bJ wf))(u:a5 P w K mg base 1 "_law_menu_by" ["_law_seed","_law_pool","_law_first","_law_second","_law_third"] (nz xg Cb)):bq P w K mg base bI 3 f fd ["_law_script"] (nz BV Ba):=by
 refine F.Ck fh (BG (n:=1) λds ⟨_,e,_⟩=>by rw [e];rfl) (λc3 A bk s H vs Q E T h=>?_)
 obtain ⟨M,ds,lv,J,⟨b,rfl,c4⟩,q⟩:=h
 have hu:=eD T
 refine ⟨_,(fz ⟨bg 1 fh.nd (bQ t T (ah (pv 0) ap))⟩
   (fz ⟨bg 2 fh.nd (bQ o T (ah (pv 0) (ah aE ap)))⟩
   (fz ⟨bg 3 fh.nd (cQ (ah (bQ o T (ah (pv 0) (ah aE ap))) (ah (bQ o T (ah (pv 0) (ah aE ap))) (ah (bQ o T (ah (pv 0) (ah aE ap))) ap))))⟩
   (fz ⟨bg 4 fh.nd (bQ u T (ah (cj fM (pv 2) aE) (ah (pv 1) (ah (aT (pv 3) aE) (ah (aT (pv 3) aE) (ah (aT (pv 3) aE) ap))))))⟩
   (fz (iq (i:=5) fh.nd rfl (Or.inl rfl) (nV (ai (a7 (ai bC (ai bC (ai bC aV)))) (ai (a7 (ai bC (ai bC (ai bC aV)))) (ai (a7 (ai bC (ai bC (ai bC aV)))) (ai (a7 (ai bC (ai bC (ai bC aV)))) (ai (a7 (ai bC (ai bC (ai bC aV)))) (ai (a7 (ai bC (ai bC (ai bC aV)))) aV))))))))
   (fz (iq (i:=5) fh.nd rfl (Or.inl rfl) (dZ k9 (wv 5) (nV (ai (a7 (ai bC (ai bC (ai bC aV)))) (ai (a7 (ai bC (ai bC (ai bC aV)))) (ai (a7 (ai bC (ai bC (ai bC aV)))) aV))))))
   (fz (iq (i:=6) fh.nd rfl (Or.inl rfl) (gv (dZ k9 (wv 5) (nV (ai (a7 (ai bC (ai bC (ai bC aV)))) (ai (a7 (ai bC (ai bC (ai bC aV)))) (ai (a7 (ai bC (ai bC (ai bC aV)))) aV))))) (dZ d8 (wv 2) bC)))
   (fz ⟨bg 7 fh.nd (nj zk (pv 0) (mr aE) (mr aE))⟩
   (fz ⟨bg 8 fh.nd (cQ ap)⟩
   (fz ⟨dh Lj rfl (jH rfl B.range (ah (cg B (pv 7)) ap)) (bp 9 fh.nd) (az (bg 10 fh.nd (cj d8 (aT (pv 7) (pv 9)) aE))
   (az (bg 11 fh.nd (aT (pv 1) (cj d8 (cj iZ (cj fM (aT (pv 7) (pv 9)) aE) (pv 9)) (cg B (pv 1)))))
   (az (bg 12 fh.nd (aT (pv 1) (cj d8 (cj iZ (cj iZ (cj fM (cj fM (aT (pv 7) (pv 9)) aE) (cg B (pv 1))) (pv 9)) aE) (cg B (pv 1)))))
   (az (bg 13 fh.nd (dy (ah (dy (ah dA (ah (pv 11) (ah (pv 12) ap)))) (ah (dy ap) ap))))
   (az (bB (bK (fG (by exact hu)) (pv 10) aE) (ay (bg 13 fh.nd (dy (ah (dy (ah dA (ah (pv 11) ap))) (ah (dy ap) ap))))) (ay (bB (iI (bK oR (cg B (pv 1)) aE) (iM (bK oR (pv 10) aE))).pt (ay (bg 13 fh.nd (aT (pv 4) aE))) (ay (bB (bK oR (pv 10) aE) (ay (bg 13 fh.nd (aT (pv 4) (aT (pv 6) (cj d8 (cj iZ (cj fM (aT (pv 7) (pv 9)) aE) (pv 9)) aE))))) (ay (bB (iI (bK (fG (by exact hu)) (pv 10) aE) (iM (bK (fG (by exact hu)) (cg B (pv 1)) aE))).pt (ay (bg 13 fh.nd (dy (ah (dy (ah dA (ah (pv 11) (ah (pv 12) ap)))) (ah (dy ap) ap))))) bS)))))))
   (ay (bB (bK (vp hu) (pv 13) (pv 8)) (ay (jx (pv 8) (pv 13))) bS)))))))⟩
   (xh ⟨bd (pv 8)⟩))))))))))),?_⟩
 have b0:Bx H M [] _ H [Sl.d (.lst (b.map D.int)),.no,.no,.no,.no,.no,.no,.no,.no,.no,.no,.no,.no,.no]:=js lv J Bv
 have N:=By b
 generalize a1:ie b=a at N
 obtain ⟨n,hn,h0,c5⟩:∃n:Nat,a.length=n/\0<n/\n<=10:=⟨_,rfl,by rcases N.len with z|z<;>omega,by rcases N.len with z|z<;>omega⟩
 have U:(0:Int)<(n:Int):=by omega
 have bl:(n:Int)<1073741824:=by omega
 refine aU.run b0 (ba (ff (i:=1) (d:=.lst a) (λG C e=>cb ⟨b,rfl,by rw [a1]⟩ (aa (e.vd rfl) ag)) ?_))
 dsimp only
 refine ba (ei (i:=2) (d:=.int (b.getD 1 0)) (λG C e=>cb (lW b 1) (aa (e.v rfl) (aa ar ag))) rfl ?_)
 dsimp only
 refine ba (ff (i:=3) (d:=.lst [.int (b.getD 2 0),.int (b.getD 3 0),.int (b.getD 4 0)]) (λG C e=>eO (aa (cb (lW b 2) (aa (e.vd rfl) (aa ar ag))) (aa (cb (lW b 3) (aa (e.vd rfl) (aa ar ag))) (aa (cb (lW b 4) (aa (e.vd rfl) (aa ar ag))) ag)))) ?_)
 dsimp only
 refine ba (BQ (i:=4) (ds:=[.int (b.getD 1 0/12),.lst a,.int (b.getD 2 0),.int (b.getD 3 0),.int (b.getD 4 0)]) (λG C e=>aa (fJ ⟨by decide,by decide⟩ (e.vd rfl) ar) (aa (e.vd rfl) (aa (bR (ds:=[.int (b.getD 2 0),.int (b.getD 3 0),.int (b.getD 4 0)]) (d:=.int (b.getD 2 0)) rfl (e.vd rfl) ar) (aa (bR (ds:=[.int (b.getD 2 0),.int (b.getD 3 0),.int (b.getD 4 0)]) (d:=.int (b.getD 3 0)) rfl (e.vd rfl) ar) (aa (bR (ds:=[.int (b.getD 2 0),.int (b.getD 3 0),.int (b.getD 4 0)]) (d:=.int (b.getD 4 0)) rfl (e.vd rfl) ar) ag))))) ⟨_,_,_,_,_,rfl,N⟩ λd hd=>?_)
 obtain ⟨_,bs,_,_,_,L,he,rfl,bt,af,aj⟩:=hd
 simp only [List.cons.injEq,D.lst.injEq] at he
 obtain ⟨_,rfl,_⟩:=he
 dsimp only
 refine ba (ff (i:=5) (d:=.lst ((kN.take 6).map ja)) (λG C e=>ae.eq (eO (aa (aM (aa ar (aa ar (aa ar ag)))) (aa (aM (aa ar (aa ar (aa ar ag)))) (aa (aM (aa ar (aa ar (aa ar ag)))) (aa (aM (aa ar (aa ar (aa ar ag)))) (aa (aM (aa ar (aa ar (aa ar ag)))) (aa (aM (aa ar (aa ar (aa ar ag)))) ag))))))) rfl) ?_)
 dsimp only
 refine ba (ff (i:=5) (d:=.lst ((kN.take 9).map ja)) (λG C e=>ae.eq (kA (xs:=(kN.take 6).map ja) Z5 (e.vd rfl) (eO (aa (aM (aa ar (aa ar (aa ar ag)))) (aa (aM (aa ar (aa ar (aa ar ag)))) (aa (aM (aa ar (aa ar (aa ar ag)))) ag))))) rfl) ?_)
 obtain ⟨dt,bx,b6,_⟩:=fb (l:=kN.map ja) (n:=12) (b.getD 1 0) Z5 rfl
 obtain ⟨tl,b7,rfl⟩:=Lg.mp b6
 obtain ⟨b8,a2⟩:=GK tl b7
 dsimp only
 refine ba (ei (i:=6) (d:=ja tl) (λG C e=>bR (ds:=kN.map ja) bx (ae.eq (kA (xs:=(kN.take 9).map ja) Z5 (e.v rfl) (eO (aa (aM (aa ar (aa ar (aa ar ag)))) (aa (aM (aa ar (aa ar (aa ar ag)))) (aa (aM (aa ar (aa ar (aa ar ag)))) ag))))) rfl) (d7 Z5 (e.v rfl) ar)) (gN λx hx=>by obtain ⟨_,_,rfl⟩:=Lg.mp hx;rfl) ?_)
 obtain ⟨cs,cd,da⟩:∃cs:List Int,((b.map D.int).drop 2).take 30=cs.map D.int/\cs.length<=30:=⟨(b.drop 2).take 30,by rw [OT,List.map_drop],by rw [Lx];exact Nat.min_le_left _ _⟩
 dsimp only
 refine ba (ff (i:=7) (d:=.lst (cs.map D.int)) (λG C e=>ae.eq (Kw (k:=2) (n:=30) (m:=32) rfl (e.vd rfl)) (by rw [cd])) ?_)
 dsimp only
 refine ba (ud (i:=8) ?_)
 generalize Sl.d (D.lst (b.map D.int))=s0
 generalize Sl.d (D.int (b.getD 1 0))=s2
 generalize Sl.d (D.lst [.int (b.getD 2 0),.int (b.getD 3 0),.int (b.getD 4 0)])=s3
 generalize Sl.d (D.lst ((kN.take 9).map ja))=s5
 dsimp only
 refine ba (fK (i:=9) (dm.kb (n:=cs.length) Z6 λG C e=>aa ((cY (K:=K) (aa (e.v rfl) ag)).eq (by rw [KP])) ag) (λj O=>∃J s9 am an ao as,oE a J/\J.length<=j/\O=[s0,.d (.lst a),s2,s3,.d (.lst (L.map bf)),s5,.d (ja tl),.d (.lst (cs.map D.int)),.l (J.map bf),s9,am,an,ao,as]) ⟨[],_,_,_,_,_,⟨(λr T=>nomatch T),(λ_ r T=>nomatch T),NI⟩,KR _,rfl⟩ (λB' sB hk j x O hx hp=>?_) (λO hp=>?_))
 .obtain ⟨J,s9,am,an,ao,as,Y,ac,rfl⟩:=hp
  obtain ⟨hj,rfl⟩:=hX 0 _ j x hx
  have hc:c7 (cs.map D.int) (0+(j:Int))=some (.int (cs[j]'hj)):=ig (by rw [KZ,KL hj];rfl)
  generalize cs[j]'hj=c at hc
  refine ba (ei (i:=10) (d:=.int (c%8)) (λG C e=>d7 Z5 (bR hc (e.v rfl) (e.v rfl)) ar) rfl ?_)
  obtain ⟨p,o1,o2,_⟩:=fb (l:=a) (n:=n) (c/8+(0+(j:Int))) h0 hn
  refine ba (ei (i:=11) (d:=p) (λG C e=>bR o1 (e.v rfl) (d7 U (jy (fJ ⟨by decide,by decide⟩ (bR hc (e.v rfl) (e.v rfl)) ar) (e.v rfl)) ((cY (K:=K) (aa (e.v rfl) ag)).eq (by rw [hn])))) (kR (N.gp p o2).1) ?_)
  obtain ⟨I,t1,t2,_⟩:=fb (l:=a) (n:=n) (c/8/(n:Int)+(0+(j:Int))+1) h0 hn
  refine ba (ei (i:=12) (d:=I) (λG C e=>bR t1 (e.v rfl) (d7 U (jy (jy (fJ ⟨U,bl⟩ (fJ ⟨by decide,by decide⟩ (bR hc (e.v rfl) (e.v rfl)) ar) ((cY (K:=K) (aa (e.v rfl) ag)).eq (by rw [hn]))) (e.v rfl)) ar) ((cY (K:=K) (aa (e.v rfl) ag)).eq (by rw [hn])))) (kR (N.gp I t2).1) ?_)
  have p2:∀x∈[p,I],x∈a:=λx hx=>by
   simp only [KY,Lu,LO] at hx
   rcases hx with rfl|rfl
   .exact o2
   .exact t2
  have kr:dr a (jW "road" [p,I]):=vG N (by simp [dj]) p2
  have kk:dr a (jW "kin" [p,I]):=vG N (by simp [dj]) p2
  have km:dr a (jW "mark" [p]):=vG N (by simp [dj]) λx hx=>by rw [Li.mp hx];exact o2
  have nr:∀{r:cz},dr a r->(bf r).fB=true:=λh=>Cu (h.sc N).1 (h.sc N).2
  refine ba (ei (i:=13) (d:=bf (jW "road" [p,I])) (λG C e=>ae.eq (aM (aa (aM (aa aF (aa (e.v rfl) (aa (e.v rfl) ag)))) (aa (aM ag) ag))) rfl) (nr kr) ?_)
  refine ba (Go (λO=>∃r,dr a r/\(a.length=10->vx a r)/\O=[s0,.d (.lst a),s2,s3,.d (.lst (L.map bf)),s5,.d (ja tl),.d (.lst (cs.map D.int)),.l (J.map bf),.d (.int (0+(j:Int))),.d (.int (c%8)),.d p,.d I,.d (bf r)]) (λG C e=>bN (lD (e.v rfl) ar)) (λk z=>?_) (λk z=>?_) (λO hp=>?_))
  .exact ei (i:=13) (d:=bf (jW "mark" [p])) (λG C e=>ae.eq (aM (aa (aM (aa aF (aa (e.v rfl) ag))) (aa (aM ag) ag))) rfl) (nr km) (k _ ⟨_,km,λ_=>.inr (.inr ⟨p,o2,rfl⟩),rfl⟩)
  .refine dg (λG C e=>jY (bN (p7 ((cY (K:=K) (aa (e.v rfl) ag)).eq (by rw [hn])) ar)) λ_=>bN (p7 (e.v rfl) ar)) (λz1=>?_) (λz1=>?_)
   .exact ei (i:=13) (d:=bf um) (λG C e=>bR (i:=((2:Nat):Int)) (jF (by rw [KZ,aj];rfl)) (e.v rfl) ar) (nr (af _ (KU aj))) (k _ ⟨_,af _ (KU aj),λ_=>.inl rfl,rfl⟩)
   .refine dg (λG C e=>bN (p7 (e.v rfl) ar)) (λz2=>?_) (λz2=>?_)
    .have ch:¬a.length=10:=λw=>by
      rw [z2,OP] at z1
      have:=LQ z1
      omega
     obtain ⟨di,cl,co,_⟩:=fb (l:=tl.map λn=>D.int (n:Nat)) (n:=3) (c/8+(0+(j:Int))) Z5 (by rw [KP];exact b8)
     obtain ⟨i,ct,rfl⟩:=Lg.mp co
     have hi:=a2 i ct
     have a3:L[i]?=some (L[i]'Z6):=KL _
     have a4:=af _ (KU a3)
     exact ei (i:=13) (d:=bf (L[i]'Z6)) (λG C e=>bR (jF (by rw [KZ,a3];rfl)) (e.v rfl) (bV cl (e.v rfl) (d7 Z5 (jy (fJ ⟨by decide,by decide⟩ (bR hc (e.v rfl) (e.v rfl)) ar) (e.v rfl)) ar))) (nr a4) (k _ ⟨_,a4,λw=>absurd w ch,rfl⟩)
    .refine dg (λG C e=>jY (bN (lD (e.v rfl) ar)) λ_=>bN (lD ((cY (K:=K) (aa (e.v rfl) ag)).eq (by rw [hn])) ar)) (λz3=>?_) (λz3=>eQ (k _ ⟨_,kr,λ_=>.inr (.inl ⟨p,o2,I,t2,rfl⟩),rfl⟩))
     have c0:¬a.length=10:=λw=>by
      have:=Le (Pw.mp z3).2
      omega
     exact ei (i:=13) (d:=bf (jW "kin" [p,I])) (λG C e=>ae.eq (aM (aa (aM (aa aF (aa (e.v rfl) (aa (e.v rfl) ag)))) (aa (aM ag) ag))) rfl) (nr kk) (k _ ⟨_,kk,λw=>absurd w c0,rfl⟩)
  obtain ⟨r,a0,c1,rfl⟩:=hp
  have bc:=a0.sc N
  dsimp only
  refine dg (λG C e=>bN (uW (d:=bf r) (es:=J.map bf) (λy hy=>?_) (e.v rfl) (e.v rfl))) (λz=>?_) (λz=>eQ (dB ⟨J,_,_,_,_,_,Y,Nat.le_succ_of_le ac,rfl⟩))
  .obtain ⟨g,hg,rfl⟩:=Lg.mp hy
   have bi:=(Y.ok g hg).sc N
   exact C2 bi.1 bi.2 bc.1 bc.2
  .have c2:r∉J:=λw=>by
    have:decide (bf r∈J.map bf)=true:=Ln (Lg.mpr ⟨r,w,rfl⟩)
    rw [this] at z;cases z
   refine tY (j:=8) rfl (λG C e=>e.v rfl) (nr a0) (by rw [KP];exact cr Z6) ?_
   rw [show J.map bf++[bf r]=(J++[r]).map bf by rw [Lq];rfl]
   exact dB ⟨J++[r],_,_,_,_,_,Y.snoc a0 c1 c2,by rw [Lh];exact Nat.succ_le_succ ac,rfl⟩
 obtain ⟨J,s9,am,an,ao,as,Y,ac,rfl⟩:=hp
 rw [KP,MB] at ac
 dsimp only
 exact fj (d:=.lst (J.map bf)) (λG C e=>e.v rfl) (λv H' s' r'=>q _ v H' ⟨b,J,rfl,rfl,by rw [a1];exact Y,by omega⟩ s' r')
end
end a8
namespace a8
open PySem L2 FL
section
variable {P:Program}{w:World}{K:PySem.W.Frag}{mg:Str->Option Value}{base:Heap}{f:Addr}{fd:FuncData}
def kI:b9 ["_law_blanks","_law_pool","_law_made","_law_blank","_law_more","_law_things","_law_thing","_law_longer_one"] ["_law_blanks","_law_pool"] (be rP):=⟨rfl,rfl,rfl,Z9,rfl,Z9,Z9⟩
def Fg (F:aH K "_law_choices" "_law_choices" rP f fd)(B:Bl mg):bq P w K mg base bI 1 f fd ["_law_blanks","_law_pool"] tO:=by
 refine F.ok kI (λvs H Q E ⟨_,_,_,_,_,e,_⟩=>by rw [e];rfl) (λep A ct s H vs Q E hr h=>?_)
 obtain ⟨M,r,g,v0,v1,rfl,lv,r0,r1,hp,c0,a4,q⟩:=h
 have c1:=fO hr
 refine ⟨_,(az (bg 2 kI.nd (cQ (ah so ap)))
   (az (dh Lj rfl (cF (pv 0)) (bp 3 kI.nd) (az (bg 4 kI.nd (cQ ap))
   (az (dh Lj rfl (cF (pv 2)) (bp 5 kI.nd) (ay (dh Lj rfl (cF (pv 1)) (bp 6 kI.nd) (az (bg 7 kI.nd (DE B (pv 5)))
   (az (ly c1 (pv 7) (pv 3) (pv 6) rfl)
   (ay (jx (pv 4) (pv 7))))))))
   (ay (bg 2 kI.nd (pv 4))))))
   (ay (bd (pv 2))))),?_⟩
 have E0:aA (but H M) (L2.start ["_law_blanks","_law_pool","_law_made","_law_blank","_law_more","_law_things","_law_thing","_law_longer_one"] [v0,v1]) [some (fU r),some (.lst g),none,none,none,none,none,none]:=fL (.dat r0 (.dat r1 .nil)) _
 have c3:∀k,(dE g (r.take k) [[]]).length<=1000:=λk=>by
  rw [Bq,Mi,Nat.one_mul]
  have h1:(r.take k).length<=3:=Lk (by rw [Lx];exact Nat.min_le_right _ _) c0
  calc g.length^(r.take k).length<=10^(r.take k).length:=Nat.pow_le_pow_left a4 _
   _<=10^3:=Nat.pow_le_pow_right Z5 h1
   _=1000:=by decide
 intro J kC
 refine ⟨by show 1<=sizeLine;decide,λm0 bc=>?_⟩
 have sA:=cG kC (.dK [])
 have sB:=cG bc (.lst [.ref J])
 have af:ab H (upd (upd H J (.dK [])) m0 (.lst [.ref J])):=sA.trans sB
 have c4:J∉M:=lv.fresh kC
 have c5:m0∉M:=(lv.same sA).fresh bc
 have bi:gJ (but (upd (upd H J (.dK [])) m0 (.lst [.ref J])) M) [.ref J] (dE g (r.take 0) [[]]):=by
  refine ⟨rfl,λj c e=>?_⟩
  cases j with
  |zero=>
   have e:([]:aP)=c:=K8 e
   subst e
   exact ⟨J,rfl,by rw [bh c4];exact sB _ _ aK⟩
  |succ j=>simp [dE] at e
 have bk:but (upd (upd H J (.dK [])) m0 (.lst [.ref J])) M m0=some (.lst [.ref J]):=by rw [bh c5];exact aK
 generalize upd (upd H J (.dK [])) m0 (.lst [.ref J])=H1 at af bi bk
 have E1:aA (but H1 M) ((L2.start ["_law_blanks","_law_pool","_law_made","_law_blank","_law_more","_law_things","_law_thing","_law_longer_one"] [v0,v1]).set 2 (some (.ref m0))) [some (fU r),some (.lst g),none,none,none,none,none,none]:=(E0.same af).off 2 _
 have l1:au M H1:=lv.same af
 refine jA (M:=M) (ds:=r.map D.str) (fy (aI E1 rfl)) l1 λH2 s2=>?_
 refine ⟨λk C H'=>∃m us,C[2]?=some (some (.ref m))/\but H' M m=some (.lst us)/\gJ (but H' M) us (dE g (r.take k) [[]])/\ab H2 H'/\aA (but H' M) C [some (fU r),some (.lst g),none,none,none,none,none,none],
  ⟨m0,_,rfl,(s2.but M) _ _ bk,bi.mono (s2.but M),ab.refl _,E1.same s2⟩,λk C H' ⟨_,_,_,_,_,x,_⟩=>⟨x.but M,(l1.same s2).same x⟩,?_,?_⟩
 .rintro k d x C H' u hd ⟨m,us,j2,hm,hD,S',E'⟩ s3 rx
  obtain ⟨b,da,rfl⟩:∃b,r[k]?=some b/\d=.str b:=by
   rw [KZ] at hd
   cases e:r[k]? with
   |none=>rw [e] at hd;cases hd
   |some y=>rw [e] at hd;exact ⟨y,rfl,(K8 hd).symm⟩
  have dc:r.take (k+1)=r.take k++[b]:=by rw [LG,da];rfl
  have l3:au M u:=((l1.same s2).same S').same s3
  have E3:aA (but u M) (C.set 3 (some x)) [some (fU r),some (.lst g),none,some (.str b),none,none,none,none]:=(E'.same s3).set 3 rx
  have c2:(C.set 3 (some x))[2]?=some (some (.ref m)):=(KQ Z5).trans j2
  refine oU (i:=4) l3 E3 Z8 ag (Ll _) λa dd df H4 o4 i4 n4 h4 r4 l4 k4 E4=>?_
  have di:dd=[]:=by cases r4;rfl
  subst di
  have bl:ab u H4:=λx o e=>(k4 x o e).2
  have bs:u a=none:=none_of (ab.refl u) k4
  have SV:ab (but u M) (but H4 (a::M)):=iW bs bl
  have d2:df[2]?=some (some (.ref m)):=(o4 2 Z5).trans c2
  have dp:=SV _ _ ((s3.but M) _ _ hm)
  have bt:=(hD.mono (s3.but M)).mono SV
  have dt:=c3 k
  generalize as:dE g (r.take k) [[]]=L at bt dt
  have ek:∀c∈L,∀p∈c,p.2.sc=true:=λc hc=>by
   rw [<-as] at hc
   exact sq g _ [[]] c hp (λm hm p bx=>by rw [Li.mp hm] at bx;cases bx) hc
  have b0:∀c∈L,c.length<=3:=λc hc=>by
   rw [<-as] at hc
   have:=xR g (r.take k) [[]] 0 (λm hm=>by rw [Li.mp hm];rfl) c hc
   rw [Lx] at this
   omega
  refine qV (M:=a::M) (u6 (FO d2) dp) l4 λH5 s5=>?_
  have a0:=bt.mono (s5.but _)
  refine ⟨λj M' N X=>M'=a::M/\∃ws,N[4]?=some (some (.ref a))/\X a=some (.lst ws)/\gJ (but X (a::M)) ws ((L.take j).flatMap λc=>g.map λt=>c++[(b,t)])/\ab u X/\au (a::M) X/\ab (but H5 (a::M)) (but X (a::M))/\aA (but X (a::M)) N [some (fU r),some (.lst g),none,some (.str b),none,none,none,none],
   ⟨rfl,[],i4,s5 _ _ h4,.nil,bl.trans s5,l4.same s5,ab.refl _,E4.same s5⟩,λj M' N X ⟨e,_,_,_,_,_,x,y,_⟩=>by rw [e];exact ⟨y,x⟩,?_,?_⟩
  .rintro j M' y N X X' hj ⟨rfl,ws,t4,a1,O,SX,lX,a2,EX⟩ s6 hy
   have hy:us[j]?=some y:=hy
   have ao:=a0.len
   have dx:j<L.length:=by omega
   have aj:L[j]?=some L[j]:=KL dx
   obtain ⟨U,h1,h2⟩:=a0.get j _ aj
   have ey:y=.ref U:=by rw [hy] at h1;exact K8 h1
   subst ey
   have b6:=KU aj
   generalize eq:L[j]=c at h2 aj b6
   have E6:aA (but X' (a::M)) (N.set 5 (some (.ref U))) [some (fU r),some (.lst g),none,some (.str b),none,none,none,none]:=(EX.same s6).off 5 _
   have d1:N.length=8:=EX.len
   have e4:(N.set 5 (some (.ref U)))[4]?=some (some (.ref a)):=(KQ Z5).trans t4
   have e5:(N.set 5 (some (.ref U)))[5]?=some (some (.ref U)):=K6 Z6
   have d3:=(s6.but (a::M)) _ _ (a2 _ _ h2)
   have b7:(L.take (j+1)).flatMap (λc=>g.map λt=>c++[(b,t)])=(L.take j).flatMap (λc=>g.map λt=>c++[(b,t)])++g.map λt=>c++[(b,t)]:=by
    rw [LG,aj,NQ]
    congr 1
    exact NU _ _
   have d4:((L.take j).flatMap λc=>g.map λt=>c++[(b,t)]).length<=10000:=by
    rw [List.length_flatMap]
    have d5:∀l:List aP,(l.map λc=>(g.map λt=>c++[(b,t)]).length).sum=l.length*g.length:=by
     intro l
     induction l with
     |nil=>simp
     |cons m t ih=>rw [LB,OS,ih,Lr,Pa,Pb,KP]
    rw [d5,Lx]
    calc min j L.length*g.length<=1000*10:=Nat.mul_le_mul Z6 a4
     _=10000:=by decide
   generalize er:((L.take j).flatMap λc=>g.map λt=>c++[(b,t)])=W at O b7 d4
   refine jA (M:=a::M) (ds:=g) (fy (aI E6 rfl)) (lX.same s6) λH7 s7=>?_
   refine ⟨λi I Y=>∃ws,I[4]?=some (some (.ref a))/\I[5]?=some (some (.ref U))/\Y a=some (.lst ws)/\gJ (but Y (a::M)) ws (W++(g.take i).map λt=>c++[(b,t)])/\ab u Y/\au (a::M) Y/\ab (but H7 (a::M)) (but Y (a::M))/\aA (but Y (a::M)) I [some (fU r),some (.lst g),none,some (.str b),none,none,none,none],
    ⟨ws,e4,e5,s7 _ _ (s6 _ _ a1),by rw [Pu,Nq,LA];exact O.mono ((s6.trans s7).but _),SX.trans (s6.trans s7),(lX.same s6).same s7,ab.refl _,E6.same s7⟩,λi I Y ⟨_,_,_,_,_,_,x,y,_⟩=>⟨y,x⟩,?_,?_⟩
   .rintro i t v I Y Y' ht ⟨G,u4,u5,a3,T,SY,lY,am,EY⟩ s8 rt
    have ea:=KU ht
    have b8:=hp t ea
    have es:=(KJ.mp ht).1
    have E8:aA (but Y' (a::M)) (I.set 6 (some v)) [some (fU r),some (.lst g),none,some (.str b),none,none,some t,none]:=(EY.same s8).set 6 rt
    have w4:(I.set 6 (some v))[4]?=some (some (.ref a)):=(KQ Z5).trans u4
    have w5:(I.set 6 (some v))[5]?=some (some (.ref U)):=(KQ Z5).trans u5
    have ec:=(s8.but (a::M)) _ _ (am _ _ ((s7.but _) _ _ d3))
    have l8:=lY.same s8
    refine ⟨.ref U,w5,U,_,rfl,.inl (ax ec).2,λp an=>?_⟩
    have cd:=cG an (.dK (bT [] (bA c)))
    have ch:p∉a::M:=l8.fresh an
    have em:I.length=8:=EY.len
    have E9:aA (but (upd Y' p (.dK (bT [] (bA c)))) (p::a::M)) ((I.set 6 (some v)).set 7 (some (.ref p))) [some (fU r),some (.lst g),none,some (.str b),none,none,some t,none]:=uq E8 an
    have x7:((I.set 6 (some v)).set 7 (some (.ref p)))[7]?=some (some (.ref p)):=K6 (by rw [Mw];omega)
    have x4:((I.set 6 (some v)).set 7 (some (.ref p)))[4]?=some (some (.ref a)):=(KQ Z5).trans w4
    have x5:((I.set 6 (some v)).set 7 (some (.ref p)))[5]?=some (some (.ref U)):=(KQ Z5).trans w5
    have en:=b0 c b6
    refine ze (n:=b) (y:=t) (F:=c) (l8.upd.cons aK) E9 Z8 x7 aK b8 Z6 (aI E9 rfl) (aI E9 rfl) λZ kZ lZ ed EZ=>?_
    have eg:a≠p:=λz=>ch (by rw [<-z];exact KN)
    have cl:Z a=some (.lst G):=kZ a _ eg (cd _ _ (s8 _ _ a3))
    have co:ab Y' Z:=λz o e=>kZ z o (de e an) (cd _ _ e)
    refine ⟨.ref a,x4,(show gj K "list" (.ref a) _ from .inl ⟨rfl,G,aO.of cl⟩),.ref p,x7,a,G,.ref p,rfl,rfl,cl,?_,?_⟩
    .rw [T.len,Lh,KP,Lx]
     exact M6 (show _<=20000 by omega) Z5
    .have eb:but (upd Z a (.lst (G++[.ref p]))) (a::M)=but Z (a::M):=dH KN
     have SZ:ab (but Y' (a::M)) (but (upd Z a (.lst (G++[.ref p]))) (a::M)):=by rw [eb];exact co.but _
     refine ⟨_,x4,x5,aK,?_,nE (SY.trans (s8.trans co)) bs (λz o hz e=>by rw [aC hz];exact e),?_,am.trans ((s8.but _).trans SZ),?_⟩
     .rw [LG,ht,Lq,<-LK]
      refine (T.mono ((s8.but _).trans SZ)).snoc ?_
      rw [eb,bh ch]
      exact ed
     .exact (λz hz=>(lZ.upd (a:=a)) z (KG _ hz))
     .rw [eb]
      exact (EZ.mono (d6 λz hz=>KG _ hz)).drop 6
   .rintro I Y ⟨G,u4,u5,a3,T,SY,lY,am,EY⟩
    rw [Lz (KR _),<-b7] at T
    exact ⟨a::M,rfl,G,u4,a3,T,SY,lY,a2.trans (((s6.trans s7).but _).trans am),EY⟩
  .rintro M' N X ⟨rfl,ws,t4,a1,O,SX,lX,a2,EX⟩
   have ao:=a0.len
   rw [ao,Lz (KR _)] at O
   have ej:a∉M:=n4
   have ES:aA (but X M) N [some (fU r),some (.lst g),none,some (.str b),none,none,none,none]:=EX.mono (d6 λz hz=>KG _ hz)
   have d1:N.length=8:=EX.len
   refine ⟨.ref a,t4,a,ws,K6 Z6,by rw [bh ej];exact a1,?_,S'.trans (s3.trans SX),(ES.drop 3).off 2 _⟩
   rw [dc,yY,as]
   exact O.mono (d6 λz hz=>KG _ hz)
 .rintro C H' ⟨m,us,j2,hm,hD,S',E'⟩
  rw [KP,Lz (KR _)] at hD
  exact ⟨.ref m,j2,q m us H' (af.trans (s2.trans S')) hm hD⟩
end
end a8
namespace a8
open PySem L2 FL
section
variable {P:Program}{w:World}{K:PySem.W.Frag}{mg:Str->Option Value}{base:Heap}{f:Addr}{fd:FuncData}
abbrev B4:List Str:=["_law_reason","_law_rules","_law_ahead","_law_head","_law_body","_law_wanted","_law_things","_law_k","_law_fact","_law_j","_law_atom"]
def ji:b9 B4 ["_law_reason","_law_rules","_law_ahead"] (be sI):=⟨rfl,rfl,rfl,Z9,rfl,Z9,Z9⟩
def FU (F:aH K "_law_follows" "_law_follows" sI f fd)(B:Bl mg)(af:a5 P w K mg base 2 "_law_is_fact" ["_law_found"] (bJ uG))(am:a5 P w K mg base 1 "_law_whole" ["_law_found"] (bJ oY))(T:a5 P w K mg base 2 "_law_places_fit" ["_law_found","_law_count","_law_most"] (bJ Aq))(o:a5 P w K mg base 1 "_law_fill_in" ["_law_atom","_law_things"] (iO rQ))(a0:a5 P w K mg base 2 "_law_true" ["_law_atom","_law_there"] (spS wL)):bq P w K mg base bI 3 f fd ["_law_reason","_law_rules","_law_ahead"] (bJ y6):=by
 refine F.ok ji (fg (n:=3) λds d ⟨_,_,_,_,_,_,e,_⟩=>by rw [e];rfl) (λec A di s H vs Q E hr h=>?_)
 obtain ⟨M,ds,d,lv,rs,⟨⟨I,J,pl⟩,eb,N,C,r,V,rfl,hF,rfl⟩,q⟩:=h
 have hu:=eD hr
 have dp:=fO hr
 refine ⟨_,(az (bB (eM (dF (cu (ee B (pv 0) B.tuple L4))) (eM (bK (eo (by exact hu)) (cg B (pv 0)) aE) (fS (dF (cu (bQ af hr (ah (aT (pv 0) aE) ap))))))).pt (ay (bd cA)) bS)
   (az (bB (eM (dF (cu (bQ am hr (ah (aT (pv 0) aE) ap)))) (eM (bK jE (aT (pv 0) aE) aE) (fS (bK rB (aT (pv 0) aE) (cg B (pv 1)))))).pt (ay (bd cA)) bS)
   (az (Cf (aT (pv 1) (aT (pv 0) aE)) (kn rfl (eY (bp 3 ji.nd) (eY (bp 4 ji.nd) iQ))))
   (az (nq (i:=5) ["_law_atom"] [] 1 ji.nd rfl (Or.inl rfl) (cF (pv 4)) (λ_ _ _ _ _=>(bp 0 (jU _))) (λ_ _ _ _ _=>(gF (iI (bK (eo (by exact hu)) (j9 (pv 0) aE) dA) (iM (bK (eo (by exact hu)) (j9 (pv 0) aE) dA))).pt)) (λ_ _ _ _ _=>(pv 0)))
   (az (bB (dF (cu (bQ T hr (ah (aT (pv 0) aE) (ah (cg B (pv 5)) (ah (cg B (pv 2)) ap)))))) (ay (bd cA)) bS)
   (az (bg 6 ji.nd so)
   (az (dh Lj rfl (jH rfl B.range (ah (cg B (pv 5)) ap)) (bp 7 ji.nd) (az (bg 8 ji.nd (aT (pv 2) (aT (aT (pv 0) aE) (pv 7))))
   (az (bB (bK (eo (by exact hu)) (cg B (pv 8)) (cg B (aT (pv 5) (pv 7)))) (ay (bd cA)) bS)
   (ay (dh Lj rfl (HA rfl B.range (ah aE (ah (cg B (pv 8)) ap))) (bp 9 ji.nd) (ay (bB (bK (yD hu) (aT (aT (pv 5) (pv 7)) (pv 9)) (dy (ah dA (ah dA (ah dA ap))))) (ay (ly dp (pv 6) (aT (aT (pv 5) (pv 7)) (pv 9)) (aT (pv 8) (pv 9)) rfl)) bS)))))))
   (az (dh Lj rfl (jH rfl B.range (ah (cg B (pv 5)) ap)) (bp 7 ji.nd) (ay (bB (bK (eo (by exact hu)) (bQ o hr (ah (aT (pv 5) (pv 7)) (ah (pv 6) ap))) (aT (pv 2) (aT (aT (pv 0) aE) (pv 7)))) (ay (bd cA)) bS)))
   (az (dh Lj rfl (cF (pv 4)) (bp 10 ji.nd) (ay (bB (eM (bK (fG (by exact hu)) (aT (pv 10) aE) dA) (fS (bK (fG (by exact hu)) (aT (pv 10) aE) dA))).pt (ay (bB (dF (cu (bQ a0 hr (ah (bQ o hr (ah (pv 10) (ah (pv 6) ap))) (ah oQ ap))))) (ay (bd cA)) bS)) bS)))
   (ay (bd (iL (fG (by exact hu)) (bQ o hr (ah (pv 3) (ah (pv 6) ap))) (aT (pv 0) aE))))))))))))),?_⟩
 have b0:Bx H M [] _ H [Sl.d (dM (I,(J,pl))),.d (.lst (N.map bf)),.d (cv C),.no,.no,.no,.no,.no,.no,.no,.no]:=js lv rs B4
 obtain ⟨bs,a2,dt,aj,cq,c0,bt,a3⟩:=hF
 have bs:N[J]?=some r:=bs
 have aj:fx C V (br r.2) pl:=aj
 have bt:I=r.1.map (a6 V):=bt
 have a3:mK I:=a3
 have ed:=(KJ.mp bs).1
 obtain ⟨hd,m⟩:=r
 dsimp only at aj cq c0 bt
 have hI:=a2.bi
 have hI:BI (br m) m:=hI
 have eg:m.length<=3:=a2.fc
 have hA:=hI.at_
 have an:∀a∈br m,a∈m:=λa O=>(La.mp O).1
 have c4:=tK aj
 have h3:=hI.nU
 have b8:∀a∈m,∀x∈a,aB x=true->∃c∈br m,x∈c:=λa O x hx e=>by
  by_cases g:aN a=true
  .obtain ⟨c,c1,c2,c3⟩:=a2.gb a O g x hx e
   exact ⟨c,La.mpr ⟨c1,by rw [c2];rfl⟩,c3⟩
  .exact ⟨a,La.mpr ⟨O,by simp [g]⟩,hx⟩
 have ac:∀a∈m,∀x∈a,x.sc=true:=λa O x hx=>((hA a O).ok x hx).1
 have V1:∀{d:D} {G:Hp} {U:St} {δ:List Sl} {i:Int},bE G U δ->(δ[0]?).bind Sl.jb=some (dM (I,(J,pl)))->c7 [D.tup I,.int ((J:Nat):Int),me pl] i=some d->ae (bz (eF K) (aR 0) (tC (.int i))) G U d:=λe h k=>bV k (e.v h) ar
 refine aU.run b0 ?_
 refine fN (λG U e=>eJ (b:=false) (c:=false) (aY.eq (dL (cm (mW (e.v rfl)))) rfl) λ_=>eJ (b:=false) (c:=false) (aY.eq (bN (im (gR (K:=K) (l:=[D.tup I,.int ((J:Nat):Int),me pl]) (aa (e.v rfl) ag)) ar)) rfl) λ_=>aY.eq (dL (cm (cb ⟨I,rfl,a3,rfl⟩ (aa (V1 (d:=.tup I) e rfl rfl) ag)))) rfl) ?_
 refine fN (λG U e=>eJ (b:=false) (c:=false) (aY.eq (dL (cm (cb ⟨_,rfl,rfl⟩ (aa (V1 (d:=.int ((J:Nat):Int)) e rfl rfl) ag)))) rfl) λ_=>eJ (b:=false) (c:=false) (aY.eq (bN (jL (V1 (d:=.int ((J:Nat):Int)) e rfl rfl) ar)) (Lp Z6)) λ_=>aY.eq (bN (tD (V1 (d:=.int ((J:Nat):Int)) e rfl rfl) ((cY (K:=K) (aa (e.v rfl) ag)).eq (by rw [KP])))) (Lp Z6)) ?_
 refine ba (zq (i:=3) (i':=4) (d1:=.tup hd) (d2:=c8 m) (λG U e=>bR (ds:=N.map bf) (i:=((J:Nat):Int)) (d:=bf (hd,m)) (jF (by rw [KZ,bs];rfl)) (e.vd rfl) (V1 (d:=.int ((J:Nat):Int)) e.uO rfl rfl)) ?_)
 refine ba (ff (i:=5) (d:=cv (br m)) (λG U e=>e.uO.wanted (K:=K) (body:=m) (λa O=>⟨(hA a O).ne,ac a O⟩) Z6 (gO (e.vd rfl))) ?_)
 refine fN (λG U e=>aY.eq (dL (cm (cb ⟨pl,(br m).length,C.length,rfl,c4,CJ aj,rfl⟩ (aa (V1 (d:=me pl) e rfl rfl) (aa ((cY (K:=K) (aa (e.v rfl) ag)).eq (by rw [KP])) (aa ((cY (K:=K) (aa (e.v rfl) ag)).eq (by rw [KP])) ag)))))) rfl) ?_
 refine ba (Ho (i:=6) ?_)
 have bx:∀{k:Nat} {a:List D},(br m)[k]?=some a->∀{G:Hp} {U:St} {δ:List Sl},bE G U δ->(δ[5]?).bind Sl.jb=some (cv (br m))->(δ[7]?).bind Sl.jb=some (.int (0+(k:Int)))->ae (bz (eF K) (aR 5) (aR 7)) G U (.tup a):=λO G U δ e h5 h7=>bR (ds:=(br m).map D.tup) (ig (by rw [KZ,O];rfl)) (e.v h5) (e.v h7)
 have jR:∀{k:Nat} {a:List D},(br m)[k]?=some a->∀{G:Hp} {U:St} {δ:List Sl},bE G U δ->(δ[0]?).bind Sl.jb=some (dM (I,(J,pl)))->(δ[2]?).bind Sl.jb=some (cv C)->(δ[7]?).bind Sl.jb=some (.int (0+(k:Int)))->ae (bz (eF K) (aR 2) (bz (eF K) (bz (eF K) (aR 0) (tC (.int 2))) (aR 7))) G U (.tup (a.map (a6 V))):=λO G U δ e h0 h2 h7=>by
  obtain ⟨i,dx,d0⟩:=AC aj O
  exact bR (ds:=C.map D.tup) (i:=((i:Nat):Int)) (jF (by rw [KZ,d0];rfl)) (e.v h2) (bV (ds:=pl.map λn=>D.int (n:Nat)) (ig (by rw [KZ,dx];rfl)) (V1 (d:=me pl) e h0 rfl) (e.v h7))
 refine ba (fK (i:=7) (dm.kb (n:=(br m).length) Z6 λG U e=>aa ((cY (K:=K) (aa (e.v rfl) ag)).eq (by rw [KP])) ag) (λk Y=>∃s7 s8 s9,Y=[Sl.d (dM (I,(J,pl))),.d (.lst (N.map bf)),.d (cv C),.d (.tup hd),.d (c8 m),.d (cv (br m)),.k (aq V (((br m).take k).flatMap fW)),s7,s8,s9,.no]) ⟨_,_,_,rfl⟩ (λB' sB hk k x Y hx hp=>?_) (λY hp=>?_))
 .obtain ⟨s7,s8,s9,rfl⟩:=hp
  obtain ⟨a1,rfl⟩:=hX 0 _ k x hx
  have O:=KL a1
  have t:=Mm a1
  generalize (br m)[k]'a1=a at O t
  have Aa:=hA a (an a t)
  have a4:=DN fW O
  have cl:(((br m).take k).flatMap fW).length<=30:=by
   have h1:=HR (as:=(br m).take k) λc hc=>(hA c (an c (Oh hc))).len
   rw [Lx] at h1
   omega
  obtain ⟨y,l,rfl⟩:∃y l,a=y::l:=by
   cases a with
   |nil=>exact absurd rfl Aa.ne
   |cons y l=>exact ⟨y,l,rfl⟩
  have ej:l.length<=10:=by have:=Aa.len;rw [Lr] at this;omega
  have c5:∀x∈(y::l).map (a6 V),x.sc=true:=λx hx=>by
   obtain ⟨z,hz,rfl⟩:=Lg.mp hx
   by_cases e:aB z=true
   .rw [qD e];exact cq _ (lQ t hz e)
   .unfold a6;rw [KS e];exact ac _ (an _ t) z hz
  refine ba (ei (i:=8) (d:=.tup ((y::l).map (a6 V))) (λG U e=>jR O e rfl rfl rfl) (gN c5) ?_)
  refine fN (λG U e=>aY.eq (bN (im (gR (K:=K) (aa (e.v rfl) ag)) (gR (K:=K) (aa (bx O e rfl rfl) ag)))) Z8) ?_
  generalize ((br m).take k).flatMap fW=L at a4 cl
  refine fK (i:=9) (dm.Jp (n:=l.length) Z6 λG U e=>aa ar (aa ((gR (K:=K) (aa (e.v rfl) ag)).eq (by rw [KP,Lr])) ag)) (λj Y=>∃s9,Y=[Sl.d (dM (I,(J,pl))),.d (.lst (N.map bf)),.d (cv C),.d (.tup hd),.d (c8 m),.d (cv (br m)),.k (aq V (L++((l.take j).filter aB).map D.name)),.d (.int (0+(k:Int))),.d (.tup ((y::l).map (a6 V))),s9,.no]) ⟨s9,by rw [Pu,Pe,Nq,LA];rfl⟩ (λB2 ek em j x d3 hx hp=>?_) (λd3 hp=>?_)
  .obtain ⟨s9,rfl⟩:=hp
   obtain ⟨co,rfl⟩:=hX 1 _ j x hx
   have hz:=KL co
   have b6:=Mm co
   generalize l[j]'co=z at hz b6
   have ao:=Dv hz
   have en:(((l.take j).filter aB).map D.name).length<=10:=by
    rw [KP]
    exact Lk (Lv _ _) (by rw [Lx];omega)
   have da:aB z=decide (z∈cJ):=Aa.bl z b6
   have d4:=ac _ (an _ t) z (KG _ b6)
   have iz:c7 (y::l) (1+(j:Int))=some z:=jI Z6 (by rw [show (1+(j:Int)).toNat=j+1 by omega];exact hz)
   have iv:c7 ((y::l).map (a6 V)) (1+(j:Int))=some (a6 V z):=jI Z6 (by rw [show (1+(j:Int)).toNat=j+1 by omega,KZ];show Option.map _ l[j]?=_;rw [hz];rfl)
   refine dg (b:=decide (z∈cJ)) (λG U e=>bN (B3 (λy hy=>eT ((by decide:∀y∈cJ,y.sc=true) y hy) d4) (bV iz (bx O e rfl rfl) (e.v rfl)) (aM (ds:=cJ) (aa aF (aa aF (aa aF ag))) Z5))) (λw=>?_) (λw=>?_)
   .have b7:aB z=true:=by rw [da];exact w
    rw [K4 b7] at ao
    refine Gg (j:=6) (n:=z.name) (d:=V z.name) rfl (λG U e=>(bV iv (e.v rfl) (e.v rfl)).eq (qD b7)) (λG U e=>(bV iz (bx O e rfl rfl) (e.v rfl)).eq (gT b7)) (cq _ (lQ t (KG _ b6) b7)) (by unfold aq;rw [KP,Lh];omega) ?_
    rw [Cq,LK,<-ao]
    exact dB ⟨_,rfl⟩
   .have d5:¬aB z=true:=by rw [da,w];exact K0
    rw [KS d5,LA] at ao
    rw [<-ao]
    exact eQ (dB ⟨_,rfl⟩)
  .obtain ⟨s9,rfl⟩:=hp
   rw [KP,MB,MD]
   refine dB ⟨.d (.int (0+(k:Int))),.d (.tup ((y::l).map (a6 V))),s9,?_⟩
   rw [a4]
   rfl
 obtain ⟨s7,s8,s9,rfl⟩:=hp
 rw [KP,MB,MD]
 have dc:cp ((br m).flatMap fW):=IQ
 have dd:∀c∈br m,∀x∈c,aB x=true->x.name∈(br m).flatMap fW:=λc hc x hx e=>FA hc (hA c (an c hc)).hd hx e
 have cs:∀a∈m,cw (aq V ((br m).flatMap fW)) a=a.map (a6 V):=λa O=>oP dc (hA a O).ne (hA a O).hd λx hx e=>by
  obtain ⟨c,c1,c2⟩:=b8 a O x hx e
  exact dd c c1 x c2 e
 have bc:∀p∈aq V ((br m).flatMap fW),p.2.sc=true:=λp hp=>by
  obtain ⟨b,hb,rfl⟩:=Lg.mp hp
  obtain ⟨a,O,h⟩:=Mb.mp hb
  obtain ⟨x,hx,rfl⟩:=Lg.mp h
  exact cq _ (lQ O (Ps (La.mp hx).1) (La.mp hx).2)
 obtain ⟨w,xs,hw⟩:∃w xs,hd=D.str w::xs/\aB (.str w)=false:=by
  obtain ⟨w,xs,e,h1,_⟩:=a2.hd
  exact ⟨w,xs,e,(kG (K9 _ h1)).2.1⟩
 have cd:hd≠[]:=by rw [hw.1];exact λz=>nomatch z
 have ea:aB (hd.headD .av)=false:=by rw [hw.1];exact hw.2
 have df:=a2.hd.sc dt
 have ch:cw (aq V ((br m).flatMap fW)) hd=I:=by
  rw [bt]
  exact oP dc cd ea λx hx e=>by
   obtain ⟨c,c1,c2,c3⟩:=a2.hb x hx e
   exact dd c (La.mpr ⟨c1,by rw [c2];rfl⟩) x c3 e
 generalize aq V ((br m).flatMap fW)=S at cs bc ch
 dsimp only
 refine ba (fK (i:=7) (dm.kb (n:=(br m).length) Z6 λG U e=>aa ((cY (K:=K) (aa (e.v rfl) ag)).eq (by rw [KP])) ag) (λk Y=>∃s7,Y=[Sl.d (dM (I,(J,pl))),.d (.lst (N.map bf)),.d (cv C),.d (.tup hd),.d (c8 m),.d (cv (br m)),.k S,s7,s8,s9,.no]) ⟨_,rfl⟩ (λB' sB hk k x Y hx hp=>?_) (λY hp=>?_))
 .obtain ⟨s7,rfl⟩:=hp
  obtain ⟨a1,rfl⟩:=hX 0 _ k x hx
  have O:=KL a1
  have t:=Mm a1
  generalize (br m)[k]'a1=a at O t
  have Aa:=hA a (an a t)
  have hq:=sT Aa.ne (ac a (an a t)) bc
  have bk:=nu hq hq
  exact dg (b:=false) (λG U e=>aY.eq (bN (jP bk.1 bk.2 (e.oy (j:=6) (.inl rfl) Aa.ne (ac a (an a t)) Aa.len (bx O e rfl rfl)) ((jR O e rfl rfl rfl).eq (by rw [cs a (an a t)])))) Z8) (λz=>nomatch z) (λ_=>eQ (dB ⟨_,rfl⟩))
 obtain ⟨s7,rfl⟩:=hp
 dsimp only
 refine ba (fK (i:=10) (ds:=m.map D.tup) (dm.of λG U e=>gO (e.vd rfl)) (λk Y=>∃ct,Y=[Sl.d (dM (I,(J,pl))),.d (.lst (N.map bf)),.d (cv C),.d (.tup hd),.d (c8 m),.d (cv (br m)),.k S,s7,s8,s9,ct]) ⟨_,rfl⟩ (λB' sB hk k x Y hx hp=>?_) (λY hp=>?_))
 .obtain ⟨ct,rfl⟩:=hp
  obtain ⟨a,t,rfl⟩:=Lg.mp (KU hx)
  have Aa:=hA a t
  obtain ⟨y,l,rfl⟩:∃y l,a=y::l:=by
   cases a with
   |nil=>exact absurd rfl Aa.ne
   |cons y l=>exact ⟨y,l,rfl⟩
  have hy:=ac _ t y KN
  refine dg (b:=aN (y::l)) (λG U e=>aY.eq (eJ (bN (jD (d1:=y) (d2:=.str "less") (eT hy rfl).1 (eT hy (b:=.str "less") rfl).2 (bV (d:=y) ge (e.v rfl) ar) aF)) λ_=>bN (jD (d1:=y) (d2:=.str "unlike") (eT hy rfl).1 (eT hy (b:=.str "unlike") rfl).2 (bV (d:=y) ge (e.v rfl) ar) aF)) rfl) (λg=>?_) (λ_=>eQ (dB ⟨_,rfl⟩))
  have ht:eW [] (cw S (y::l))=true:=by
   rw [cs _ t]
   obtain ⟨r0,u,v,e⟩:=(hI.gd _ t g).1
   have hh:aB ((y::l).headD .av)=false:=Aa.hd
   rw [e] at g hh⊢
   rw [yX g hh]
   have:=Nk.mp c0 (y::l) (La.mpr ⟨t,by rw [e];exact g⟩)
   rw [<-this,e]
   congr 1
   refine Ly λx hx=>(jK (iV eZ) λq=>?_).symm
   obtain ⟨c,c1,c2⟩:=b8 _ t x (by rw [e];exact hx) q
   exact lQ c1 c2 q
  exact dg (b:=false) (λG U e=>aY.eq (dL (cm (uz (d:=.bl true) ⟨cw S (y::l),[],rfl,xT Aa.ne (ac _ t) bc (λg=>(hI.gd _ t g).1),by rw [<-ht];rfl⟩ (yi (e.oy (j:=6) (.inl rfl) Aa.ne (ac _ t) Aa.len (e.v rfl)) (Gu vV))))) rfl) (λz=>nomatch z) (λ_=>eQ (dB ⟨_,rfl⟩))
 obtain ⟨ct,rfl⟩:=hp
 dsimp only
 have bk:=nu a3.sc a3.sc
 exact fj (d:=.bl true) (λG U e=>ae.eq (jD bk.1 bk.2 ((e.oy (j:=6) (.inl rfl) cd df.1 (Lk df.2 Z5) (e.v rfl)).eq (by rw [ch])) (V1 (d:=.tup I) e rfl rfl)) Z8) q
end
end a8
namespace a8
open PySem L2 FL
section
variable {P:Program}{w:World}{K:PySem.W.Frag}{mg:Str->Option Value}{base:Heap}{f:Addr}{fd:FuncData}
abbrev yw:List Str:=["_law_rules","_law_pool","_law_spots","_law_there","_law_k","_law_head","_law_body","_law_wanted","_law_things","_law_fact","_law_mine"]
def kj:b9 yw ["_law_rules","_law_pool","_law_spots","_law_there"] (be sJ):=⟨rfl,rfl,rfl,Z9,rfl,Z9,Z9⟩
def Dt (F:aH K "_law_first_ones" "_law_first_ones" sJ f fd)(B:Bl mg)(L:a5 P w K mg base 1 "_law_choices" ["_law_blanks","_law_pool"] tO)(C:a5 P w K mg base 1 "_law_blanks_in" ["_law_atoms"] (bJ BH))(T:a5 P w K mg base 2 "_law_true" ["_law_atom","_law_there"] (spS wL))(t:a5 P w K mg base 1 "_law_fill_in" ["_law_atom","_law_things"] (iO rQ))(u:a5 P w K mg base 1 "_law_stands_ahead" ["_law_one","_law_two"] (bJ wV)):bq P w K mg base bI 3 f fd ["_law_rules","_law_pool","_law_spots","_law_there"] (spS x8):=by
 refine F.ok kj (Ar (n:=4) λds d ⟨_,_,_,_,e,_⟩=>by rw [e];rfl) (λc3 A ch s H vs Q E hr h=>?_)
 obtain ⟨M,ds,d,lv,rs,⟨U,I,o,ac,rfl,hF,rfl⟩,q⟩:=h
 have hu:=eD hr
 have aj:=fO hr
 refine ⟨_,(az (dh Lj rfl (jH rfl B.range (ah (cg B (pv 0)) ap)) (bp 4 kj.nd) (az (Cf (aT (pv 0) (pv 4)) (kn rfl (eY (bp 5 kj.nd) (eY (bp 6 kj.nd) iQ))))
   (az (nq (i:=7) ["_law_atom"] [] 1 kj.nd rfl (Or.inl rfl) (cF (pv 6)) (λ_ _ _ _ _=>(bp 0 (jU _))) (λ_ _ _ _ _=>(gF (iI (bK (eo (by exact hu)) (j9 (pv 0) aE) dA) (iM (bK (eo (by exact hu)) (j9 (pv 0) aE) dA))).pt)) (λ_ _ _ _ _=>(pv 0)))
   (ay (dh Lj rfl (cF (bQ L hr (ah (bQ C hr (ah (pv 6) ap)) (ah (pv 1) ap)))) (bp 8 kj.nd) (ay (bB (cu (uo B (fC ["_law_spots","_law_things","_law_atom"] [2,8] 1 (cF (pv 6)) (λ_ _ _ _ _=>(bp 2 (show (["_law_spots","_law_things","_law_atom"]:List Str).Nodup from by decide+kernel))) (λ_ _ _ _ _=>jm) (λ_ _ _ _ _=>(iB T hr (ah (iB t hr (ah (pv 2) (ah (pv 1) ap))) (ah (pv 0) ap))))))) (az (bg 9 kj.nd (bQ t hr (ah (pv 5) (ah (pv 8) ap))))
   (az (bB (iI (iu (pE (by exact aj) (pv 9) (pv 3))) (iM (iu (pE (by exact aj) (pv 9) (pv 2))))).pt (ay (bd cA)) bS)
   (az (bg 10 kj.nd (cj k9 (cQ (ah (pv 4) ap)) (fC ["_law_spots","_law_things","_law_atom"] [2,8] 1 (cF (pv 7)) (λ_ _ _ _ _=>(bp 2 (show (["_law_spots","_law_things","_law_atom"]:List Str).Nodup from by decide+kernel))) (λ_ _ _ _ _=>jm) (λ_ _ _ _ _=>(tj (by exact aj) (pv 0) (iB t hr (ah (pv 2) (ah (pv 1) ap))) (λ_ _=>rfl))))))
   (ay (bB (iI (iu (lH (by exact aj) (pv 9) (pv 3))) (iM (cu (bQ u hr (ah (pv 10) (ah (tj (by exact aj) (pv 3) (pv 9) (λ_ _=>rfl)) ap)))))).pt (ay (bd cA)) bS))))) bS)))))))
   (ay (bd cA))),?_⟩
 have b0:Bx H M [] _ H [Sl.d (.lst (I.map bf)),.d (.lst U),.td (eI o),.td ac,.no,.no,.no,.no,.no,.no,.no]:=Cn lv rs (by simp [Sl.own]) yw
 obtain ⟨hP,cl,c4,co,bx⟩:=hF
 refine aU.run b0 ?_
 refine ba (fK (i:=4) (dm.kb (n:=I.length) Z6 λG σ e=>aa ((cY (K:=K) (aa (e.v rfl) ag)).eq (by rw [KP])) ag) (λ_ am=>∃s4 s5 s6 s7 s8 s9 N,(s8.own=false/\s9.own=false/\N.own=false)/\am=[Sl.d (.lst (I.map bf)),.d (.lst U),.td (eI o),.td ac,s4,s5,s6,s7,s8,s9,N]) ⟨_,_,_,_,_,_,_,⟨rfl,rfl,rfl⟩,rfl⟩ (λB' sB hk k x am hx hp=>?_) (λam hp=>?_))
 .obtain ⟨s4,s5,s6,s7,s8,s9,N,⟨o8,o9,ao⟩,rfl⟩:=hp
  obtain ⟨a2,rfl⟩:=hX 0 _ k x hx
  have a3:=KL a2
  have b6:=λc=>bx k _ c a3
  have an:=cl _ (Mm a2)
  generalize I[k]'a2=r at a3 b6 an
  obtain ⟨hd,l⟩:=r
  have hI:BI (br l) l:=an.bi
  have hA:=hI.at_
  have c5:l.length<=3:=an.fc
  have Y:∀a∈l,∀x∈a,x.sc=true:=λa O x hx=>((hA a O).ok x hx).1
  have as:∀a∈br l,a∈l:=λa O=>(La.mp O).1
  obtain ⟨w,xs,hw⟩:∃w xs,hd=D.str w::xs:=by
   obtain ⟨w,xs,e,_⟩:=an.hd
   exact ⟨w,xs,e⟩
  have a0:hd≠[]:=by rw [hw];exact λz=>nomatch z
  have a4:(∀x∈hd,x.sc=true)/\hd.length<=3:=an.hd.sc hP
  refine ba (zq (i:=5) (i':=6) (d1:=.tup hd) (d2:=c8 l) (λG σ e=>bR (ds:=I.map bf) (d:=bf (hd,l)) (ig (by rw [KZ,a3];rfl)) (e.vd rfl) (e.vd rfl)) ?_)
  refine ba (ff (i:=7) (d:=cv (br l)) (λG σ e=>e.uO.wanted (K:=K) (body:=l) (λa O=>⟨(hA a O).ne,Y a O⟩) Z6 (gO (e.vd rfl))) ?_)
  refine Di (i:=8) (Bs:=aW [] l) (pool:=U) (λG σ e=>aa (cb ⟨l,rfl,Iz hA Z6,rfl⟩ (aa (e.vd rfl) ag)) (aa (e.vd rfl) ag)) (λx hx=>(hP.gp x hx).1) (Kf hA) (by rcases hP.len with z|z<;>omega) (λ_ am=>∃s8 s9 N,(s8.own=false/\s9.own=false/\N.own=false)/\am=[Sl.d (.lst (I.map bf)),.d (.lst U),.td (eI o),.td ac,.d (.int (0+(k:Int))),.d (.tup hd),.d (c8 l),.d (cv (br l)),s8,s9,N]) ⟨_,_,_,⟨o8,o9,ao⟩,rfl⟩ (λB2 da dc j c cs hc hp=>?_) (λcs hp=>?_)
  .obtain ⟨s8,s9,N,⟨o8,o9,ao⟩,rfl⟩:=hp
   have b7:=KU hc
   have bc:∀p∈c,p.2.sc=true:=sq U _ [[]] c (λx hx=>(hP.gp x hx).1) (λm hm p hp=>by rw [Li.mp hm] at hp;cases hp) b7
   have ct:=b6 c b7
   refine dg (b:=n0 o l c) (λG σ e=>cm (ae.eq (wF (bs:=l.map λa=>eW o (cw c a)) (aa (ae.eq (e.comp (idx:=[2,8]) (k:=1) (i:=2) (λ_=>true) (λd=>match d with|.tup a=>.bl (eW o (cw c a))|_=>.av) (gO (e.v rfl)) (λG' bk d hd e'=>jG) (λG' bk d hd _ e'=>?_) (by rw [KP];exact cr Z6)) ?_) ag)) ?_)) (λz=>?_) (λz=>eQ (dB ⟨_,_,_,⟨rfl,o9,ao⟩,rfl⟩))
   .obtain ⟨a,O,rfl⟩:=Lg.mp hd
    have Aa:=hA a O
    exact uz ⟨cw c a,eI o,rfl,xT Aa.ne (Y a O) bc (λg=>(hI.gd a O g).1),by rw [oM]⟩ (yi (e'.oy (j:=1) (.inr rfl) Aa.ne (Y a O) Aa.len (e'.v rfl)) (e'.es (i:=0) rfl (λz=>nomatch z) vV))
   .rw [LZ.mpr λ_ _=>rfl,LH,LH]
    rfl
   .rw [NP]
    rfl
   .obtain ⟨bt,J⟩:=ct z
    have af:=sT a0 a4.1 bc
    refine ba (ei (i:=9) (d:=.tup (cw c hd)) (λG σ e=>e.oy (j:=8) (.inr rfl) a0 a4.1 (Lk a4.2 Z5) (e.v rfl)) (gN af) ?_)
    dsimp only at bt J
    generalize cw c hd=dd at bt J af
    refine fN (λG σ e=>aY.eq (jY (cm (e.yO (j:=3) rfl af (e.v rfl))) λ_=>cm (e.yO (j:=2) rfl af (e.v rfl))) ?_) ?_
    .rw [oM]
     rcases bt with y|y
     .rw [Ln y];rfl
     .rw [Ln y];exact Ov _
    have c0:∀a∈br l,cX (eI o) (cw c a)=some (.int ((o.idxOf (cw c a):Nat):Int)):=λa O=>Ji (F4 z O (hA a (as a O)).ne)
    have c1:(cy k ((br l).map λa=>o.idxOf (cw c a))).map D.int=[D.int (0+(k:Int))]++(br l).map λa=>D.int ((o.idxOf (cw c a):Nat):Int):=by
     unfold cy
     rw [Pc,LB,LH,LH]
     rfl
    have df:(br l).length<=3:=hI.nU
    refine ba (Kb (i:=10) (d:=.lst ((cy k ((br l).map λa=>o.idxOf (cw c a))).map D.int)) (λs hs=>?_) (λG σ e=>ae.eq (kA (xs:=[.int (0+(k:Int))]) (ys:=(br l).map λa=>D.int ((o.idxOf (cw c a):Nat):Int)) (by rw [KP];show 1+_<=1000;omega) (eO (aa (e.v rfl) ag)) (ae.eq (e.comp (idx:=[2,8]) (k:=1) (i:=2) (λ_=>true) (λd=>match d with|.tup a=>.int ((o.idxOf (cw c a):Nat):Int)|_=>.av) (fy (e.v rfl)) (λG' bk d hd e'=>jG) (λG' bk d hd _ e'=>?_) (by rw [KP];exact cr Z6)) ?_)) (by rw [c1])) ?_)
    .simp only [List.set_cons_succ,List.set_cons_zero,KY,Lu,LO] at hs
     rcases hs with rfl|rfl|rfl|rfl|rfl|rfl|rfl|rfl|rfl|rfl|rfl<;>first|rfl|exact ao
    .obtain ⟨a,O,rfl⟩:=Lg.mp hd
     have Aa:=hA a (as a O)
     exact e'.Af (j:=0) rfl (sT Aa.ne (Y a (as a O)) bc) (c0 a O) (e'.oy (j:=1) (.inr rfl) Aa.ne (Y a (as a O)) Aa.len (e'.v rfl))
    .rw [LZ.mpr λ_ _=>rfl,LH]
     rfl
    have a1:(cy k ((br l).map λa=>o.idxOf (cw c a))).length<=1000:=by unfold cy;rw [Lr,KP,KP];omega
    generalize cy k ((br l).map λa=>o.idxOf (cw c a))=b8 at J a1
    refine dg (b:=false) (λG σ e=>aY.eq (jY (c:=false) (cm (e.zf (j:=3) rfl af (e.v rfl))) λy=>?_) (Ov _)) (λz=>nomatch z) (λ_=>eQ (dB ⟨.kd c,_,_,⟨rfl,rfl,rfl⟩,rfl⟩))
    obtain ⟨v,cd,c2⟩:=yA (Le y)
    obtain ⟨q',hq⟩:=co _ c2
    have hq:v=.lst (q'.map D.int):=hq
    subst hq
    exact cm (cb ⟨b8,q',false,rfl,a1,J q' cd,rfl⟩ (aa (e.v rfl) (aa (e.Af (j:=3) rfl af cd (e.v rfl)) ag)))
  .obtain ⟨s8,s9,N,ho,rfl⟩:=hp
   exact dB ⟨_,_,_,_,s8,s9,N,ho,rfl⟩
 .obtain ⟨s4,s5,s6,s7,s8,s9,N,_,rfl⟩:=hp
  dsimp only
  exact fj (λG σ e=>mR (b:=true)) q
end
end a8
namespace a8
open PySem L2 FL
section
variable {P:Program}{w:World}{K:PySem.W.Frag}{mg:Str->Option Value}{base:Heap}{f:Addr}{fd:FuncData}
abbrev xz:List Str:=["_law_handed","_law_own","_law_left","_law_right","_law_one","_law_two"]
def oX:b9 xz ["_law_handed","_law_own"] (be rK):=⟨rfl,rfl,rfl,Z9,rfl,Z9,Z9⟩
def HZ (F:aH K "_law_as_it_was" "_law_as_it_was" rK f fd)(B:Bl mg):bq P w K mg base bI 1 f fd ["_law_handed","_law_own"] (bJ xN):=by
 refine F.ok oX (fg (n:=2) λds d ⟨_,e,_⟩=>by rw [e];rfl) (λan A ac s H vs Q E hr h=>?_)
 obtain ⟨M,ds,d,lv,rs,⟨x,rfl,af,aj,rfl⟩,q⟩:=h
 have u:=eD hr
 refine ⟨_,(az (bg 2 oX.nd (cQ (ah (pv 0) ap)))
   (az (bg 3 oX.nd (cQ (ah (pv 1) ap)))
   (az (w6 Lj (bK oR (cg B (pv 3)) aE) (az (bg 4 oX.nd (sm LU Np NX vc (pv 2)))
   (az (bg 5 oX.nd (sm LU Np NX vc (pv 3)))
   (ay (bB (cu (CO B (pv 5) B.list L9 B.tuple L4)) (az (bB (bK (eo (by exact u)) (ee B (pv 4) B.list L9) (ee B (pv 5) B.list L9)) (ay (bd cA)) bS)
   (az (bB (eM (bK (eo (by exact u)) (ee B (pv 4) B.tuple L4) (ee B (pv 5) B.tuple L4)) (fS (bK (eo (by exact u)) (cg B (pv 4)) (cg B (pv 5))))).pt (ay (bd cA)) bS)
   (az (ky (oT LU Mu MS tw (pv 2) (ah (nC B (pv 4)) ap)))
   (ay (ky (oT LU Mu MS tw (pv 3) (ah (nC B (pv 5)) ap))))))) (ay (bB (bK GL (pv 5) pb) (ay (bB (bK Am (pv 4) pb) (ay (bd cA)) bS)) (ay (bB (cu (ee B (pv 5) B.bool Nb)) (ay (bB (eM (dF (cu (ee B (pv 4) B.bool Nb))) (fS (bK (eo (by exact u)) (pv 4) (pv 5)))).pt (ay (bd cA)) bS)) (ay (bB (cu (ee B (pv 5) B.str MH)) (ay (bB (eM (dF (cu (ee B (pv 4) B.str MH))) (fS (bK (eo (by exact u)) (pv 4) (pv 5)))).pt (ay (bd cA)) bS)) (ay (bB (eM (dF (cu (ee B (pv 4) B.int Ng))) (eM (cu (ee B (pv 4) B.bool Nb)) (fS (bK (eo (by exact u)) (pv 4) (pv 5))))).pt (ay (bd cA)) bS)))))))))))))
   (ay (bd cA))))),?_⟩
 have b0:Bx H M [] _ H [Sl.d x,.d x,.no,.no,.no,.no]:=js lv rs xz
 refine aU.run b0 (ba (u9 (i:=2) (ds:=[x]) (λG a e=>aa (e.vd rfl) ag) (show 1<=sizeLine by decide) ?_))
 refine ba (u9 (i:=3) (ds:=[x]) (λG a e=>aa (e.vd rfl) ag) (show 1<=sizeLine by decide) ?_)
 have o:∀{n:Nat},n<=20000->n<=sizeLine:=λh=>Lk h Z5
 refine ba (Df (λm J=>∃L C I,D.dz L=true/\D.cV L=m/\m<=10000/\J=[Sl.d x,.d x,.l L,.l L,C,I]) (D.cV [x]) ⟨[x],_,_,by simp [D.dz,af],rfl,by simp [D.cV];exact aj,rfl⟩ (λB' sB hk m J hp=>?_))
 obtain ⟨L,C,I,Y,hm,ao,rfl⟩:=hp
 refine ⟨_,λG a e=>bN (p7 (cY (K:=K) (aa (e.v (i:=3) rfl) ag)) ar),λz=>?_,λz=>?_⟩
 .have N:L≠[]:=λw=>by rw [w] at z;exact absurd z Z5
  obtain ⟨g,d,rfl⟩:∃g d,L=g++[d]:=⟨L.dropLast,L.getLast N,(List.dropLast_concat_getLast N).symm⟩
  rw [uT,LP] at Y
  rw [qp] at hm
  have hd:d.plain=true:=by have:=Y.2;simpa [D.dz] using this
  have am:D.cV [d]=d.sz:=by simp [D.cV]
  rw [am] at hm
  have as:=xt d
  have a0:=rj g
  refine ba (Ch (i:=4) (j:=2) rfl ?_)
  refine ba (Ch (i:=5) (j:=3) rfl ?_)
  obtain ⟨hn,O⟩:=Fm hd
  have T:∀{l:List D},D.dz l=true->D.cV l<d.sz->∃t,t<m/\∃L C I,D.dz L=true/\D.cV L=t/\t<=10000/\[Sl.d x,.d x,.l (g++l),.l (g++l),.d d,.d d]=[Sl.d x,.d x,.l L,.l L,C,I]:=λ{l} h1 h2=>⟨D.cV (g++l),by rw [qp];omega,g++l,_,_,by rw [uT,Y.1,h1];rfl,rfl,by rw [qp];omega,rfl⟩
  have p:∃t,t<m/\∃L C I,D.dz L=true/\D.cV L=t/\t<=10000/\[Sl.d x,.d x,.l g,.l g,.d d,.d d]=[Sl.d x,.d x,.l L,.l L,C,I]:=⟨D.cV g,by omega,g,_,_,Y.1,rfl,by omega,rfl⟩
  refine dg (λG a e=>cm (CD (d:=d) (e.v rfl))) (λz=>?_) (λz=>?_)
  .refine fN (λG a e=>aY.eq (bN (vg (qI (d:=d) (e.v rfl)) (qI (d:=d) (e.v rfl)))) Z8) ?_
   cases d with
   |lst l=>
    have U:=rj l
    simp only [D.sz] at hm
    have k:D.dz l=true:=by simpa [D.plain] using hd
    refine fN (λG a e=>eJ (b:=false) (c:=false) (aY.eq (bN (vg (mW (d:=.lst l) (e.v rfl)) (mW (d:=.lst l) (e.v rfl)))) Z8) λ_=>aY.eq (bN (im (cY (K:=K) (l:=l) (aa (e.v rfl) ag)) (cY (K:=K) (l:=l) (aa (e.v rfl) ag)))) Z8) ?_
    refine ba (rn (j:=2) (ys:=l) rfl (λG a e=>qo (K:=K) (aa (e.vd rfl) ag)) (o Z6) ?_)
    exact rn (j:=3) (ys:=l) rfl (λG a e=>qo (K:=K) (aa (e.vd rfl) ag)) (o Z6) (dB (T k (by simp [D.sz])))
   |tup l=>
    have U:=rj l
    simp only [D.sz] at hm
    have k:D.dz l=true:=by simpa [D.plain] using hd
    refine fN (λG a e=>eJ (b:=false) (c:=false) (aY.eq (bN (vg (mW (d:=.tup l) (e.v rfl)) (mW (d:=.tup l) (e.v rfl)))) Z8) λ_=>aY.eq (bN (im (gR (K:=K) (l:=l) (aa (e.v rfl) ag)) (gR (K:=K) (l:=l) (aa (e.v rfl) ag)))) Z8) ?_
    refine ba (rn (j:=2) (ys:=l) rfl (λG a e=>vA (K:=K) (aa (e.vd rfl) ag)) (o Z6) ?_)
    exact rn (j:=3) (ys:=l) rfl (λG a e=>vA (K:=K) (aa (e.vd rfl) ag)) (o Z6) (dB (T k (by simp [D.sz])))
   |_=>cases z
  .refine dg (b:=false) (λG a e=>aY.eq (bN (Du (d:=d) (e.v rfl) λ_ _ r=>zY r)) hn) (λz=>nomatch z) (λ_=>?_)
   refine dg (b:=false) (λG a e=>aY.eq (cm (uS (d:=d) (e.v rfl))) O) (λz=>nomatch z) (λ_=>?_)
   cases d with
   |str y=>
    refine dg (b:=true) (λG a e=>cm (iK (d:=.str y) (e.v rfl))) (λ_=>?_) (λz=>nomatch z)
    exact dg (b:=false) (λG a e=>eJ (b:=false) (c:=false) (aY.eq (dL (cm (iK (d:=.str y) (e.v rfl)))) rfl) λ_=>aY.eq (bN (jP (d1:=.str y) (d2:=.str y) rfl (Ll _) (e.v rfl) (e.v rfl))) Z8) (λz=>nomatch z) (λ_=>eQ (dB p))
   |int y=>
    refine dg (b:=false) (λG a e=>cm (iK (d:=.int y) (e.v rfl))) (λz=>nomatch z) (λ_=>?_)
    exact dg (b:=false) (λG a e=>eJ (b:=false) (c:=false) (aY.eq (dL (cm (lL (d:=.int y) (e.v rfl)))) rfl) λ_=>eJ (b:=false) (c:=false) (aY.eq (cm (uS (d:=.int y) (e.v rfl))) rfl) λ_=>aY.eq (bN (im (e.v rfl) (e.v rfl))) Z8) (λz=>nomatch z) (λ_=>eQ (dB p))
   |lst l=>cases z
   |tup l=>cases z
   |av=>cases hn
   |bl y=>cases O
 .dsimp only
  exact fj (λG a e=>mR (b:=true)) λv H' s' r'=>q v H' (sB.trans s') r'
end
end a8
namespace FL
open PySem L2
section
variable {P:Program}{w:World}{K:PySem.W.Frag}{mg:Str->Option Value}{base h:Heap}{x q:Str}{st:Stmt}{f C:Addr}{fd:FuncData}{oc kV dc pm cd ct:Value}{od an:Option Addr}{sl:Array (Option Value)}{n:Nat}{ps:List Str}{sp:Sp}{p1 p2 p3 p4 p5:Str}
def dn (X:K.In h)(G:h.Ns mainGlobals mg)(a:PySem.W.nsIn K mainGlobals x=some (some (.ref f)))(l:K.lookup f=some ⟨oc,od,.func (PySem.W.fnOf x x (dS st) (dG st) (be st) .none kV dc pm an cd ct),sl⟩)(c:PySem.W.codeIn K cd x=true)(k:PySem.W.keepIn K (.ref f)=true):∃f d,aH K x x st f d/\mg x=some (.ref f):=⟨f,_,wP l c k,N5 X G a⟩
def gU (a:PySem.W.findIn K (.ref C) x=some (some (.ref f)))(i:PySem.W.isFn K (.ref f)=true)(l:K.lookup f=some ⟨oc,od,.func (PySem.W.fnOf x q (dS st) (dG st) (be st) .none kV dc pm an cd ct),sl⟩)(c:PySem.W.codeIn K cd q=true)(k:PySem.W.keepIn K (.ref f)=true):∃f d,aH K x q st f d/\c6 K C x f:=⟨f,_,wP l c k,⟨a,i,k⟩⟩
def ut (X:K.In h)(G:h.Ns mainGlobals mg)(n:PySem.W.nsIn K mainGlobals x=some (some (.ref C)))(a:PySem.W.plainGet K C Str.empty=true)(b:PySem.W.hasDictIn K C=true)(c:PySem.W.plainOver K C=true)(d:PySem.W.findIn K (.ref C) "__setattr__"=some (some (.builtin "object.__setattr__")))(e:PySem.W.makesIn K C=true)(g:PySem.W.keepIn K (.ref C)=true):mg x=some (.ref C)/\dk K C/\PySem.W.makesIn K C=true/\PySem.W.keepIn K (.ref C)=true:=⟨N5 X G n,⟨a,b,c,d⟩,e,g⟩
def a5.of (h:bq P w K mg base bI n f fd ps sp)(b:Binds K fd ps [])(k:PySem.W.keepIn K (.ref f)=true)(m:mg x=some (.ref f)):a5 P w K mg base n x ps sp:=⟨⟨f,fd,h,b,k,m⟩⟩
def d9.of (h:bq P w K mg base bI n f fd ps sp)(b:Binds K fd ps [])(m:c6 K C x f):d9 P w K mg base n C x ps sp:=⟨⟨f,fd,h,b,m⟩⟩
def jf.of (h:bq P w K mg base bI n f fd ps sp)(b:Binds K fd ps [])(m:c6 K C "__init__" f)(c:mg x=some (.ref C)/\dk K C/\PySem.W.makesIn K C=true/\PySem.W.keepIn K (.ref C)=true):jf P w K mg base n C x ps sp:=⟨⟨f,fd,h,b,⟨c.2.2.1,m.at_,m.fn,c.2.2.2⟩,c.1⟩⟩
def b1 (F:aH K x q st f fd)(h:∀(kV b pm:Value) (an:Option Addr) (c ct a:Value),bindArgs (PySem.W.fnOf x q (dS st) (dG st) (be st) .none kV b pm an c ct) ⟨[a],[]⟩=pure [(p1,a)]):Binds K fd [p1] []:=F.binds λkV dc pm an cd ct d e=>match d,e with|[a],_=>h kV dc pm an cd ct a
def b2 (F:aH K x q st f fd)(h:∀(kV c pm:Value) (an:Option Addr) (d ct a b:Value),bindArgs (PySem.W.fnOf x q (dS st) (dG st) (be st) .none kV c pm an d ct) ⟨[a,b],[]⟩=pure [(p1,a),(p2,b)]):Binds K fd [p1,p2] []:=F.binds λkV dc pm an cd ct e g=>match e,g with|[a,b],_=>h kV dc pm an cd ct a b
def b3 (F:aH K x q st f fd)(h:∀(kV d pm:Value) (an:Option Addr) (e ct a b c:Value),bindArgs (PySem.W.fnOf x q (dS st) (dG st) (be st) .none kV d pm an e ct) ⟨[a,b,c],[]⟩=pure [(p1,a),(p2,b),(p3,c)]):Binds K fd [p1,p2,p3] []:=F.binds λkV dc pm an cd ct g i=>match g,i with|[a,b,c],_=>h kV dc pm an cd ct a b c
def b4 (F:aH K x q st f fd)(h:∀(kV e pm:Value) (an:Option Addr) (g ct a b c d:Value),bindArgs (PySem.W.fnOf x q (dS st) (dG st) (be st) .none kV e pm an g ct) ⟨[a,b,c,d],[]⟩=pure [(p1,a),(p2,b),(p3,c),(p4,d)]):Binds K fd [p1,p2,p3,p4] []:=F.binds λkV dc pm an cd ct i j=>match i,j with|[a,b,c,d],_=>h kV dc pm an cd ct a b c d
def b5 (F:aH K x q st f fd)(h:∀(kV g pm:Value) (an:Option Addr) (i ct a b c d e:Value),bindArgs (PySem.W.fnOf x q (dS st) (dG st) (be st) .none kV g pm an i ct) ⟨[a,b,c,d,e],[]⟩=pure [(p1,a),(p2,b),(p3,c),(p4,d),(p5,e)]):Binds K fd [p1,p2,p3,p4,p5] []:=F.binds λkV dc pm an cd ct j k=>match j,k with|[a,b,c,d,e],_=>h kV dc pm an cd ct a b c d e
end
end FL
namespace a8
open PySem L2 FL
def JS{K:PySem.W.Frag}(X:K.In h)(G:h.Ns mainGlobals a)(u:PySem.W.nsIn K mainGlobals "LESS"=some (some (.str "less" t))):∃t,a "LESS"=some (.str "less" t):=⟨t,N5 X G u⟩
def CV{K:PySem.W.Frag}(X:K.In h)(G:h.Ns mainGlobals a)(u:PySem.W.nsIn K mainGlobals "UNLIKE"=some (some (.str "unlike" t))):∃t,a "UNLIKE"=some (.str "unlike" t):=⟨t,N5 X G u⟩
def Gj{K:PySem.W.Frag}(X:K.In h)(G:h.Ns mainGlobals a)(z:PySem.W.nsIn K mainGlobals "max"=some none):a "max"=none:=LJ X G z
section
variable {l:PySem.W.OpenLaw}{w:World}{K:PySem.W.Frag}{h base:Heap}{mg:Str->Option Value}{A_Step A_Loom A_Weaving f_is_blank f_filled f_matched f_is_guard f_blanks_in f_holds f_askers_in f_guards_in f_slots_of f_is_ready f_steps_for f_next_reasons f_law_at f_law_whole f_law_mixed f_law_is_fact f_law_blanks_in f_law_places_fit f_law_stands_ahead f_law_same_facts f_law_pool_by f_law_fill_in f_law_true f_law_menu_by f_law_rules_by f_law_choices f_law_follows f_law_first_ones f_law_as_it_was f_Step_init f_Step_offer f_Step_allows f_Step_carry_on f_Loom_init f_Loom_take_in f_Loom_beginnings f_Loom_is_whole f_Loom_carried_on f_Weaving_given_by f_Weaving_one_round f_Weaving_init:Addr}{d_is_blank d_filled d_matched d_is_guard d_blanks_in d_holds d_askers_in d_guards_in d_slots_of d_is_ready d_steps_for d_next_reasons d_law_at d_law_whole d_law_mixed d_law_is_fact d_law_blanks_in d_law_places_fit d_law_stands_ahead d_law_same_facts d_law_pool_by d_law_fill_in d_law_true d_law_menu_by d_law_rules_by d_law_choices d_law_follows d_law_first_ones d_law_as_it_was d_Step_init d_Step_offer d_Step_allows d_Step_carry_on d_Loom_init d_Loom_take_in d_Loom_beginnings d_Loom_is_whole d_Loom_carried_on d_Weaving_given_by d_Weaving_one_round d_Weaving_init fd:FuncData}{fa:Addr}{t_LESS t_UNLIKE:Tok}
def all_mk (B:Bl mg)(ev:aH K "law" "law" lS fa fd)
 (O:aH K "is_blank" "is_blank" sD f_is_blank d_is_blank/\mg "is_blank"=some (.ref f_is_blank))
 (a1:aH K "filled" "filled" rM f_filled d_filled/\mg "filled"=some (.ref f_filled))
 (aj:aH K "matched" "matched" sS f_matched d_matched/\mg "matched"=some (.ref f_matched))
 (Q:aH K "is_guard" "is_guard" qN f_is_guard d_is_guard/\mg "is_guard"=some (.ref f_is_guard))
 (A:aH K "blanks_in" "blanks_in" sE f_blanks_in d_blanks_in/\mg "blanks_in"=some (.ref f_blanks_in))
 (bc:aH K "holds" "holds" s_holds f_holds d_holds/\mg "holds"=some (.ref f_holds))
 (E:aH K "askers_in" "askers_in" qa f_askers_in d_askers_in/\mg "askers_in"=some (.ref f_askers_in))
 (G:aH K "guards_in" "guards_in" qQ f_guards_in d_guards_in/\mg "guards_in"=some (.ref f_guards_in))
 (U:aH K "slots_of" "slots_of" rV f_slots_of d_slots_of/\mg "slots_of"=some (.ref f_slots_of))
 (Y:aH K "is_ready" "is_ready" qM f_is_ready d_is_ready/\mg "is_ready"=some (.ref f_is_ready))
 (H:aH K "steps_for" "steps_for" sU f_steps_for d_steps_for/\mg "steps_for"=some (.ref f_steps_for))
 (j:aH K "next_reasons" "next_reasons" qy f_next_reasons d_next_reasons/\mg "next_reasons"=some (.ref f_next_reasons))
 (a2:aH K "_law_at" "_law_at" rX f_law_at d_law_at/\mg "_law_at"=some (.ref f_law_at))
 (I:aH K "_law_whole" "_law_whole" qY f_law_whole d_law_whole/\mg "_law_whole"=some (.ref f_law_whole))
 (J:aH K "_law_mixed" "_law_mixed" sM f_law_mixed d_law_mixed/\mg "_law_mixed"=some (.ref f_law_mixed))
 (o:aH K "_law_is_fact" "_law_is_fact" rL f_law_is_fact d_law_is_fact/\mg "_law_is_fact"=some (.ref f_law_is_fact))
 (f:aH K "_law_blanks_in" "_law_blanks_in" sN f_law_blanks_in d_law_blanks_in/\mg "_law_blanks_in"=some (.ref f_law_blanks_in))
 (b:aH K "_law_places_fit" "_law_places_fit" rH f_law_places_fit d_law_places_fit/\mg "_law_places_fit"=some (.ref f_law_places_fit))
 (a:aH K "_law_stands_ahead" "_law_stands_ahead" qO f_law_stands_ahead d_law_stands_ahead/\mg "_law_stands_ahead"=some (.ref f_law_stands_ahead))
 (c:aH K "_law_same_facts" "_law_same_facts" sV f_law_same_facts d_law_same_facts/\mg "_law_same_facts"=some (.ref f_law_same_facts))
 (p:aH K "_law_pool_by" "_law_pool_by" sx f_law_pool_by d_law_pool_by/\mg "_law_pool_by"=some (.ref f_law_pool_by))
 (q:aH K "_law_fill_in" "_law_fill_in" qZ f_law_fill_in d_law_fill_in/\mg "_law_fill_in"=some (.ref f_law_fill_in))
 (ac:aH K "_law_true" "_law_true" sZ f_law_true d_law_true/\mg "_law_true"=some (.ref f_law_true))
 (r:aH K "_law_menu_by" "_law_menu_by" sn f_law_menu_by d_law_menu_by/\mg "_law_menu_by"=some (.ref f_law_menu_by))
 (k:aH K "_law_rules_by" "_law_rules_by" sF f_law_rules_by d_law_rules_by/\mg "_law_rules_by"=some (.ref f_law_rules_by))
 (s:aH K "_law_choices" "_law_choices" rP f_law_choices d_law_choices/\mg "_law_choices"=some (.ref f_law_choices))
 (t:aH K "_law_follows" "_law_follows" sI f_law_follows d_law_follows/\mg "_law_follows"=some (.ref f_law_follows))
 (d:aH K "_law_first_ones" "_law_first_ones" sJ f_law_first_ones d_law_first_ones/\mg "_law_first_ones"=some (.ref f_law_first_ones))
 (g:aH K "_law_as_it_was" "_law_as_it_was" rK f_law_as_it_was d_law_as_it_was/\mg "_law_as_it_was"=some (.ref f_law_as_it_was))
 (am:aH K "__init__" "Step.__init__" mG f_Step_init d_Step_init/\c6 K A_Step "__init__" f_Step_init)
 (af:aH K "offer" "Step.offer" mj f_Step_offer d_Step_offer/\c6 K A_Step "offer" f_Step_offer)
 (N:aH K "allows" "Step.allows" mJ f_Step_allows d_Step_allows/\c6 K A_Step "allows" f_Step_allows)
 (u:aH K "carry_on" "Step.carry_on" mH f_Step_carry_on d_Step_carry_on/\c6 K A_Step "carry_on" f_Step_carry_on)
 (an:aH K "__init__" "Loom.__init__" mT f_Loom_init d_Loom_init/\c6 K A_Loom "__init__" f_Loom_init)
 (x:aH K "take_in" "Loom.take_in" lR f_Loom_take_in d_Loom_take_in/\c6 K A_Loom "take_in" f_Loom_take_in)
 (m:aH K "beginnings" "Loom.beginnings" mS f_Loom_beginnings d_Loom_beginnings/\c6 K A_Loom "beginnings" f_Loom_beginnings)
 (v:aH K "is_whole" "Loom.is_whole" lT f_Loom_is_whole d_Loom_is_whole/\c6 K A_Loom "is_whole" f_Loom_is_whole)
 (n:aH K "carried_on" "Loom.carried_on" lM f_Loom_carried_on d_Loom_carried_on/\c6 K A_Loom "carried_on" f_Loom_carried_on)
 (i:aH K "given_by" "Weaving.given_by" mE f_Weaving_given_by d_Weaving_given_by/\c6 K A_Weaving "given_by" f_Weaving_given_by)
 (e:aH K "one_round" "Weaving.one_round" lN f_Weaving_one_round d_Weaving_one_round/\c6 K A_Weaving "one_round" f_Weaving_one_round)
 (y:aH K "__init__" "Weaving.__init__" md f_Weaving_init d_Weaving_init/\c6 K A_Weaving "__init__" f_Weaving_init)
 (d4:mg "Step"=some (.ref A_Step)/\dk K A_Step/\PySem.W.makesIn K A_Step=true/\PySem.W.keepIn K (.ref A_Step)=true) (ep:bO K A_Step "asker") (ea:bO K A_Step "shared") (eb:bO K A_Step "guards") (ec:bO K A_Step "offers") (ed:bO K A_Step "newest")
 (d5:mg "Loom"=some (.ref A_Loom)/\dk K A_Loom/\PySem.W.makesIn K A_Loom=true/\PySem.W.keepIn K (.ref A_Loom)=true) (eg:bO K A_Loom "steps") (c0:bO K A_Loom "is_barred") (c5:bO K A_Loom "taken_in") (ej:bO K A_Loom "fresh") (a4:bO K A_Loom "last_fresh_step")
 (cl:mg "Weaving"=some (.ref A_Weaving)/\dk K A_Weaving/\PySem.W.makesIn K A_Weaving=true/\PySem.W.keepIn K (.ref A_Weaving)=true) (ek:bO K A_Weaving "rules") (em:bO K A_Weaving "looms") (eq:bO K A_Weaving "told")
 (da:mg "LESS"=some (.str "less" t_LESS))
 (a3:mg "UNLIKE"=some (.str "unlike" t_UNLIKE))
 (er:mg "max"=none)
 :bq l.prog w K mg base bI 12 fa fd ["_law_script"] (rl K):=by
 have T:kE K A_Step:=⟨d4.2.1,ep,ea,eb,ec,ed⟩
 have TL:lC K A_Loom:=⟨d5.2.1,eg,c0,c5,ej,a4⟩
 have TW:oN K A_Weaving:=⟨cl.2.1,ek,em,eq⟩
 have da:=And.intro da (show RelV (.str "less") (.str "less" t_LESS) from ⟨_,rfl⟩)
 have a3:=And.intro a3 (show RelV (.str "unlike") (.str "unlike" t_UNLIKE) from ⟨_,rfl⟩)
 have b0:a5 l.prog w K mg base _ "is_blank" _ _:=.of (Hc O.1 B) (b1 O.1 λ_ _ _ _ _ _ _=>rfl) O.1.kp O.2
 have c3:a5 l.prog w K mg base _ "filled" _ _:=.of (C9 a1.1 B) (b2 a1.1 λ_ _ _ _ _ _ _ _=>rfl) a1.1.kp a1.2
 have d1:a5 l.prog w K mg base _ "matched" _ _:=.of (I0 aj.1 B b0) (b3 aj.1 λ_ _ _ _ _ _ _ _ _=>rfl) aj.1.kp aj.2
 have b6:a5 l.prog w K mg base _ "is_guard" _ _:=.of (JQ Q.1 B da a3) (b1 Q.1 λ_ _ _ _ _ _ _=>rfl) Q.1.kp Q.2
 have L:a5 l.prog w K mg base _ "blanks_in" _ _:=.of (C7 A.1 B b0) (b1 A.1 λ_ _ _ _ _ _ _=>rfl) A.1.kp A.2
 have dp:a5 l.prog w K mg base _ "holds" _ _:=.of (ok_holds bc.1 B a3) (b1 bc.1 λ_ _ _ _ _ _ _=>rfl) bc.1.kp bc.2
 have dc:a5 l.prog w K mg base _ "askers_in" _ _:=.of (FC E.1 B b6) (b1 E.1 λ_ _ _ _ _ _ _=>rfl) E.1.kp E.2
 have bi:a5 l.prog w K mg base _ "guards_in" _ _:=.of (FG G.1 B b6) (b1 G.1 λ_ _ _ _ _ _ _=>rfl) G.1.kp G.2
 have b7:a5 l.prog w K mg base _ "slots_of" _ _:=.of (Fz U.1 B L) (b2 U.1 λ_ _ _ _ _ _ _ _=>rfl) U.1.kp U.2
 have ds:a5 l.prog w K mg base _ "is_ready" _ _:=.of (Je Y.1 B L b7) (b2 Y.1 λ_ _ _ _ _ _ _ _=>rfl) Y.1.kp Y.2
 have et:jf l.prog w K mg base _ A_Step "Step" _ _:=.of (FY am.1 T (C:=A_Step)) (b4 am.1 λ_ _ _ _ _ _ _ _ _ _=>rfl) am.2 d4
 have es:d9 l.prog w K mg base _ A_Step "offer" _ _:=.of (D9 af.1 T B d1 (C:=A_Step)) (b3 af.1 λ_ _ _ _ _ _ _ _ _=>rfl) af.2
 have en:d9 l.prog w K mg base _ A_Step "allows" _ _:=.of (FH N.1 T B c3 dp (C:=A_Step)) (b2 N.1 λ_ _ _ _ _ _ _ _=>rfl) N.2
 have dt:d9 l.prog w K mg base _ A_Step "carry_on" _ _:=.of (DS u.1 T B en (C:=A_Step)) (b3 u.1 λ_ _ _ _ _ _ _ _ _=>rfl) u.2
 have dd:a5 l.prog w K mg base _ "steps_for" _ _:=.of (IF H.1 B bi dc L b7 ds et (C:=A_Step)) (b1 H.1 λ_ _ _ _ _ _ _=>rfl) H.1.kp H.2
 have eu:jf l.prog w K mg base _ A_Loom "Loom" _ _:=.of (Do an.1 TL B bi L dp dd (C:=A_Step) (CL:=A_Loom)) (b2 an.1 λ_ _ _ _ _ _ _ _=>rfl) an.2 d5
 have d2:d9 l.prog w K mg base _ A_Loom "take_in" _ _:=.of (Eu x.1 T TL B er es (C:=A_Step) (CL:=A_Loom)) (b2 x.1 λ_ _ _ _ _ _ _ _=>rfl) x.2
 have c1:d9 l.prog w K mg base _ A_Loom "beginnings" _ _:=.of (CQ m.1 T TL B (C:=A_Step) (CL:=A_Loom)) (b1 m.1 λ_ _ _ _ _ _ _=>rfl) m.2
 have dx:d9 l.prog w K mg base _ A_Loom "is_whole" _ _:=.of (G7 v.1 TL B (C:=A_Step) (CL:=A_Loom)) (b2 v.1 λ_ _ _ _ _ _ _ _=>rfl) v.2
 have c2:d9 l.prog w K mg base _ A_Loom "carried_on" _ _:=.of (HY n.1 T TL B er dt (C:=A_Step) (CL:=A_Loom)) (b2 n.1 λ_ _ _ _ _ _ _ _=>rfl) n.2
 have d0:d9 l.prog w K mg base _ A_Weaving "given_by" _ _:=.of (He i.1 TL TW B c3 c1 dx c2 (C:=A_Step) (CL:=A_Loom) (CW:=A_Weaving)) (b3 i.1 λ_ _ _ _ _ _ _ _ _=>rfl) i.2
 have df:d9 l.prog w K mg base _ A_Weaving "one_round" _ _:=.of (FP e.1 TL TW B d2 d0 (C:=A_Step) (CL:=A_Loom) (CW:=A_Weaving)) (b2 e.1 λ_ _ _ _ _ _ _ _=>rfl) e.2
 have d3:jf l.prog w K mg base _ A_Weaving "Weaving" _ _:=.of (Dj y.1 TW eu (C:=A_Step) (CL:=A_Loom) (CW:=A_Weaving)) (b2 y.1 λ_ _ _ _ _ _ _ _=>rfl) y.2 cl
 have cd:a5 l.prog w K mg base _ "next_reasons" _ _:=.of (GS j.1 TW d3 df (C:=A_Step) (CL:=A_Loom) (CW:=A_Weaving)) (b2 j.1 λ_ _ _ _ _ _ _ _=>rfl) j.1.kp j.2
 have c4:a5 l.prog w K mg base _ "_law_at" _ _:=.of (F0 a2.1 B) (b2 a2.1 λ_ _ _ _ _ _ _ _=>rfl) a2.1.kp a2.2
 have M:a5 l.prog w K mg base _ "_law_whole" _ _:=.of (IX I.1 B) (b1 I.1 λ_ _ _ _ _ _ _=>rfl) I.1.kp I.2
 have di:a5 l.prog w K mg base _ "_law_mixed" _ _:=.of (Fw J.1 B) (b1 J.1 λ_ _ _ _ _ _ _=>rfl) J.1.kp J.2
 have ao:a5 l.prog w K mg base _ "_law_is_fact" _ _:=.of (D8 o.1 B M) (b1 o.1 λ_ _ _ _ _ _ _=>rfl) o.1.kp o.2
 have bt:a5 l.prog w K mg base _ "_law_blanks_in" _ _:=.of (Gz f.1 B) (b1 f.1 λ_ _ _ _ _ _ _=>rfl) f.1.kp f.2
 have bk:a5 l.prog w K mg base _ "_law_places_fit" _ _:=.of (HC b.1 B M) (b3 b.1 λ_ _ _ _ _ _ _ _ _=>rfl) b.1.kp b.2
 have z:a5 l.prog w K mg base _ "_law_stands_ahead" _ _:=.of (Ii a.1 B) (b2 a.1 λ_ _ _ _ _ _ _ _=>rfl) a.1.kp a.2
 have bl:a5 l.prog w K mg base _ "_law_same_facts" _ _:=.of (Ez c.1 B ao) (b2 c.1 λ_ _ _ _ _ _ _ _=>rfl) c.1.kp c.2
 have as:a5 l.prog w K mg base _ "_law_pool_by" _ _:=.of (GX p.1 B c4) (b1 p.1 λ_ _ _ _ _ _ _=>rfl) p.1.kp p.2
 have a0:a5 l.prog w K mg base _ "_law_fill_in" _ _:=.of (D5 q.1 B) (b2 q.1 λ_ _ _ _ _ _ _ _=>rfl) q.1.kp q.2
 have b8:a5 l.prog w K mg base _ "_law_true" _ _:=.of (HE ac.1 B M) (b2 ac.1 λ_ _ _ _ _ _ _ _=>rfl) ac.1.kp ac.2
 have co:a5 l.prog w K mg base _ "_law_menu_by" _ _:=.of (FK r.1 B) (b5 r.1 λ_ _ _ _ _ _ _ _ _ _ _=>rfl) r.1.kp r.2
 have ch:a5 l.prog w K mg base _ "_law_rules_by" _ _:=.of (C6 k.1 B c4 as co) (b1 k.1 λ_ _ _ _ _ _ _=>rfl) k.1.kp k.2
 have cs:a5 l.prog w K mg base _ "_law_choices" _ _:=.of (Fg s.1 B) (b2 s.1 λ_ _ _ _ _ _ _ _=>rfl) s.1.kp s.2
 have ct:a5 l.prog w K mg base _ "_law_follows" _ _:=.of (FU t.1 B ao M bk a0 b8) (b3 t.1 λ_ _ _ _ _ _ _ _ _=>rfl) t.1.kp t.2
 have bs:a5 l.prog w K mg base _ "_law_first_ones" _ _:=.of (Dt d.1 B cs bt b8 a0 z) (b4 d.1 λ_ _ _ _ _ _ _ _ _ _=>rfl) d.1.kp d.2
 have bx:a5 l.prog w K mg base _ "_law_as_it_was" _ _:=.of (HZ g.1 B) (b2 g.1 λ_ _ _ _ _ _ _ _=>rfl) g.1.kp g.2
 exact Ht ev B di as ch cd bx bl ct z bs
end
def mw{K:PySem.W.Frag}(X:K.In h)(G:h.Ns mainGlobals mg)
 (n:PySem.W.nsIn K mainGlobals "Step"=some (some (.ref C))) (pg:PySem.W.plainGet K C Str.empty=true) (hd:PySem.W.hasDictIn K C=true) (po:PySem.W.plainOver K C=true) (sa:PySem.W.findIn K (.ref C) "__setattr__"=some (some (.builtin "object.__setattr__"))) (mk:PySem.W.makesIn K C=true) (kc:PySem.W.keepIn K (.ref C)=true)
 (g:PySem.W.findIn K (.ref C) "asker"=some none)
 (a:PySem.W.findIn K (.ref C) "shared"=some none)
 (b:PySem.W.findIn K (.ref C) "guards"=some none)
 (c:PySem.W.findIn K (.ref C) "offers"=some none)
 (e:PySem.W.findIn K (.ref C) "newest"=some none)
 (a0:PySem.W.findIn K (.ref C) "__init__"=some (some (.ref m))) (i0:PySem.W.isFn K (.ref m)=true) (l0:K.lookup m=some ⟨r,w,.func (PySem.W.fnOf "__init__" "Step.__init__" (dS mG) (dG mG) (be mG) .none s t u x i v),y⟩) (c0:PySem.W.codeIn K i "Step.__init__"=true) (k0:PySem.W.keepIn K (.ref m)=true)
 (a1:PySem.W.findIn K (.ref C) "offer"=some (some (.ref o))) (i1:PySem.W.isFn K (.ref o)=true) (l1:K.lookup o=some ⟨z,I,.func (PySem.W.fnOf "offer" "Step.offer" (dS mj) (dG mj) (be mj) .none A B E J j H),L⟩) (c1:PySem.W.codeIn K j "Step.offer"=true) (k1:PySem.W.keepIn K (.ref o)=true)
 (a2:PySem.W.findIn K (.ref C) "allows"=some (some (.ref p))) (i2:PySem.W.isFn K (.ref p)=true) (l2:K.lookup p=some ⟨M,U,.func (PySem.W.fnOf "allows" "Step.allows" (dS mJ) (dG mJ) (be mJ) .none N O Q Y k T),ac⟩) (c2:PySem.W.codeIn K k "Step.allows"=true) (k2:PySem.W.keepIn K (.ref p)=true)
 (a3:PySem.W.findIn K (.ref C) "carry_on"=some (some (.ref q))) (i3:PySem.W.isFn K (.ref q)=true) (l3:K.lookup q=some ⟨af,as,.func (PySem.W.fnOf "carry_on" "Step.carry_on" (dS mH) (dG mH) (be mH) .none aj am an a4 l ao),bc⟩) (c3:PySem.W.codeIn K l "Step.carry_on"=true) (k3:PySem.W.keepIn K (.ref q)=true)
 :∃C,(mg "Step"=some (.ref C)/\dk K C/\PySem.W.makesIn K C=true/\PySem.W.keepIn K (.ref C)=true)/\bO K C "asker"/\bO K C "shared"/\bO K C "guards"/\bO K C "offers"/\bO K C "newest"/\(∃f d,aH K "__init__" "Step.__init__" mG f d/\c6 K C "__init__" f)/\(∃f d,aH K "offer" "Step.offer" mj f d/\c6 K C "offer" f)/\(∃f d,aH K "allows" "Step.allows" mJ f d/\c6 K C "allows" f)/\(∃f d,aH K "carry_on" "Step.carry_on" mH f d/\c6 K C "carry_on" f):=
 ⟨C,ut X G n pg hd po sa mk kc,g,a,b,c,e,gU a0 i0 l0 c0 k0,gU a1 i1 l1 c1 k1,gU a2 i2 l2 c2 k2,gU a3 i3 l3 c3 k3⟩
def mz{K:PySem.W.Frag}(X:K.In h)(G:h.Ns mainGlobals mg)
 (n:PySem.W.nsIn K mainGlobals "Loom"=some (some (.ref C))) (pg:PySem.W.plainGet K C Str.empty=true) (hd:PySem.W.hasDictIn K C=true) (po:PySem.W.plainOver K C=true) (sa:PySem.W.findIn K (.ref C) "__setattr__"=some (some (.builtin "object.__setattr__"))) (mk:PySem.W.makesIn K C=true) (kc:PySem.W.keepIn K (.ref C)=true)
 (e:PySem.W.findIn K (.ref C) "steps"=some none)
 (b:PySem.W.findIn K (.ref C) "is_barred"=some none)
 (c:PySem.W.findIn K (.ref C) "taken_in"=some none)
 (g:PySem.W.findIn K (.ref C) "fresh"=some none)
 (a:PySem.W.findIn K (.ref C) "last_fresh_step"=some none)
 (a0:PySem.W.findIn K (.ref C) "__init__"=some (some (.ref o))) (i0:PySem.W.isFn K (.ref o)=true) (l0:K.lookup o=some ⟨t,y,.func (PySem.W.fnOf "__init__" "Loom.__init__" (dS mT) (dG mT) (be mT) .none u v w z i x),A⟩) (c0:PySem.W.codeIn K i "Loom.__init__"=true) (k0:PySem.W.keepIn K (.ref o)=true)
 (a1:PySem.W.findIn K (.ref C) "take_in"=some (some (.ref p))) (i1:PySem.W.isFn K (.ref p)=true) (l1:K.lookup p=some ⟨B,L,.func (PySem.W.fnOf "take_in" "Loom.take_in" (dS lR) (dG lR) (be lR) .none E H I M j J),N⟩) (c1:PySem.W.codeIn K j "Loom.take_in"=true) (k1:PySem.W.keepIn K (.ref p)=true)
 (a2:PySem.W.findIn K (.ref C) "beginnings"=some (some (.ref q))) (i2:PySem.W.isFn K (.ref q)=true) (l2:K.lookup q=some ⟨O,ac,.func (PySem.W.fnOf "beginnings" "Loom.beginnings" (dS mS) (dG mS) (be mS) .none Q T U af k Y),aj⟩) (c2:PySem.W.codeIn K k "Loom.beginnings"=true) (k2:PySem.W.keepIn K (.ref q)=true)
 (a3:PySem.W.findIn K (.ref C) "is_whole"=some (some (.ref r))) (i3:PySem.W.isFn K (.ref r)=true) (l3:K.lookup r=some ⟨am,bi,.func (PySem.W.fnOf "is_whole" "Loom.is_whole" (dS lT) (dG lT) (be lT) .none an ao as bk l bc),bl⟩) (c3:PySem.W.codeIn K l "Loom.is_whole"=true) (k3:PySem.W.keepIn K (.ref r)=true)
 (a4:PySem.W.findIn K (.ref C) "carried_on"=some (some (.ref s))) (i4:PySem.W.isFn K (.ref s)=true) (l4:K.lookup s=some ⟨bs,b7,.func (PySem.W.fnOf "carried_on" "Loom.carried_on" (dS lM) (dG lM) (be lM) .none bt bx b0 b8 m b6),cd⟩) (c4:PySem.W.codeIn K m "Loom.carried_on"=true) (k4:PySem.W.keepIn K (.ref s)=true)
 :∃C,(mg "Loom"=some (.ref C)/\dk K C/\PySem.W.makesIn K C=true/\PySem.W.keepIn K (.ref C)=true)/\bO K C "steps"/\bO K C "is_barred"/\bO K C "taken_in"/\bO K C "fresh"/\bO K C "last_fresh_step"/\(∃f d,aH K "__init__" "Loom.__init__" mT f d/\c6 K C "__init__" f)/\(∃f d,aH K "take_in" "Loom.take_in" lR f d/\c6 K C "take_in" f)/\(∃f d,aH K "beginnings" "Loom.beginnings" mS f d/\c6 K C "beginnings" f)/\(∃f d,aH K "is_whole" "Loom.is_whole" lT f d/\c6 K C "is_whole" f)/\(∃f d,aH K "carried_on" "Loom.carried_on" lM f d/\c6 K C "carried_on" f):=
 ⟨C,ut X G n pg hd po sa mk kc,e,b,c,g,a,gU a0 i0 l0 c0 k0,gU a1 i1 l1 c1 k1,gU a2 i2 l2 c2 k2,gU a3 i3 l3 c3 k3,gU a4 i4 l4 c4 k4⟩
def pD{K:PySem.W.Frag}(X:K.In h)(G:h.Ns mainGlobals T)
 (n:PySem.W.nsIn K mainGlobals "Weaving"=some (some (.ref C))) (U:PySem.W.plainGet K C Str.empty=true) (Y:PySem.W.hasDictIn K C=true) (po:PySem.W.plainOver K C=true) (sa:PySem.W.findIn K (.ref C) "__setattr__"=some (some (.builtin "object.__setattr__"))) (mk:PySem.W.makesIn K C=true) (kc:PySem.W.keepIn K (.ref C)=true)
 (a:PySem.W.findIn K (.ref C) "rules"=some none)
 (b:PySem.W.findIn K (.ref C) "looms"=some none)
 (c:PySem.W.findIn K (.ref C) "told"=some none)
 (a0:PySem.W.findIn K (.ref C) "given_by"=some (some (.ref j))) (i0:PySem.W.isFn K (.ref j)=true) (l0:K.lookup j=some ⟨m,s,.func (PySem.W.fnOf "given_by" "Weaving.given_by" (dS mE) (dG mE) (be mE) .none o p q t e r),u⟩) (c0:PySem.W.codeIn K e "Weaving.given_by"=true) (k0:PySem.W.keepIn K (.ref j)=true)
 (a1:PySem.W.findIn K (.ref C) "one_round"=some (some (.ref k))) (i1:PySem.W.isFn K (.ref k)=true) (l1:K.lookup k=some ⟨v,A,.func (PySem.W.fnOf "one_round" "Weaving.one_round" (dS lN) (dG lN) (be lN) .none w x y B g z),E⟩) (c1:PySem.W.codeIn K g "Weaving.one_round"=true) (k1:PySem.W.keepIn K (.ref k)=true)
 (a2:PySem.W.findIn K (.ref C) "__init__"=some (some (.ref l))) (i2:PySem.W.isFn K (.ref l)=true) (l2:K.lookup l=some ⟨H,N,.func (PySem.W.fnOf "__init__" "Weaving.__init__" (dS md) (dG md) (be md) .none I J L O i M),Q⟩) (c2:PySem.W.codeIn K i "Weaving.__init__"=true) (k2:PySem.W.keepIn K (.ref l)=true)
 :∃C,(T "Weaving"=some (.ref C)/\dk K C/\PySem.W.makesIn K C=true/\PySem.W.keepIn K (.ref C)=true)/\bO K C "rules"/\bO K C "looms"/\bO K C "told"/\(∃f d,aH K "given_by" "Weaving.given_by" mE f d/\c6 K C "given_by" f)/\(∃f d,aH K "one_round" "Weaving.one_round" lN f d/\c6 K C "one_round" f)/\(∃f d,aH K "__init__" "Weaving.__init__" md f d/\c6 K C "__init__" f):=
 ⟨C,ut X G n U Y po sa mk kc,a,b,c,gU a0 i0 l0 c0 k0,gU a1 i1 l1 c1 k1,gU a2 i2 l2 c2 k2⟩
def DJ{K:PySem.W.Frag}{kV:Value}(X:K.In h)(G:h.Ns mainGlobals d)(b:d "law"=some (.ref g))(a:PySem.W.nsIn K mainGlobals "law"=some (some (.ref f)))(l:K.lookup f=some ⟨m,q,.func (PySem.W.fnOf "law" "law" (dS lS) (dG lS) (be lS) .none kV n o r i p),t⟩)(c:PySem.W.codeIn K i "law"=true)(k:PySem.W.keepIn K (.ref f)=true):∃j:FuncData,(∀(s:Shared) (v:Value),BindsTo s j ⟨[v],[]⟩ [("_law_script",v)])/\aH K "law" "law" lS g j:=by
 have e:=b.symm.trans (N5 X G a)
 cases e
 exact ⟨_,λs v=>.of_eq rfl,wP l c k⟩
def HL{K:PySem.W.Frag}(X:K.In h)(G:h.Ns mainGlobals o)(j:PySem.W.nsIn K mainGlobals "len"=some none)(a:PySem.W.nsIn K mainGlobals "isinstance"=some none)(d:PySem.W.nsIn K mainGlobals "range"=some none)(k:PySem.W.nsIn K mainGlobals "int"=some none)(l:PySem.W.nsIn K mainGlobals "str"=some none)(f:PySem.W.nsIn K mainGlobals "bool"=some none)(g:PySem.W.nsIn K mainGlobals "list"=some none)(e:PySem.W.nsIn K mainGlobals "tuple"=some none)(i:PySem.W.nsIn K mainGlobals "dict"=some none)(m:PySem.W.nsIn K mainGlobals "zip"=some none)(b:PySem.W.nsIn K mainGlobals "enumerate"=some none)(n:PySem.W.nsIn K mainGlobals "all"=some none)(c:PySem.W.nsIn K mainGlobals "reversed"=some none):Bl o:=⟨LJ X G j,LJ X G a,LJ X G d,LJ X G k,LJ X G l,LJ X G f,LJ X G g,LJ X G e,LJ X G i,LJ X G m,LJ X G b,LJ X G n,LJ X G c⟩
def walk {l:PySem.W.OpenLaw}{q:Program}{loose:List Str}{XP:(Str->Option Value)->Heap->Prop}{YP:World->Heap->Prop}{d:DefRec}{K:Params->PySem.W.Frag}(hn:l.most=some 63)(hdf:d.params.defaults=[])
  (hY:∀(w:World) (h:Heap),YP w h->(K w.params).In h)
  (F:∀(w:World) (mg:Str->Option Value) (fa:Addr) (h:Heap),(K w.params).In h->h.Ns mainGlobals mg->mg d.name=some (.ref fa)->
   ∃fd:FuncData,(∀(s:Shared) (u:Value),BindsTo s fd ⟨[u],[]⟩ [("_law_script",u)])/\∀base:Heap,(K w.params).In base->base.Ns mainGlobals mg->bq l.prog w (K w.params) mg base bI 12 fa fd ["_law_script"] (rl (K w.params))):
  PySem.W.WalkO q loose XP YP l.row.toRowW d [] (λf vs=>PySem.call f vs):=
 L2.Hs (n:=63) (k:=12) (x:="_law_script") (CX:=λ_=>bI) (sp:=λw=>rl (K w.params)) hn Z5 hdf ⟨rfl,by decide,by decide⟩ hY F (λ_ _ a ns hl _ hS=>⟨a,ns,rfl,hS,hl,λ_=>rfl⟩) λ_ _ _ _ _ z=>z
end a8
/-! no twins of the heaps: these names are taken, so the library goes on with the plain heaps (and the file stays small) -/
def PySem.W.Fast.tw14237362258807076480 : Unit := ()
def PySem.W.Fast.tw1239099298053956004 : Unit := ()
def PySem.W.Fast.tw12132574762982228554 : Unit := ()
def PySem.W.Fast.tw4935047433018430124 : Unit := ()
def PySem.W.Fast.tw5343584199597446557 : Unit := ()
def PySem.W.Fast.tw15759512035290008121 : Unit := ()
def PySem.W.Fast.tw955275050276931123 : Unit := ()
def PySem.W.Fast.tw1055725959733468085 : Unit := ()
def PySem.W.Fast.tw9377738293323441643 : Unit := ()
def PySem.W.Fast.tw3022726088892832844 : Unit := ()
def PySem.W.Fast.tw8701346838082441401 : Unit := ()
def PySem.W.Fast.tw12508826543705052949 : Unit := ()
def PySem.W.Fast.tw1948929125426693001 : Unit := ()
def PySem.W.Fast.tw14226185652430365827 : Unit := ()
def PySem.W.Fast.tw2102281228509460994 : Unit := ()
def PySem.W.Fast.tw5174914368839886725 : Unit := ()
def PySem.W.Fast.tw6967937651804525652 : Unit := ()
def PySem.W.Fast.tw3027027124813658301 : Unit := ()
def PySem.W.Fast.tw4123374715831459276 : Unit := ()
def PySem.W.Fast.tw4978312480367040346 : Unit := ()
def PySem.W.Fast.tw9341030737175323296 : Unit := ()
def PySem.W.Fast.tw17920078507665757717 : Unit := ()
def PySem.W.Fast.tw1835763848612545214 : Unit := ()
def PySem.W.Fast.tw2794795445160561052 : Unit := ()
def PySem.W.Fast.tw17142079753888799727 : Unit := ()
def PySem.W.Fast.tw10134950849785402958 : Unit := ()
def PySem.W.Fast.tw16686664445999354253 : Unit := ()
def PySem.W.Fast.tw3665979940918676959 : Unit := ()
def PySem.W.Fast.tw3558635005973578232 : Unit := ()
def PySem.W.Fast.tw8777890688235872092 : Unit := ()
def PySem.W.Fast.tw5987703985041761792 : Unit := ()
def PySem.W.Fast.tw8673717327972708755 : Unit := ()
def PySem.W.Fast.tw7141995437102393702 : Unit := ()
def PySem.W.Fast.tw9398552172133394463 : Unit := ()
def PySem.W.Fast.tw9759747598451485140 : Unit := ()
def PySem.W.Fast.tw10945099716714025300 : Unit := ()
def PySem.W.Fast.tw16389629278855487318 : Unit := ()
def PySem.W.Fast.tw14766140770656879356 : Unit := ()
def PySem.W.Fast.tw10815380757531010350 : Unit := ()
def PySem.W.Fast.tw15612460729700471264 : Unit := ()
def PySem.W.Fast.tw13479606356604619783 : Unit := ()
def PySem.W.Fast.tw6237351509741718479 : Unit := ()
def PySem.W.Fast.tw3684371512612623320 : Unit := ()
def PySem.W.Fast.tw12305434969402029036 : Unit := ()
def PySem.W.Fast.tw10392638757167924183 : Unit := ()
def PySem.W.Fast.tw5040063512886350742 : Unit := ()
def PySem.W.Fast.tw7270290668216695493 : Unit := ()
def PySem.W.Fast.tw3872760468693526516 : Unit := ()
def PySem.W.Fast.tw571739542570930082 : Unit := ()
def PySem.W.Fast.tw522138896328961714 : Unit := ()
def PySem.W.Fast.tw16422744131190017458 : Unit := ()
def PySem.W.Fast.tw839425978202469193 : Unit := ()
def PySem.W.Fast.tw14505189031332505355 : Unit := ()
def PySem.W.Fast.tw4603204844020286796 : Unit := ()
def PySem.W.Fast.tw14452890267386772576 : Unit := ()
def PySem.W.Fast.tw10883258344241943711 : Unit := ()
def PySem.W.Fast.tw15539506568657599559 : Unit := ()
def PySem.W.Fast.tw18267352619465574620 : Unit := ()
def PySem.W.Fast.tw4820446916319623828 : Unit := ()
def PySem.W.Fast.tw16447771495257669632 : Unit := ()
def PySem.W.Fast.tw7508861326321679768 : Unit := ()
def PySem.W.Fast.tw5266360722336631011 : Unit := ()
def PySem.W.Fast.tw6106251911254948064 : Unit := ()
def PySem.W.Fast.tw17401923451728148153 : Unit := ()
def PySem.W.Fast.tw15509896351365701194 : Unit := ()
def PySem.W.Fast.tw13037089564501879389 : Unit := ()
def PySem.W.Fast.tw1649281879906498906 : Unit := ()
def PySem.W.Fast.tw12154083229520911630 : Unit := ()
def PySem.W.Fast.tw13440892817001302021 : Unit := ()
def PySem.W.Fast.tw4023608049554359348 : Unit := ()
def PySem.W.Fast.tw10799013434140379372 : Unit := ()
def PySem.W.Fast.tw12881697723827139753 : Unit := ()
open PySem PySem.W PyProof.Rows
set_option maxRecDepth 100000 in
set_option maxHeartbeats 0 in
theorem PySem.Challenge.cw_factloom_k06_one_round_holds : PySem.Challenge.rw_factloom_k06_one_round.Holds := by
  w_on; o_law; k_head; (case hw => w_witness2)
  k_fill
  refine a8.walk (l := PySem.Challenge.rw_factloom_k06_one_round) rfl rfl (fun w h Y => PySem.W.kIn_of Y) ?F
  case F =>
    intro w mg fa h KX G hmg
    have F_is_blank := FL.dn (x := "is_blank") (st := a8.sD) KX G (by k_is) (by k_is) (by k_is) (by k_is)
    have F_filled := FL.dn (x := "filled") (st := a8.rM) KX G (by k_is) (by k_is) (by k_is) (by k_is)
    have F_matched := FL.dn (x := "matched") (st := a8.sS) KX G (by k_is) (by k_is) (by k_is) (by k_is)
    have F_is_guard := FL.dn (x := "is_guard") (st := a8.qN) KX G (by k_is) (by k_is) (by k_is) (by k_is)
    have F_blanks_in := FL.dn (x := "blanks_in") (st := a8.sE) KX G (by k_is) (by k_is) (by k_is) (by k_is)
    have F_holds := FL.dn (x := "holds") (st := a8.s_holds) KX G (by k_is) (by k_is) (by k_is) (by k_is)
    have F_askers_in := FL.dn (x := "askers_in") (st := a8.qa) KX G (by k_is) (by k_is) (by k_is) (by k_is)
    have F_guards_in := FL.dn (x := "guards_in") (st := a8.qQ) KX G (by k_is) (by k_is) (by k_is) (by k_is)
    have F_slots_of := FL.dn (x := "slots_of") (st := a8.rV) KX G (by k_is) (by k_is) (by k_is) (by k_is)
    have F_is_ready := FL.dn (x := "is_ready") (st := a8.qM) KX G (by k_is) (by k_is) (by k_is) (by k_is)
    have F_steps_for := FL.dn (x := "steps_for") (st := a8.sU) KX G (by k_is) (by k_is) (by k_is) (by k_is)
    have F_next_reasons := FL.dn (x := "next_reasons") (st := a8.qy) KX G (by k_is) (by k_is) (by k_is) (by k_is)
    have F_law_at := FL.dn (x := "_law_at") (st := a8.rX) KX G (by k_is) (by k_is) (by k_is) (by k_is)
    have F_law_whole := FL.dn (x := "_law_whole") (st := a8.qY) KX G (by k_is) (by k_is) (by k_is) (by k_is)
    have F_law_mixed := FL.dn (x := "_law_mixed") (st := a8.sM) KX G (by k_is) (by k_is) (by k_is) (by k_is)
    have F_law_is_fact := FL.dn (x := "_law_is_fact") (st := a8.rL) KX G (by k_is) (by k_is) (by k_is) (by k_is)
    have F_law_blanks_in := FL.dn (x := "_law_blanks_in") (st := a8.sN) KX G (by k_is) (by k_is) (by k_is) (by k_is)
    have F_law_places_fit := FL.dn (x := "_law_places_fit") (st := a8.rH) KX G (by k_is) (by k_is) (by k_is) (by k_is)
    have F_law_stands_ahead := FL.dn (x := "_law_stands_ahead") (st := a8.qO) KX G (by k_is) (by k_is) (by k_is) (by k_is)
    have F_law_same_facts := FL.dn (x := "_law_same_facts") (st := a8.sV) KX G (by k_is) (by k_is) (by k_is) (by k_is)
    have F_law_pool_by := FL.dn (x := "_law_pool_by") (st := a8.sx) KX G (by k_is) (by k_is) (by k_is) (by k_is)
    have F_law_fill_in := FL.dn (x := "_law_fill_in") (st := a8.qZ) KX G (by k_is) (by k_is) (by k_is) (by k_is)
    have F_law_true := FL.dn (x := "_law_true") (st := a8.sZ) KX G (by k_is) (by k_is) (by k_is) (by k_is)
    have F_law_menu_by := FL.dn (x := "_law_menu_by") (st := a8.sn) KX G (by k_is) (by k_is) (by k_is) (by k_is)
    have F_law_rules_by := FL.dn (x := "_law_rules_by") (st := a8.sF) KX G (by k_is) (by k_is) (by k_is) (by k_is)
    have F_law_choices := FL.dn (x := "_law_choices") (st := a8.rP) KX G (by k_is) (by k_is) (by k_is) (by k_is)
    have F_law_follows := FL.dn (x := "_law_follows") (st := a8.sI) KX G (by k_is) (by k_is) (by k_is) (by k_is)
    have F_law_first_ones := FL.dn (x := "_law_first_ones") (st := a8.sJ) KX G (by k_is) (by k_is) (by k_is) (by k_is)
    have F_law_as_it_was := FL.dn (x := "_law_as_it_was") (st := a8.rK) KX G (by k_is) (by k_is) (by k_is) (by k_is)
    have c_Step := a8.mw KX G (by k_is) (by k_is) (by k_is) (by k_is) (by k_is) (by k_is) (by k_is) (by k_is) (by k_is) (by k_is) (by k_is) (by k_is) (by k_is) (by k_is) (by k_is) (by k_is) (by k_is) (by k_is) (by k_is) (by k_is) (by k_is) (by k_is) (by k_is) (by k_is) (by k_is) (by k_is) (by k_is) (by k_is) (by k_is) (by k_is) (by k_is) (by k_is)
    have c_Loom := a8.mz KX G (by k_is) (by k_is) (by k_is) (by k_is) (by k_is) (by k_is) (by k_is) (by k_is) (by k_is) (by k_is) (by k_is) (by k_is) (by k_is) (by k_is) (by k_is) (by k_is) (by k_is) (by k_is) (by k_is) (by k_is) (by k_is) (by k_is) (by k_is) (by k_is) (by k_is) (by k_is) (by k_is) (by k_is) (by k_is) (by k_is) (by k_is) (by k_is) (by k_is) (by k_is) (by k_is) (by k_is) (by k_is)
    have c_Weaving := a8.pD KX G (by k_is) (by k_is) (by k_is) (by k_is) (by k_is) (by k_is) (by k_is) (by k_is) (by k_is) (by k_is) (by k_is) (by k_is) (by k_is) (by k_is) (by k_is) (by k_is) (by k_is) (by k_is) (by k_is) (by k_is) (by k_is) (by k_is) (by k_is) (by k_is) (by k_is)
    have B := a8.HL KX G (by k_is) (by k_is) (by k_is) (by k_is) (by k_is) (by k_is) (by k_is) (by k_is) (by k_is) (by k_is) (by k_is) (by k_is) (by k_is)
    have W := a8.DJ KX G hmg (by k_is) (by k_is) (by k_is) (by k_is)
    have u_LESS := a8.JS KX G (by k_is)
    have u_UNLIKE := a8.CV KX G (by k_is)
    have B_max := a8.Gj KX G (by k_is)
    obtain ⟨f_is_blank, d_is_blank, F_is_blank⟩ := F_is_blank
    obtain ⟨f_filled, d_filled, F_filled⟩ := F_filled
    obtain ⟨f_matched, d_matched, F_matched⟩ := F_matched
    obtain ⟨f_is_guard, d_is_guard, F_is_guard⟩ := F_is_guard
    obtain ⟨f_blanks_in, d_blanks_in, F_blanks_in⟩ := F_blanks_in
    obtain ⟨f_holds, d_holds, F_holds⟩ := F_holds
    obtain ⟨f_askers_in, d_askers_in, F_askers_in⟩ := F_askers_in
    obtain ⟨f_guards_in, d_guards_in, F_guards_in⟩ := F_guards_in
    obtain ⟨f_slots_of, d_slots_of, F_slots_of⟩ := F_slots_of
    obtain ⟨f_is_ready, d_is_ready, F_is_ready⟩ := F_is_ready
    obtain ⟨f_steps_for, d_steps_for, F_steps_for⟩ := F_steps_for
    obtain ⟨f_next_reasons, d_next_reasons, F_next_reasons⟩ := F_next_reasons
    obtain ⟨f_law_at, d_law_at, F_law_at⟩ := F_law_at
    obtain ⟨f_law_whole, d_law_whole, F_law_whole⟩ := F_law_whole
    obtain ⟨f_law_mixed, d_law_mixed, F_law_mixed⟩ := F_law_mixed
    obtain ⟨f_law_is_fact, d_law_is_fact, F_law_is_fact⟩ := F_law_is_fact
    obtain ⟨f_law_blanks_in, d_law_blanks_in, F_law_blanks_in⟩ := F_law_blanks_in
    obtain ⟨f_law_places_fit, d_law_places_fit, F_law_places_fit⟩ := F_law_places_fit
    obtain ⟨f_law_stands_ahead, d_law_stands_ahead, F_law_stands_ahead⟩ := F_law_stands_ahead
    obtain ⟨f_law_same_facts, d_law_same_facts, F_law_same_facts⟩ := F_law_same_facts
    obtain ⟨f_law_pool_by, d_law_pool_by, F_law_pool_by⟩ := F_law_pool_by
    obtain ⟨f_law_fill_in, d_law_fill_in, F_law_fill_in⟩ := F_law_fill_in
    obtain ⟨f_law_true, d_law_true, F_law_true⟩ := F_law_true
    obtain ⟨f_law_menu_by, d_law_menu_by, F_law_menu_by⟩ := F_law_menu_by
    obtain ⟨f_law_rules_by, d_law_rules_by, F_law_rules_by⟩ := F_law_rules_by
    obtain ⟨f_law_choices, d_law_choices, F_law_choices⟩ := F_law_choices
    obtain ⟨f_law_follows, d_law_follows, F_law_follows⟩ := F_law_follows
    obtain ⟨f_law_first_ones, d_law_first_ones, F_law_first_ones⟩ := F_law_first_ones
    obtain ⟨f_law_as_it_was, d_law_as_it_was, F_law_as_it_was⟩ := F_law_as_it_was
    obtain ⟨A_Step, c_Step, T_asker, T_shared, T_guards, T_offers, T_newest, ⟨f_Step_init, d_Step_init, F_Step_init⟩, ⟨f_Step_offer, d_Step_offer, F_Step_offer⟩, ⟨f_Step_allows, d_Step_allows, F_Step_allows⟩, ⟨f_Step_carry_on, d_Step_carry_on, F_Step_carry_on⟩⟩ := c_Step
    obtain ⟨A_Loom, c_Loom, TL_steps, TL_is_barred, TL_taken_in, TL_fresh, TL_last_fresh_step, ⟨f_Loom_init, d_Loom_init, F_Loom_init⟩, ⟨f_Loom_take_in, d_Loom_take_in, F_Loom_take_in⟩, ⟨f_Loom_beginnings, d_Loom_beginnings, F_Loom_beginnings⟩, ⟨f_Loom_is_whole, d_Loom_is_whole, F_Loom_is_whole⟩, ⟨f_Loom_carried_on, d_Loom_carried_on, F_Loom_carried_on⟩⟩ := c_Loom
    obtain ⟨A_Weaving, c_Weaving, TW_rules, TW_looms, TW_told, ⟨f_Weaving_given_by, d_Weaving_given_by, F_Weaving_given_by⟩, ⟨f_Weaving_one_round, d_Weaving_one_round, F_Weaving_one_round⟩, ⟨f_Weaving_init, d_Weaving_init, F_Weaving_init⟩⟩ := c_Weaving
    obtain ⟨t_LESS, c_LESS⟩ := u_LESS
    obtain ⟨t_UNLIKE, c_UNLIKE⟩ := u_UNLIKE
    obtain ⟨fd, hb, F_law⟩ := W
    exact ⟨fd, hb, fun base _ _ => a8.all_mk B F_law F_is_blank F_filled F_matched F_is_guard F_blanks_in F_holds F_askers_in F_guards_in F_slots_of F_is_ready F_steps_for F_next_reasons F_law_at F_law_whole F_law_mixed F_law_is_fact F_law_blanks_in F_law_places_fit F_law_stands_ahead F_law_same_facts F_law_pool_by F_law_fill_in F_law_true F_law_menu_by F_law_rules_by F_law_choices F_law_follows F_law_first_ones F_law_as_it_was F_Step_init F_Step_offer F_Step_allows F_Step_carry_on F_Loom_init F_Loom_take_in F_Loom_beginnings F_Loom_is_whole F_Loom_carried_on F_Weaving_given_by F_Weaving_one_round F_Weaving_init c_Step T_asker T_shared T_guards T_offers T_newest c_Loom TL_steps TL_is_barred TL_taken_in TL_fresh TL_last_fresh_step c_Weaving TW_rules TW_looms TW_told c_LESS c_UNLIKE B_max⟩
