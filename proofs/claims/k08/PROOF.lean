import PyProof.Rows.All
import Wide.All
import OpenK.AllK
import Wide.FinOn
import Lean
import PyProof.EqAt
import PyProof.EqKinds
import PyProof.TupleCall
import PyProof.CompFree
import PyProof.AttrMissHeap
import PyProof.ListNew
import PyProof.DictUpdate
import PyProof.DictList
import PyProof.FactsAll.dict_1
import PyProof.Rows.DictSet
import PyProof.Seq
import PyProof.TupleIter
import KE.KDictOf
import PyProof.NeKinds
import PyProof.ZipIter
import PyProof.EnumIter
import PyProof.EnumFor
import PyProof.EnumMake
import KE.KRevIter
import KE.KDictLaws
import PyProof.DictRoadsH
import KE.KDictList
import PyProof.ConsumeWalk
import PyProof.DictTruth
import PyProof.MinMaxWalk
import PyProof.WalkInts
import PyProof.WalksMore
import KE.KMinKey
import PyProof.Rows.CallKwBuiltin
import PyProof.Draws
import OpenK.KRaise
import OpenK.KOwn
import KE.KTryMore
import PyProof.StationsW
import PyProof.DictValues
import PyProof.FactsAll.dict_4
import PyProof.DictWalks
import PyProof.Rows.Range3
import KE.KIsAll
import PySem.Challenge.RW_factloom_k08_whole_rounds
set_option Elab.async false
set_option linter.all false
set_option maxRecDepth 100000
open List (mem_cons_of_mem mem_cons_self length_map getElem?_eq_getElem getElem?_set_ne mem_filter mem_map mem_cons getElem?_map mem_of_getElem? mem_append getElem?_set_self mem_append_right mem_append_left map_append map_map length_append length_cons length_take not_mem_nil take_of_length_le mem_singleton append_nil append_assoc map_cons filter_cons getElem?_append_left getElem?_append_right mem_flatten mem_reverse mem_flatMap length_set length_nil length_singleton filter_append getElem?_eq_none take_add_one map_congr_left filter_eq_self length_filter_le nodup_cons flatMap_cons cons_append getElem_mem filter_congr nodup_nil nodup_append all_eq_true any_eq_true mem_iff_getElem? take_length nil_append mem_range length_range all_cons zipIdx_cons set_set foldl_append flatMap_append)
set_option maxHeartbeats 4000000
abbrev ZT:=PySem.Value->PySem.Shared->Prop
abbrev ZU:=PySem.Str->Option PySem.Value
abbrev ZV:=List (PySem.Addr×PySem.Obj)
abbrev ZX:=List PySem.Addr
abbrev ZY:=List PySem.Str
def Z1{p:Prop}(h:p:=by decide):p:=h
def Z4{p:Prop}(h:p:=by omega):p:=h
def Z6{p:Prop}(h:p:=by k_is):p:=h
def Z8{p:Prop}(h:p:=by simp):p:=h
def Z9{p:Prop}(h:p:=by decide+kernel):p:=h
def Lv:=@List.mem_cons_of_mem
def Lw:=@PySem.wpAny_bind
def Lx:=@List.getElem?_eq_some_iff
def Ly:=@List.getElem?_eq_getElem
def Lz:=@List.mem_cons_self
def LA:=@List.length_map
def LB:=@List.getElem?_set_ne
def LC:=@PySem.Heap.get?_push_of_some
def LD:=@List.mem_of_getElem?
def LF:=@Nat.le_refl
def LG:=@if_neg
def LH:=@List.mem_append_right
def LI:=@Bool.false_ne_true
def LJ:=@if_pos
def LK:=@List.mem_cons
def LL:=@List.mem_append_left
def LM:=@List.getElem?_set_self
def LN:=@PySem.wpAny_pure
def LO:=@List.getElem?_map
def LP:=@List.mem_filter
def LQ:=@Option.some.inj
def LR:=@List.length_append
def LS:=@List.mem_map
def LU:=@List.size_toArray
def LV:=@decide_eq_true
def LW:=@of_decide_eq_true
def LY:=@List.mem_append
def LZ:=@List.getElem?_append_left
def L0:=@PySem.Heap.get?_push_size
def L1:=@PySem.Heap.lt_size
def L4:=@List.mem_singleton
def L8:=@Nat.le_trans
def L9:=@PySem.PassesOwn.never
def Ma:=@List.getElem?_append_right
def Mb:=@Nat.zero_le
def Mc:=@decide_eq_false
def Md:=@List.map_congr_left
def Me:=@List.map_append
def Mf:=@Nat.ne_of_lt
def Mh:=@List.take_of_length_le
def Mi:=@List.append_nil
def Mj:=@List.not_mem_nil
def Ml:=@List.length_filter_le
def Mm:=@List.take_add_one
def Mn:=@List.map_map
def Mo:=@Nat.lt_of_lt_of_le
def Mp:=@Nat.le_of_not_lt
def Mq:=@List.length_cons
def Mr:=@List.length_take
def Ms:=@Bool.eq_iff_iff
def Mt:=@List.mem_iff_getElem?
def Mu:=@List.map_cons
def Mv:=@List.mem_flatten
def Mw:=@List.append_assoc
def Mx:=@List.getElem?_eq_none
def My:=@PySem.W.mg_none_of
def Mz:=@Option.map_eq_some_iff
def MA:=@congrArg
def MB:=@of_decide_eq_false
def MC:=@Ne.symm
def MD:=@Bool.and_eq_true
def ME:=@or_false
def MF:=@Nat.le_add_right
def MG:=@List.filter_eq_self
def MH:=@PySem.wpAny_field
def MI:=@List.flatMap_cons
def MJ:=@PySem.wpAny_seqItems
def MK:=@List.find?_cons
def ML:=@beq_eq_false_iff_ne
def MM:=@List.flatten_cons
def MN:=@PySem.wpAny_callSpecial?_slot
def MO:=@List.take_length
def MP:=@PySem.W.kia_one
def MQ:=@List.length_singleton
def MR:=@List.lookup_cons
def MS:=@List.foldl_append
def MT:=@PySem.wpAny_truthy_bool
def MU:=@List.eq_nil_of_length_eq_zero
def MV:=@Nat.lt_irrefl
def MW:=@PySem.Heap.size_push
def MX:=@List.filter_append
def MY:=@Nat.zero_add
def MZ:=@PySem.F.slot_dict_setdefault
def M1:=@PySem.wpAny_mono
def M3:=@PyProof.Rows.boot_tuple
def M4:=@List.mem_flatMap
def M5:=@PyProof.Rows.callWith_type1
def M6:=@PySem.wpAny_newObj_type
def M7:=@PySem.Heap.get?_update_other
def M8:=@List.length_set
def M9:=@List.flatMap_singleton
def Na:=@PySem.tupleKind_room_in1
def Nb:=@PySem.F.args_dict_setdefault_3
def Nc:=@Nat.le_of_lt
def Nd:=@PySem.wpAny_holding
def Nf:=@List.filter_congr
def Ng:=@PySem.F.entry_dict_setdefault
def Nh:=@List.mem_reverse
def Ni:=@List.take_append_of_le_length
def Nj:=@PySem.wpAny_pyIter_list
def Nk:=@decide_eq_true_eq
def Nl:=@List.filter_map
def Nm:=@List.filterMap_cons
def Nn:=@List.flatten_append
def No:=@PySem.Calls.callWith_builtin
def Np:=@List.nodup_append
def Nq:=@List.filter_eq_nil_iff
def Nr:=@PySem.Paired.length
def Nt:=@List.filter_cons
def Nu:=@Nat.lt_succ_self
def Nv:=@PySem.wpAny_Call_Name_kw
def Nw:=@PySem.F.slot_tuple_iterator_next
def Nx:=@List.drop_eq_getElem_cons
def Ny:=@List.mem_or_eq_of_mem_set
def Nz:=@List.getElem?_eq_none_iff
def NA:=@PySem.wpAny_passesOwn
def NB:=@List.any_eq_false
def NC:=@Int.toNat_natCast
def ND:=@Nat.lt_succ_of_lt
def NE:=@List.ext_getElem?
def NF:=@Bool.or_eq_false_iff
def NG:=@PySem.W.set_slot
def NH:=@List.nodup_cons
def NI:=@List.length_nil
def NJ:=@List.cons.inj
def NK:=@List.nil_append
def NL:=@PyProof.Rows.slot_tuple_getitem
def NM:=@PySem.mem_of_lookup
def NN:=@PySem.Heap.SameBut.update
def NO:=@List.takeWhile_cons
def NP:=@PySem.wpAny_call_entry
def NQ:=@List.nodup_nil
def NR:=@PySem.F.plainAttrs_list
def NS:=@PySem.F.plain_max_loop
def NT:=@Nat.add_sub_cancel_left
def NU:=@List.flatten_nil
def NV:=@List.all_eq_true
def NW:=@List.getElem_mem
def NX:=@List.any_eq_true
def NY:=@Nat.ne_of_gt
def NZ:=@PySem.Calls.spliced_cons
def N0:=@PySem.call_meetsIn
def N3:=@Nat.lt_of_le_of_lt
def N4:=@List.drop_of_length_le
def N5:=@PyProof.Rows.boot_list
def N6:=@PySem.wpAny_setField_rec
def N7:=@List.takeWhile_sublist
def N8:=@Nat.min_eq_left
def N9:=@List.mem_zipIdx_iff_getElem?
def Oa:=@PySem.Heap.get?_update_self
def Ob:=@PyProof.Rows.boot_str
def Oc:=@List.take_append_drop
def Od:=@PySem.wpAny_letGo
def Oe:=@PySem.Around.under_plainId
def Of:=@PySem.wpAny_tryCatch
def Og:=@List.all_cons
def Oh:=@List.exists_cons_of_ne_nil
def Oi:=@List.length_drop
def Oj:=@List.map_nil
def Ol:=@List.map_id'
def Om:=@decide_eq_decide
def Oo:=@Array.length_toList
def Op:=@List.getElem?_take_of_lt
def Oq:=@PySem.F.args_tuple_add_2
def Ot:=@PySem.F.slot_list_getattribute
def Ou:=@PySem.plainId_quiet
def Ov:=@List.filterMap_cons_none
def Ow:=@List.idxOf_lt_length_iff
def Ox:=@if_true
def Oy:=@Option.map_some
def Oz:=@PySem.codeAny_builtin
def OA:=@PySem.wpAny_pyIter_tuple
def OB:=@List.mem_filterMap
def OC:=@beq_iff_eq
def OD:=@PySem.wpAny_rule
def OE:=@decide_eq_true_iff
def OF:=@Nat.add_sub_cancel
def OG:=@List.getElem_idxOf
def OH:=@PySem.F.entry_tuple_add
def OI:=@List.cons_append
def OJ:=@PySem.F.plainAttrs_dict
def OK:=@PySem.codeAny_mono
def OL:=@PySem.F.slot_tuple_add
def OM:=@PySem.F.slot_list_extend
def ON:=@Option.isSome_map
def OO:=@PySem.wpAny_pyIter_enum
def OP:=@List.drop_eq_nil_of_le
def OQ:=@PySem.F.slot_dict_get
def OR:=@List.getElem?_zipWith
def OS:=@PyProof.Rows.boot_int
def OT:=@beq_self_eq_true
def OU:=@Nat.min_eq_right
def OV:=@List.any_cons
def OW:=@Bool.and_true
def OX:=@Bool.true_and
def OY:=@PySem.W.mg_of
def OZ:=@PySem.Calls.evalArgs_plain
def O0:=@Bool.and_eq_true_iff
def O2:=@List.mem_of_mem_take
def O3:=@PySem.wpAny_execs_nil
def O4:=@List.of_mem_zip
def O6:=@PySem.wpAny_updateSeq
def O7:=@List.forIn_cons
def Pa:=@PySem.F.args_tuple_iterator_next_1
def Pb:=@PySem.F.slot_zip_next
def Pc:=@List.foldl_cons
def Pd:=@PySem.W.plainGet_of
def Pe:=@List.length_reverse
def Pf:=@List.mem_map_of_mem
def Pg:=@PySem.wpAny_typeOf
def Ph:=@PySem.F.entry_tuple_iterator_next
def Pj:=@PyProof.Rows.boot_enumerate
def Pk:=@List.all_map
def Pl:=@List.length_range
def Pm:=@List.idxOf_lt_length_of_mem
def Pn:=@PySem.Calls.Name_function_global
def Po:=@PySem.W.callWith_K
def Pp:=@Bool.and_false
def Pq:=@PySem.W.KFB.if_not
def Pr:=@Bool.false_eq_true
def Ps:=@PySem.wpAny_letOwnedTupleGo_enum
def Pt:=@List.flatMap_append
def Pu:=@List.filter_filter
def Pw:=@PySem.F.called_enumerate
def Px:=@List.length_zipIdx
def Py:=@List.pairwise_cons
def Pz:=@List.map_inj_right
def PB:=@List.mem_take_iff_getElem
def PD:=@List.getElem?_zip_eq_some
def PF:=@PySem.sizeLine_eq
def PH:=@PySem.Calls.spliced_nil
def PJ:=@PySem.wpAny_standAt
def PL:=@Option.isSome_iff_exists
def PM:=@Bool.or_false
def PN:=@List.filterMap_cons_some
def PP:=@PySem.F.slot_dict_values
def PQ:=@List.sum_cons
def PR:=@List.map_take
def PU:=@PySem.F.type_list_extend
def PV:=@PyProof.Rows.vals1
def PX:=@PySem.noFill_tuple_add
def PY:=@if_false
def PZ:=@Option.getD_none
def P0:=@PySem.F.args_dict_get_3
def P1:=@decide_eq_false_iff_not
def P2:=@List.map_reverse
def P4:=@List.filter_cons_of_neg
def P5:=@Nat.lt_add_of_pos_right
def P6:=@Nat.le_of_eq
def P7:=@PySem.W.cellsFrom_some
def P8:=@PySem.F.entry_dict_get
def P9:=@PyProof.Rows.boot_dict
def Qa:=@Nat.succ_mul
def Qb:=@Int.emod_nonneg
def Qc:=@List.cons.injEq
def Qd:=@List.sum_append
def Qe:=@PySem.W.methodCall_KW
def Qf:=@Array.getElem?_toList
def Qg:=@PyProof.Rows.boot_max
def Qh:=@Sum.inr.inj
def Qi:=@PySem.wpAny_listPart
def Qj:=@PySem.wpAny_of_eq
def Qk:=@List.zipIdx_cons
def Ql:=@List.getElem?_zipIdx
def Qm:=@List.Pairwise.filter
def Qn:=@List.take_zero
def Qo:=@List.mem_range
def Qp:=@List.foldl_max
def Qq:=@List.take_nil
def Qr:=@PySem.call_meets
def Qs:=@List.set_set
def Qt:=@Nat.sub_zero
def Qu:=@Nat.add_comm
def Qv:=@Int.zero_add
def Qw:=@Nat.sub_self
def Qx:=@not_or
def Qy:=@Nat.le_succ
def Qz:=@Prod.mk.inj
namespace L2
open PySem PySem.Spec PyProof.Rows
abbrev aK:=Sum Int Str
def mz:aK->Value->Bool
 |.inl k,v=>Value.isInt k v
 |.inr x,v=>Value.isStrOf x v
def Hg (w:World):aK->Int
 |.inl k=>hashInt k
 |.inr x=>hashStr w x
def jg:∀{k:aK} {v:Value},mz k v=true->(∃i t,k=Sum.inl i/\v=Value.int i t)\/(∃x t,k=Sum.inr x/\v=Value.str x t)
 |.inl i,v,h=>by
  obtain ⟨t,e⟩:=Value.isInt_shape (k:=i) (v:=v) h
  exact .inl ⟨i,t,rfl,e⟩
 |.inr x,v,h=>by
  obtain ⟨t,e⟩:=Value.isStrOf_shape (x:=x) (v:=v) h
  exact .inr ⟨x,t,rfl,e⟩
def IY (i:Int)(t:Tok):mz (.inl i) (.int i t)=true:=by simp [mz,Value.isInt]
def FQ (x:Str)(t:Tok):mz (.inr x) (.str x t)=true:=by simp [mz,Value.isStrOf]
def FA (a b:Int):decide ((Sum.inl a:aK)=Sum.inl b)=(a==b):=by
 by_cases e:a=b
 .subst e;simp
 .have h:¬(Sum.inl a:aK)=Sum.inl b:=λq=>e (Sum.inl.inj q)
  rw [Mc h]
  exact (ML.mpr e).symm
def Kw (a b:Str):decide ((Sum.inr a:aK)=Sum.inr b)=decide (a=b):=by
 by_cases e:a=b
 .subst e;simp
 .have h:¬(Sum.inr a:aK)=Sum.inr b:=λq=>e (Qh q)
  rw [Mc h,Mc e]
def FW (a:Int)(b:Str):decide ((Sum.inl a:aK)=Sum.inr b)=false:=Mc λq=>nomatch q
def Fw (a:Str)(b:Int):decide ((Sum.inr a:aK)=Sum.inl b)=false:=Mc λq=>nomatch q
def du (prog:Program)(w:World):PySem.KeyKind prog w aK where
 is:=mz
 hash:=Hg w
 inj:=λv a b ha hb=>by
  rcases jg ha with ⟨i,t,rfl,rfl⟩|⟨x,t,rfl,rfl⟩
  .rcases jg hb with ⟨j,u,rfl,e⟩|⟨y,u,rfl,e⟩
   .injection e with e1 _;rw [e1]
   .exact nomatch e
  .rcases jg hb with ⟨j,u,rfl,e⟩|⟨y,u,rfl,e⟩
   .exact nomatch e
   .injection e with e1 _;rw [e1]
 byValue:=λk v h=>by
  rcases jg h with ⟨i,t,rfl,rfl⟩|⟨x,t,rfl,rfl⟩<;>rfl
 pyHash:=λhv h=>by
  rcases jg hv with ⟨i,t,rfl,rfl⟩|⟨x,t,rfl,rfl⟩
  .exact wpAny_pyHash_int h
  .exact wpAny_pyHash_str h
 eqBool:=λhu hv h=>by
  rcases jg hu with ⟨i,t,rfl,rfl⟩|⟨x,t,rfl,rfl⟩
  .rcases jg hv with ⟨j,u,rfl,rfl⟩|⟨y,u,rfl,rfl⟩
   .rw [FA] at h;exact wpAny_eqBool_int h
   .rw [FW] at h;exact SeqAt.EqAt.int_str i t y u _ _ _ _ h
  .rcases jg hv with ⟨j,u,rfl,rfl⟩|⟨y,u,rfl,rfl⟩
   .rw [Fw] at h;exact SeqAt.EqAt.str_int x t j u _ _ _ _ h
   .rw [Kw] at h;exact wpAny_eqBool_str h
 «strs»:=λk x t v h=>by
  rcases jg h with ⟨i,u,rfl,e⟩|⟨y,u,rfl,e⟩
  .exact nomatch e
  .injection e with e1 _
   subst e1
   cases v<;>rfl
def IA (a:Program)(w:World)(k:aK)(v:Value):(du a w).is k v=mz k v:=rfl
def G4 (a:Program)(w:World)(i:Int)(t:Tok):(du a w).is (.inl i) (.int i t)=true:=IY i t
def Fx (a:Program)(w:World)(x:Str)(t:Tok):(du a w).is (.inr x) (.str x t)=true:=FQ x t
end L2
namespace L2
open PySem PySem.Spec PyProof.Rows
inductive V where
 |av|bl (b:Bool)|int (i:Int)|str (x:Str)|gr (b:Array UInt8)|my (b:UInt64)|ref (a:Addr)|ty (n:String)
 deriving DecidableEq
def RelV:V->Value->Prop
 |.av,u=>u=Value.none
 |.bl b,u=>u=Value.bool b
 |.int i,u=>∃t,u=Value.int i t
 |.str x,u=>∃t,u=Value.str x t
 |.gr b,u=>∃t,u=Value.bytes b t
 |.my b,u=>∃t,u=Value.float b t
 |.ref a,u=>u=Value.ref a
 |.ty n,u=>u=Value.type n
abbrev a9:List V->List Value->Prop:=Paired RelV
theorem a9.length(r:a9 a b):a.length=b.length:=Nr r
theorem a9.get:∀{a:List V} {b:List Value} {i:Nat} {x:V},a9 a b->a[i]?=some x->∃u,b[i]?=some u/\RelV x u
 |_,_,_,_,.nil,e=>by simp at e
 |_,_,0,_,.cons r _,e=>by simp at e;subst e;exact ⟨_,rfl,r⟩
 |_,_,i+1,x,.cons _ t,e=>by
  obtain ⟨u,c,d⟩:=a9.get (i:=i) (x:=x) t (by simpa using e)
  exact ⟨u,by simpa using c,d⟩
theorem a9.append:∀{a b:List V} {c d:List Value},a9 a c->a9 b d->a9 (a++b) (c++d)
 |_,_,_,_,.nil,s=>s
 |_,_,_,_,.cons r t,s=>.cons r<|a9.append t s
theorem a9.take:∀{a:List V} {b:List Value} (n:Nat),a9 a b->a9 (a.take n) (b.take n)
 |_,_,0,_=>.nil
 |_,_,_+1,.nil=>.nil
 |_,_,n+1,.cons r t=>.cons r<|a9.take n t
theorem a9.drop:∀{a:List V} {b:List Value} (n:Nat),a9 a b->a9 (a.drop n) (b.drop n)
 |_,_,0,r=>r
 |_,_,_+1,.nil=>.nil
 |_,_,n+1,.cons _ t=>a9.drop n t
def eo:Option V->Option Value->Prop
 |some v,some u=>RelV v u
 |none,none=>True
 |_,_=>False
def KV {κ:Type}:List (κ×V)->List (κ×Value)->Prop:=Paired λ(p:κ×V) (q:κ×Value)=>p.1=q.1/\RelV p.2 q.2
def kV:aK->V
 |.inl i=>.int i
 |.inr x=>.str x
inductive HO where
 |lst (xs:List V)
 |tup (xs:List V)
 |dK (kvs:List (aK×V))|dT (kvs:List (List aK×V))
 |set (S:Int->Bool) (n:Nat)
 |ins (C dx:Addr) (fs:List (Str×V))
 |own (x:Addr)
 |xd (fs:List (Str×V))
 |met (f x:Addr)
 |vK (lo hi:Int)
 |cO (o:Obj) (u:HO)
 |jN (ps:Array Value)
 |ext (φ:Heap->Prop)
abbrev Hp:=Addr->Option HO
def upd (H:Hp)(a:Addr)(o:HO):Hp:=λb=>if b=a then some o else H b
def aR:upd H a o a=some o:=by unfold upd;rw [LJ rfl]
def aA(h:b≠a):upd H a o b=H b:=by unfold upd;rw [LG h]
def A7{H:Hp}(h:H a=some o)(c:H b=some u)(d:o≠u):a≠b:=by
 intro e;subst e;rw [h] at c;exact d<|LQ c
def da{H:Hp}(h:H a=some o)(c:H b=none):a≠b:=by
 intro e;subst e;rw [h] at c;cases c
section
variable (P:Program)(w:World)
def bX (H:Hp)(h:Heap)(a:Addr):HO->Prop
 |.lst xs=>xs.length<=sizeLine/\∃(its:List Value) (n:Nat),a9 xs its/\h.get? a=some {cls:=.type "list",data:=.seq its.toArray n}
 |.tup xs=>xs.length<=sizeLine/\∃its:List Value,a9 xs its/\IsTup h a its.toArray
 |.dK kvs=>kvs.length<=sizeLine/\(a==sysModules)=false/\∃vs,KV kvs vs/\h.DictOf (du P w) a vs
 |.dT kvs=>kvs.length<=sizeLine/\(a==sysModules)=false/\∃xs:List (List aK×Addr×Value),
   Paired (λ(p:List aK×V) (q:List aK×Addr×Value)=>p.1=q.1/\H q.2.1=some (.tup (p.1.map kV))/\RelV p.2 q.2.2) kvs xs/\
   ∃o es ep,h.get? a=some o/\o.ExactDict/\o.data=.dict es ep/\es.toList=xs.map (entryOfKey (tupleKind (du P w)))/\(xs.map (·.1)).Nodup
 |.set S n=>h.SetOf (intKind P w) a S n
 |.ins C dx fs=>H dx=some (.own a)/\fs.length<=1000/\dx≠a/\h.get? a=some (PySem.W.instObj C dx)/\
   ∃mA,h.Ns1 dx mA/\(∀f,eo (fs.lookup f) (mA f))/\PySem.Within mA (fs.map (·.1))
 |.own _=>∃o,h.get? a=some o
 |.xd fs=>∃mA,h.Ns1 a mA/\∀f,eo (fs.lookup f) (mA f)
 |.vK lo hi=>∃t u v,h.get? a=some {cls:=.type "range",data:=.fields #[.int lo t,.int hi u,.int 1 v]}
 |.cO o u=>h.get? a=some o/\bX H h a u
 |.jN ps=>h.get? a=some {cls:=.none,data:=.fields ps}
 |.met f x=>h.get? a=some (PySem.W.methodObj (.ref f) (.ref x))
 |.ext φ=>φ h/\(∃o,h.get? a=some o)/\∀h1 h2:Heap,φ h1->(∀o,h1.get? a=some o->h2.get? a=some o)->φ h2
def cT (H:Hp)(h:Heap):Prop:=∀a o,H a=some o->bX P w H h a o
end
section
variable {P:Program}{w:World}{H H':Hp}{h h':Heap}{a:Addr}{o:HO}
theorem bX.lt (x:bX P w H h a o):a<h.objs.size:=by
 cases o with
 |lst c=>obtain ⟨_,_,_,_,e⟩:=x;exact L1 e
 |tup c=>obtain ⟨_,_,_,p⟩:=x;exact p.lt
 |dK b=>obtain ⟨_,_,_,_,o,_,_,e,_⟩:=x;exact L1 e
 |dT b=>obtain ⟨_,_,_,_,o,_,_,e,_⟩:=x;exact L1 e
 |set S n=>obtain ⟨o,_,_,_,e,_⟩:=x;exact L1 e
 |ins C g d=>obtain ⟨_,_,_,e,_⟩:=x;exact L1 e
 |own y=>obtain ⟨_,e⟩:=x;exact L1 e
 |xd d=>obtain ⟨_,⟨_,_,_,e,_⟩,_⟩:=x;exact L1 e
 |vK lo i=>obtain ⟨_,_,_,e⟩:=x;exact L1 e
 |cO j u=>obtain ⟨e,_⟩:=x;exact L1 e
 |jN k=>exact L1 (show h.get? a=some _ from x)
 |met f y=>exact L1 (show h.get? a=some _ from x)
 |ext l=>obtain ⟨_,⟨_,e⟩,_⟩:=x;exact L1 e
theorem Paired.uz{G:e->g->Prop}:∀{c:List e} {d:List g},Paired F c d->(∀a b,F a b->G a b)->Paired G c d
 |_,_,.nil,_=>.nil
 |_,_,.cons r t,f=>.cons (f _ _ r)<|Paired.uz t f
def bX.kB (x:bX P w H h a o)(k:∀b u,(b=a\/H b=some (.own a))->h.get? b=some u->h'.get? b=some u)
  (G:∀b,H b=some (.own a)->H' b=some (.own a)) (I:∀b m,H b=some (.tup m)->H' b=some (.tup m)):bX P w H' h' a o:=by
 induction o with
 |lst m=>obtain ⟨z,l,n,r,e⟩:=x;exact ⟨z,l,n,r,k _ _ (.inl rfl) e⟩
 |tup m=>obtain ⟨z,l,r,g,e,c⟩:=x;exact ⟨z,l,r,g,k _ _ (.inl rfl) e,c⟩
 |dK s=>obtain ⟨z,y,J,r,g,i,j,e,c⟩:=x;exact ⟨z,y,J,r,g,i,j,k _ _ (.inl rfl) e,c⟩
 |dT s=>
  obtain ⟨z,y,m,r,g,i,j,e,c⟩:=x
  exact ⟨z,y,m,Paired.uz r λp q z=>⟨z.1,I _ _ z.2.1,z.2.2⟩,g,i,j,k _ _ (.inl rfl) e,c⟩
 |set S n=>obtain ⟨g,i,j,t,e,c⟩:=x;exact ⟨g,i,j,t,k _ _ (.inl rfl) e,c⟩
 |ins C Q L=>
  obtain ⟨d,z,M,e,A,⟨B,i,j,N,c⟩,r⟩:=x
  exact ⟨G _ d,z,M,k _ _ (.inl rfl) e,A,⟨B,i,j,k _ _ (.inr d) N,c⟩,r⟩
 |own y=>obtain ⟨g,e⟩:=x;exact ⟨g,k _ _ (.inl rfl) e⟩
 |xd L=>obtain ⟨A,⟨B,i,j,e,c⟩,r⟩:=x;exact ⟨A,⟨B,i,j,k _ _ (.inl rfl) e,c⟩,r⟩
 |vK lo T=>obtain ⟨t,u,v,e⟩:=x;exact ⟨t,u,v,k _ _ (.inl rfl) e⟩
 |cO g u O=>obtain ⟨e,q⟩:=x;exact ⟨k _ _ (.inl rfl) e,O q⟩
 |jN E=>
  have e:h.get? a=some {cls:=.none,data:=.fields E}:=x
  show h'.get? a=some {cls:=.none,data:=.fields E}
  exact k a _ (.inl rfl) e
 |met f y=>
  have e:h.get? a=some (W.methodObj (.ref f) (.ref y)):=x
  show h'.get? a=some (W.methodObj (.ref f) (.ref y))
  exact k a _ (.inl rfl) e
 |ext U=>obtain ⟨p,⟨o,e⟩,st⟩:=x;exact ⟨st _ _ p λo q=>k _ _ (.inl rfl) q,⟨o,k _ _ (.inl rfl) e⟩,st⟩
theorem cT.lt (x:cT P w H h)(e:H a=some o):a<h.objs.size:=(x a o e).lt
def cT.fresh (x:cT P w H h)(e:h.objs.size<=a):H a=none:=by
 cases q:H a with
 |none=>rfl
 |some u=>exact absurd (Mo (x.lt q) e)<|MV _
def cT.kept (x:cT P w H h)(k:∀b u,h.get? b=some u->h'.get? b=some u):cT P w H h':=λa o e=>
 (x a o e).kB (λb u _ q=>k b u q) (λ_ q=>q) λ_ _ q=>q
def cT.laid (x:cT P w H h)(k:∀b u,h.get? b=some u->h'.get? b=some u)(i:h.objs.size<=a)(d:bX P w (upd H a o) h' a o):cT P w (upd H a o) h':=λb u e=>by
 have f:=x.fresh i
 by_cases g:b=a
 .subst g;rw [aR] at e;cases e;exact d
 .rw [aA g] at e
  exact (x b u e).kB (λc v _ q=>k c v q) (λc q=>by rw [aA<|da q f];exact q) λc j q=>by rw [aA<|da q f];exact q
end
def Rd (H:Hp)(a:Addr)(u:HO):Prop:=H a=some u\/∃o,H a=some (.cO o u)
def Rd.of{H:Hp}(h:H a=some u):Rd H a u:=.inl h
def Rd.ok(r:Rd H a u)(x:cT P w H h):bX P w H h a u:=by
 rcases r with r|⟨o,r⟩
 .exact x a u r
 .obtain ⟨_,q⟩:=x a _ r
  exact q
def pi:Option HO->Prop
 |some (.lst _)=>True
 |some (.dK _)=>True
 |some (.dT _)=>True
 |some (.set _ _)=>True
 |some (.ins _ _ _)=>True
 |some (.ext _)=>True
 |_=>False
section
variable {P:Program}{w:World}{H:Hp}{h h':Heap}{x e:Addr}{o':HO}
def cT.write (s:cT P w H h)(g:pi (H x))(o:e=x\/H e=some (.own x))(k:∀b u,b≠e->h.get? b=some u->h'.get? b=some u)(m:∃u,h'.get? e=some u)
  (n:bX P w (upd H x o') h' x o'):cT P w (upd H x o') h':=λb u q=>by
 have d:∀c y,H c=some (.own y)->c≠x:=λc y r z=>by subst z;rw [r] at g;exact g
 have f:∀c i,H c=some (.tup i)->c≠x:=λc i r z=>by subst z;rw [r] at g;exact g
 by_cases j:b=x
 .subst j;rw [aR] at q;cases q;exact n
 .rw [aA j] at q
  by_cases a:b=e
  .have p:H b=some (.own x):=by
    rcases o with z|z
    .exact absurd (a.trans z) j
    .rw [a];exact z
   rw [q] at p;cases p
   obtain ⟨v,t⟩:=m
   exact ⟨v,by rw [a];exact t⟩
  .refine (s b u q).kB (λc v l r=>k c v ?_ r) (λc r=>by rw [aA<|d c b r];exact r) λc i r=>by rw [aA<|f c i r];exact r
   rcases l with rfl|l
   .exact a
   .rintro rfl
    rcases o with z|z
    .exact d c b l z
    .rw [l] at z;cases z;exact j rfl
end
structure Un (fs ex:List Addr)(H H':Hp)(h h':Heap):Prop where
 keep:∀b o,h.get? b=some o->H b=none->b∉fs->b∉ex->h'.get? b=some o
 slot:∀b o,h.get? b=some o->H b=none->b∈fs->b∉ex->∃sl,h'.get? b=some {o with slots:=sl}
 free:∀b o,h.get? b=some o->H b=none->b∉ex->H' b=none
 there:∀b o,h.get? b=some o->b∉ex->∃o',h'.get? b=some o'
 iA:∀b xs,H b=some (.tup xs)->H' b=some (.tup xs)
 ik:∀b o u,H b=some (.cO o u)->H' b=some (.cO o u)
 iW:∀b ps,H b=some (.jN ps)->∃more,H' b=some (.jN (ps++more))
section
variable {fs fs' ex ex':List Addr}{H H1 H2:Hp}{h h1 h2 h':Heap}{a x e:Addr}{o:HO}
def Un.any(u:Un fs ex H H1 h h1)(q:h.get? b=some c)(n:H b=none)(d:b∉ex):∃g,h1.get? b=some {c with slots:=g}:=by
 by_cases f:b∈fs
 .exact u.slot b c q n f d
 .exact ⟨c.slots,u.keep b c q n f d⟩
def Un.kept (k:∀b u,h.get? b=some u->h'.get? b=some u):Un fs ex H H h h':=
 ⟨λb c q _ _ _=>k b c q,λb c q _ _ _=>⟨c.slots,k b c q⟩,λ_ _ _ n _=>n,λb c q _=>⟨c,k b c q⟩,λ_ _ q=>q,λ_ _ _ q=>q,λ_ d q=>⟨#[],by rw [q];simp⟩⟩
def Un.refl:Un fs ex H H h h:=Un.kept λ_ _ q=>q
def Un.laid (k:∀b u,h.get? b=some u->h'.get? b=some u)(hp:h.objs.size<=a)(hn:H a=none):Un fs ex H (upd H a o) h h' where
 keep:=λb u q _ _ _=>k b u q
 slot:=λb u q _ _ _=>⟨u.slots,k b u q⟩
 free:=λb u q n _=>by rw [aA<|Mf<|Mo (L1 q) hp];exact n
 there:=λb u q _=>⟨u,k b u q⟩
 iA:=λb xs q=>by rw [aA<|da q hn];exact q
 ik:=λb u xs q=>by rw [aA<|da q hn];exact q
 iW:=λb ps q=>⟨#[],by rw [aA<|da q hn,q];simp⟩
def Un.write (d:pi (H x))(l:e=x\/H e=some (.own x))(k:∀b u,b≠e->h.get? b=some u->h'.get? b=some u)(f:∃u,h'.get? e=some u):Un fs ex H (upd H x o) h h':=by
 have i:∀b,H b=none->b≠x:=λb n z=>by subst z;rw [n] at d;exact d
 have j:∀b,H b=none->b≠e:=λb n z=>by
  subst z
  rcases l with r|r
  .exact i b n r
  .rw [n] at r;cases r
 have g:∀b u,H b=some u->¬pi (some u)->b≠x:=λb u q m z=>by subst z;rw [q] at d;exact m d
 refine ⟨λb u q n _ _=>k b u (j b n) q,λb u q n _ _=>⟨u.slots,k b u (j b n) q⟩,λb u q n _=>by rw [aA<|i b n];exact n,λb u q _=>?_,
  λb p q=>by rw [aA<|g b _ q λz=>z];exact q,λb u p q=>by rw [aA<|g b _ q λz=>z];exact q,λb s q=>⟨#[],by rw [aA<|g b _ q λz=>z,q];simp⟩⟩
 by_cases c:b=e
 .subst c;exact f
 .exact ⟨u,k b u c q⟩
end
def rH (h:Heap)(H:Hp):List Addr:=(List.range h.objs.size).filter λa=>(H a).isSome
def ka (h:Heap)(H:Hp):Heap:=PySem.W.hideAll h (rH h H)
def DC (h:Heap)(H:Hp):(ka h H).objs.size=h.objs.size:=W.hideAll_size _ _
def JZ{h:Heap}{H:Hp}(e:h.get? b=some o)(n:H b=none):(ka h H).get? b=some o:=
 W.hideAll_get _ e λa=>by
  have q:(H b).isSome=true:=(LP.mp a).2
  rw [n] at q;simp at q
def Iu(e:(ka h H).get? b=some o):h.get? b=some o/\H b=none:=by
 have a:h.get? b=some o:=W.of_hideAll (rH h H) e
 refine ⟨a,?_⟩
 cases q:H b with
 |none=>rfl
 |some x=>
  have c:b∈rH h H:=LP.mpr ⟨Qo.mpr<|L1 a,by simp [q]⟩
  have z:(ka h H).get? b=none:=W.hideAll_none (rH h H) c
  rw [z] at e;cases e
end L2
namespace L2
open PySem PySem.Spec PyProof.Rows
structure Mod (K:PySem.W.Frag)(mg:Str->Option Value)(base:Heap):Prop where
 qo:K.In base
 glob:base.Ns mainGlobals mg
 blt:∃mb,base.Ns builtinsNs mb/\∀x:Str,x≠"__name__"->mb x=bootBuiltins x
 nolimit:base.NoLimit
structure Cx where
 prog:Program
 w:World
 K:PySem.W.Frag
 mg:Str->Option Value
 base:Heap
 A:Around
 N:List Str
 s₀:Shared
 H₀:Hp
 env:Env
 outer:List Env
 stack:List Env
 ex:List Addr
 fn:Str->Bool
 calm:Bool
 pn:List (Addr×Obj)
 xe:Value->Shared->Prop
def hU (l:List Env):List Addr:=l.filterMap (·.frame)
abbrev Cx.fs (X:Cx):List Addr:=hU X.outer
def pK (sc:Scope)(x:Str):Prop:=sc.names.lookup x=some .local\/sc.names.lookup x=some .cell\/sc.names.lookup x=some .free
def Loc (sc:Scope)(x:Str):Prop:=sc.names.lookup x=some .local\/sc.names.lookup x=some .cell
def Look (env:Env)(h:Heap)(m:Str->Option Value)(x:Str)(u:Value):Prop:=
 (env.kindOf x=some .local/\m x=some u)\/((env.kindOf x=some .cell\/env.kindOf x=some .free)/\∃c,env.cells.lookup x=some c/\h.IsCell c (some u))
structure Cx.Ok (X:Cx):Prop where
 mod:Mod X.K X.mg X.base
 kind:X.env.scope.kind=.function
 glob:X.env.globals=mainGlobals
 blt:X.env.builtins=builtinsNs
 above:X.s₀.heap.objs.size<=X.env.locals
 inj:∀x y c,X.env.cells.lookup x=some c->X.env.cells.lookup y=some c->x=y
 has:∀x,(X.env.kindOf x=some .cell\/X.env.kindOf x=some .free)->∃c,X.env.cells.lookup x=some c
 oA:∀x c,X.fn x=true->X.env.cells.lookup x=some c->X.s₀.heap.objs.size<=c
 hd:X.calm=true->X.A.handled=none
 frames:X.A.frames=some X.stack
 pb:X.stack=X.outer\/(X.stack=X.env::X.outer/\X.env.frame=some X.env.locals)
 wA:∀b∈X.ex,b≠X.env.locals/\∀x c,X.env.cells.lookup x=some c->c≠b
 bs:∀b o,X.base.get? b=some o->X.s₀.heap.get? b=some o/\X.H₀ b=none
 kC:X.base.objs.size<=X.s₀.heap.objs.size
 ng:∀b o,X.base.get? b=some o->b∉X.ex
 oI:∀b∈X.ex,b∉X.fs
 gN:X.s₀.heap.FunFrames X.base X.outer
 lj:∀b∈X.fs,X.H₀ b=none
structure Inv (X:Cx)(pins:List (Addr×Obj))(σ:List (Option V))(H:Hp)(s:Shared):Prop where
 ok:X.Ok
 os:s.os=X.s₀.os
 bare:AllBare s.gens
 base:Un X.fs X.ex X.H₀ H X.s₀.heap s.heap
 loc:∃m,s.heap.Ns X.env.locals m/\∀(i:Nat) (x:Str) (v:V),X.N[i]?=some x->σ[i]?=some (some v)->pK X.env.scope x->∃u,RelV v u/\Look X.env s.heap m x u
 cell:∀x c,X.env.cells.lookup x=some c->∃v,s.heap.IsCell c v
 free:H X.env.locals=none
 gT:∀x c,X.env.cells.lookup x=some c->H c=none
 pin:∀p∈X.pn++pins,s.heap.get? p.1=some p.2/\H p.1=none/\p.1≠X.env.locals/\p.1∉X.fs/\∀v,p.2.data≠.cell v
 az:cT X.prog X.w H s.heap
 len:σ.length=X.N.length
section
variable {X:Cx}{pins:List (Addr×Obj)}{σ:List (Option V)}{H H':Hp}{s:Shared}{h':Heap}
def Cx.Ok.Jo(a:X.Ok)(e:X.base.get? b=some o):b∉X.fs:=λc=>by
 have:=(a.gN.mem c).1
 rw [e] at this;cases this
theorem Inv.bs (I:Inv X pins σ H s):∀b o,X.base.get? b=some o->s.heap.get? b=some o/\H b=none:=λb o e=>
 ⟨I.base.keep b o (I.ok.bs b o e).1 (I.ok.bs b o e).2 (I.ok.Jo e)<|I.ok.ng b o e,I.base.free b o (I.ok.bs b o e).1 (I.ok.bs b o e).2<|I.ok.ng b o e⟩
def Inv.bk (I:Inv X pins σ H s):∀b o,X.base.get? b=some o->s.heap.get? b=some o:=λb o e=>(I.bs b o e).1
theorem Inv.mod (I:Inv X pins σ H s):Mod X.K X.mg X.base:=I.ok.mod
def Inv.dE (I:Inv X pins σ H s):X.K.In s.heap:=I.ok.mod.qo.keeps I.bk
theorem Inv.lt (I:Inv X pins σ H s):X.env.locals<s.heap.objs.size:=let ⟨_,a,_⟩:=I.loc;a.lt
def Inv.sz (I:Inv X pins σ H s):X.s₀.heap.objs.size<=s.heap.objs.size:=L8 I.ok.above<|Nc I.lt
def Inv.Dr(I:Inv X pins σ H s)(h:s.heap.objs.size<=a):a∉X.fs:=λb=>by
 obtain ⟨_,o,c,_⟩:=I.ok.gN.mem b
 exact absurd (Mo (L1 c)<|L8 I.sz h)<|MV _
def Inv.kh (I:Inv X pins σ H s):∀x c,X.env.cells.lookup x=some c->c≠X.env.locals:=λx c e z=>by
 obtain ⟨v,o,d,f⟩:=I.cell x c e
 obtain ⟨m,⟨g,h,i,a,b,_⟩,_⟩:=I.loc
 rw [z,a] at d;cases d;rw [b] at f;cases f
theorem Inv.gN (I:Inv X pins σ H s):s.heap.FunFrames X.base X.outer:=by
 have all:∀(l:List Env),(∀b∈hU l,b∈X.fs)->X.s₀.heap.FunFrames X.base l->s.heap.FunFrames X.base l:=by
  intro l
  induction l with
  |nil=>intro _ _;trivial
  |cons g r h=>
   intro f i
   obtain ⟨j,⟨L,o,a,k,m,n⟩,p⟩:=i
   have c:L∈X.fs:=f L (by unfold hU;rw [Nm,a];exact Lz)
   obtain ⟨q,e⟩:=I.base.slot L o m (I.ok.lj L c) c λz=>I.ok.oI L z c
   exact ⟨j,⟨L,_,a,k,e,n⟩,h (λb d=>f b (by unfold hU;rw [Nm,a];exact Lv _ d)) p⟩
 exact all X.outer (λ_ d=>d) I.ok.gN
theorem Inv.stack (I:Inv X pins σ H s):s.heap.FunFrames X.base X.stack:=by
 rcases I.ok.pb with e|⟨e,a⟩
 .rw [e];exact I.gN
 .rw [e]
  obtain ⟨m,b,_⟩:=I.loc
  refine .cons (by rw [I.ok.kind];decide) a b ?_ I.gN
  exact Heap.get?_none_of_le<|L8 I.ok.kC I.ok.above
def Inv.vM (I:Inv X pins σ H s):∀b∈hU X.stack,b∈X.env.locals::X.fs:=λb a=>by
 rcases I.ok.pb with e|⟨e,c⟩
 .rw [e] at a;exact Lv _ a
 .rw [e] at a
  unfold hU at a
  rw [Nm,c] at a
  exact a
def Inv.AU (I:Inv X pins σ H s):∀b∈hU X.stack,H b=none:=λb a=>by
 rcases LK.mp (I.vM b a) with e|a
 .rw [e];exact I.free
 .obtain ⟨_,o,c,_⟩:=I.ok.gN.mem a
  exact I.base.free b o c (I.ok.lj b a) λz=>I.ok.oI b z a
def Inv.step{ch:ZX}(I:Inv X pins σ H s)
  (f:∀b∈ch,(b∈X.ex\/X.s₀.heap.objs.size<=b)/\b≠X.env.locals/\(∀x c,X.env.cells.lookup x=some c->c≠b)/\∀p∈X.pn++pins,p.1≠b)
  (keep:∀b o,b≠X.env.locals->b∉X.fs->b∉ch->s.heap.get? b=some o->H b=none->h'.get? b=some o)
  (y:∀b o,b≠X.env.locals->b∈X.fs->b∉ch->s.heap.get? b=some o->H b=none->∃O,h'.get? b=some {o with slots:=O}) (free:∀b o,b∉ch->s.heap.get? b=some o->H b=none->H' b=none)
  (B:∀b o,b∉ch->s.heap.get? b=some o->∃G,h'.get? b=some G)
  (iA:∀b A,H b=some (.tup A)->H' b=some (.tup A)) (ik:∀b o u,H b=some (.cO o u)->H' b=some (.cO o u)) (iW:∀b N,H b=some (.jN N)->∃J,H' b=some (.jN (N++J)))
  (ns:∀m,s.heap.Ns X.env.locals m->h'.Ns X.env.locals m) (az:cT X.prog X.w H' h') (hg:AllBare g'):
  Inv X pins σ H' {s with heap:=h',gens:=g',drawn:=d',toks:=t'}:=by
 have L:∀b o,X.s₀.heap.get? b=some o->b≠X.env.locals:=λb o e=>Mf<|Mo (L1 e) I.ok.above
 have j:∀b o,X.s₀.heap.get? b=some o->b∉X.ex->b∉ch:=λb o e a C=>by
  rcases (f b C).1 with z|z
  .exact a z
  .exact absurd (Mo (L1 e) z)<|MV _
 have g:∀x c,X.env.cells.lookup x=some c->∀v,s.heap.IsCell c v->h'.IsCell c v:=λx c e v q0=>by
  obtain ⟨o,E,Q⟩:=q0
  have h:c∉ch:=λz=>(f c z).2.2.1 x c e rfl
  by_cases U:c∈X.fs
  .obtain ⟨O,q⟩:=y c o (I.kh x c e) U h E (I.gT x c e)
   exact ⟨_,q,Q⟩
  .exact ⟨o,keep c o (I.kh x c e) U h E<|I.gT x c e,Q⟩
 refine ⟨I.ok,I.os,hg,⟨λb o e n C a=>?_,λb o e n C a=>?_,λb o e n a=>?_,λb o e a=>?_,λb A e=>iA b A<|I.base.iA b A e,λb o A e=>ik b o A<|I.base.ik b o A e,λb N e=>?_⟩,?_,λx c e=>?_,?_,λx c e=>?_,λp Y=>?_,az,I.len⟩
 .exact keep b o (L b o e) C (j b o e a) (I.base.keep b o e n C a)<|I.base.free b o e n a
 .obtain ⟨O,t⟩:=I.base.slot b o e n C a
  obtain ⟨T,M⟩:=y b _ (L b o e) C (j b o e a) t<|I.base.free b o e n a
  exact ⟨T,M⟩
 .obtain ⟨G,t⟩:=I.base.there b o e a
  exact free b G (j b o e a) t<|I.base.free b o e n a
 .obtain ⟨G,t⟩:=I.base.there b o e a
  exact B b G (j b o e a) t
 .obtain ⟨m1,t⟩:=I.base.iW b N e
  obtain ⟨m2,M⟩:=iW b _ t
  exact ⟨m1++m2,by rw [M,Array.append_assoc]⟩
 .obtain ⟨m,hn,hl⟩:=I.loc
  refine ⟨m,ns m hn,λi x v t M e3=>?_⟩
  obtain ⟨u,r,l⟩:=hl i x v t M e3
  refine ⟨u,r,?_⟩
  rcases l with l|⟨k,c,e,z⟩
  .exact .inl l
  .exact .inr ⟨k,c,e,g x c e _ z⟩
 .obtain ⟨v,z⟩:=I.cell x c e
  exact ⟨v,g x c e v z⟩
 .obtain ⟨m,⟨o,_,_,E,_⟩,_⟩:=I.loc
  exact free _ o (λz=>(f _ z).2.1 rfl) E I.free
 .obtain ⟨v,o,E,Q⟩:=I.cell x c e
  exact free c o (λz=>(f c z).2.2.1 x c e rfl) E<|I.gT x c e
 .obtain ⟨e,n,ne,nf,d⟩:=I.pin p Y
  have h:p.1∉ch:=λz=>(f p.1 z).2.2.2 p Y rfl
  exact ⟨keep p.1 p.2 ne nf h e n,free p.1 p.2 h e n,ne,nf,d⟩
def Inv.un(I:Inv X pins σ H s)(u:Un X.fs [] H H' s.heap h')(az:cT X.prog X.w H' h'):Inv X pins σ H' {s with heap:=h',toks:=t'}:=by
 obtain ⟨m,⟨o,k,l,g,r⟩,_⟩:=id I.loc
 obtain ⟨p,h⟩:=u.any g I.free Z8
 exact I.step (g':=s.gens) (d':=s.drawn) (ch:=[]) (λ_ z=>nomatch z) (λb o _ c _ e n=>u.keep b o e n c Z8) (λb o _ c _ e n=>u.slot b o e n c Z8) (λb o _ e n=>u.free b o e n Z8) (λb o _ e=>u.there b o e Z8) u.iA u.ik u.iW (λq i=>by
  obtain ⟨t,d,f,a,j⟩:=i
  rw [g] at a;cases a
  exact ⟨_,d,f,h,j⟩) az I.bare
def Inv.call(I:Inv X pins σ H s)(u:Un (hU X.stack) ch H H' s.heap h')(az:cT X.prog X.w H' h')(k:AllBare g')
  (d:∀b∈ch,(b∈X.ex\/X.s₀.heap.objs.size<=b)/\b≠X.env.locals/\(∀x c,X.env.cells.lookup x=some c->c≠b)/\∀p∈X.pn++pins,p.1≠b):
  Inv X pins σ H' {s with heap:=h',gens:=g',drawn:=d',toks:=t'}:=by
 obtain ⟨m,⟨o,v,y,j,r⟩,_⟩:=id I.loc
 obtain ⟨A,g⟩:=u.any j I.free λz=>(d _ z).2.1 rfl
 exact I.step (ch:=ch) d (λb o g l a e n=>u.keep b o e n (λz=>(LK.mp<|I.vM b z).elim g l) a) (λb o _ _ a e n=>u.any e n a) (λb o a e n=>u.free b o e n a) (λb o a e=>u.there b o e a) u.iA u.ik u.iW (λB q=>by
  obtain ⟨C,h,i,f,t⟩:=q
  rw [j] at f;cases f
  exact ⟨_,h,i,g,t⟩) az k
def Inv.turned(I:Inv X pins σ H s)(k:∀b o,b≠a->s.heap.get? b=some o->h'.get? b=some o)(h:H a=none)(g:a≠X.env.locals)
  (i:a∈X.ex\/X.s₀.heap.objs.size<=a) (j:∀x c,X.env.cells.lookup x=some c->c≠a) (l:∀p∈X.pn++pins,p.1≠a):Inv X pins σ H {s with heap:=h',toks:=t'}:=by
 have f:∀b u,H b=some u->b≠a:=λb u e z=>by rw [z,h] at e;cases e
 refine I.step (g':=s.gens) (d':=s.drawn) (ch:=[a]) (λb t=>?_) (λb o _ _ d e _=>k b o (λz=>d (by simp [z])) e) (λb o _ _ d e _=>⟨o.slots,k b o (λz=>d (by simp [z])) e⟩) (λ_ _ _ _ n=>n)
  (λb o d e=>⟨o,k b o (λz=>d (by simp [z])) e⟩) (λ_ _ e=>e) (λ_ _ _ e=>e) (λb C e=>⟨#[],by rw [e];simp⟩) (λm w=>?_) (λb u e=>?_) I.bare
 .have e:b=a:=by simpa using t
  subst e
  exact ⟨i,g,j,l⟩
 .obtain ⟨o,y,A,B,r⟩:=w
  exact ⟨o,y,A,k _ o (MC g) B,r⟩
 .refine (I.az b u e).kB (λc v d q=>k c v ?_ q) (λ_ q=>q) λ_ _ q=>q
  rcases d with z|z
  .rw [z];exact f b u e
  .exact f c _ z
def Inv.tok (I:Inv X pins σ H s)(t:Nat):Inv X pins σ H {s with toks:=t}:=I.un (h':=s.heap) (t':=t) Un.refl I.az
theorem Inv.kept(I:Inv X pins σ H s)(k:∀b u,s.heap.get? b=some u->h'.get? b=some u):Inv X pins σ H {s with heap:=h',toks:=t'}:=I.un (Un.kept k)<|I.az.kept k
theorem Inv.laid(I:Inv X pins σ H s)(k:∀b u,s.heap.get? b=some u->h'.get? b=some u)(c:s.heap.objs.size<=a)(d:bX X.prog X.w (upd H a o) h' a o):
  Inv X pins σ (upd H a o) {s with heap:=h',toks:=t'}:=I.un (Un.laid k c<|I.az.fresh c)<|I.az.laid k c d
theorem Inv.write(I:Inv X pins σ H s)(d:pi (H x))(f:e=x\/H e=some (.own x))(k:∀b u,b≠e->s.heap.get? b=some u->h'.get? b=some u)(a:∃u,h'.get? e=some u)
  (c:bX X.prog X.w (upd H x o) h' x o):Inv X pins σ (upd H x o) {s with heap:=h',toks:=g}:=I.un (Un.write d f k a)<|I.az.write d f k a c
def Inv.zZ {a:ZV}(I:Inv X pins σ H s)(h:∀p∈a,s.heap.get? p.1=some p.2/\H p.1=none/\p.1≠X.env.locals/\p.1∉X.fs/\∀v,p.2.data≠.cell v):Inv X a σ H s:=
 ⟨I.ok,I.os,I.bare,I.base,I.loc,I.cell,I.free,I.gT,λp b=>(LY.mp b).elim (λz=>I.pin p<|LL _ z)<|h p,I.az,I.len⟩
def zx{N:ZY}(c:N.Nodup){i j:Nat}(a:N[i]?=some x)(b:N[j]?=some x):i=j:=by
 obtain ⟨f,d⟩:=Lx.mp a
 obtain ⟨g,e⟩:=Lx.mp b
 exact (List.getElem_inj c).mp<|d.trans e.symm
def zm{i:Nat}{Q:Unit->Shared->Prop}(I:Inv X pins σ H s)(hN:X.N.Nodup)(hi:X.N[i]?=some x)(B:Loc X.env.scope x)(r:RelV v u)
  (h:∀s',Inv X pins (σ.set i (some v)) H s'->(∃a,Heap.SameBut a s.heap s'.heap/\(a=X.env.locals\/X.env.cells.lookup x=some a))->Q () s') (hf:X.fn x=true\/X.env.scope.names.lookup x=some .local:=by first|exact .inl rfl|exact .inr rfl|assumption):wpAny M A (storeName X.env x u) Q E s:=by
 obtain ⟨m,hn,hl⟩:=id I.loc
 have ac:(X.env.scope.kind==.class||(X.env.scope.kind==.module&&X.env.locals !=X.env.globals))=false:=by rw [I.ok.kind];rfl
 have J:i<σ.length:=by rw [I.len];exact (Lx.mp hi).1
 have kh:=I.kh
 have g:∀{a:Addr} {Y:Heap},(∃o,s.heap.get? a=some o/\H a=none)->Heap.SameBut a s.heap Y->cT X.prog X.w H Y:=λ{a Y} ha f b ob e=>by
  obtain ⟨_,_,C⟩:=ha
  refine (I.az b ob e).kB (λc w' t q=>(f.2 c ?_).trans q) (λ_ q=>q) λ_ _ q=>q
  rintro rfl
  rcases t with rfl|t
  .rw [C] at e;cases e
  .rw [C] at t;cases t
 rcases B with L|L
 .refine wpAny_storeName_local L hn (λY ao f=>?_) ac
  obtain ⟨oL,_,_,as,_⟩:=id hn
  refine h _ ⟨I.ok,I.os,I.bare,⟨λb o e n O B=>?_,λb o e n O B=>?_,I.base.free,λb o e B=>?_,I.base.iA,I.base.ik,I.base.iW⟩,⟨_,ao,λj y v' l G e3=>?_⟩,λy c e=>?_,I.free,I.gT,λp hp=>?_,g ⟨oL,as,I.free⟩ f,by simpa using I.len⟩ ⟨_,f,.inl rfl⟩
  .exact (f.2 b<|Mf<|Mo (L1 e) I.ok.above).trans<|I.base.keep b o e n O B
  .obtain ⟨sl,l⟩:=I.base.slot b o e n O B
   exact ⟨sl,(f.2 b<|Mf<|Mo (L1 e) I.ok.above).trans l⟩
  .obtain ⟨o',l⟩:=I.base.there b o e B
   exact ⟨o',(f.2 b<|Mf<|Mo (L1 e) I.ok.above).trans l⟩
  .by_cases T:j=i
   .subst T
    rw [hi] at l;cases l
    rw [LM J] at G
    cases G
    exact ⟨u,r,.inl ⟨L,by simp⟩⟩
   .rw [LB<|MC T] at G
    obtain ⟨u',r',q⟩:=hl j y v' l G e3
    refine ⟨u',r',?_⟩
    rcases q with ⟨k,e⟩|⟨k,c,e,z⟩
    .refine .inl ⟨k,?_⟩
     have:y≠x:=λe=>T<|zx hN l<|e▸hi
     simp [this,e]
    .exact .inr ⟨k,c,e,z.sameBut f<|kh y c e⟩
  .obtain ⟨w',z⟩:=I.cell y c e
   exact ⟨w',z.sameBut f<|kh y c e⟩
  .obtain ⟨e,n,ne,nf,d⟩:=I.pin p hp
   exact ⟨(f.2 p.1 ne).trans e,n,ne,nf,d⟩
 .have U:X.fn x=true:=by
   rcases hf with z|z
   .exact z
   .rw [z] at L;cases L
  obtain ⟨c,t⟩:=I.ok.has x (.inl L)
  obtain ⟨w',z⟩:=I.cell x c t
  refine wpAny_storeName_cell I.ok.kind L t z λY af f=>?_
  obtain ⟨oc,aj,am⟩:=id z
  refine h {s with heap:=Y} ⟨I.ok,I.os,I.bare,⟨λb o e n O B=>?_,λb o e n O B=>?_,I.base.free,λb o e B=>?_,I.base.iA,I.base.ik,I.base.iW⟩,⟨m,hn.sameBut f<|MC<|kh x c t,λj y v' l G e3=>?_⟩,λy c' e=>?_,I.free,I.gT,λp hp=>?_,g ⟨oc,aj,I.gT x c t⟩ f,by simpa using I.len⟩ ⟨c,f,.inr t⟩
  .exact (f.2 b<|Mf<|Mo (L1 e)<|I.ok.oA x c U t).trans<|I.base.keep b o e n O B
  .obtain ⟨sl,l⟩:=I.base.slot b o e n O B
   exact ⟨sl,(f.2 b<|Mf<|Mo (L1 e)<|I.ok.oA x c U t).trans l⟩
  .obtain ⟨o',l⟩:=I.base.there b o e B
   exact ⟨o',(f.2 b<|Mf<|Mo (L1 e)<|I.ok.oA x c U t).trans l⟩
  .by_cases T:j=i
   .subst T
    rw [hi] at l;cases l
    rw [LM J] at G
    cases G
    exact ⟨u,r,.inr ⟨.inl L,c,t,af⟩⟩
   .rw [LB<|MC T] at G
    obtain ⟨u',r',q⟩:=hl j y v' l G e3
    refine ⟨u',r',?_⟩
    rcases q with q|⟨k,c',e,z'⟩
    .exact .inl q
    .refine .inr ⟨k,c',e,z'.sameBut f ?_⟩
     rintro rfl
     exact T<|zx hN l<|I.ok.inj _ _ _ e t▸hi
  .by_cases an:c'=c
   .subst an;exact ⟨_,af⟩
   .obtain ⟨w2,z2⟩:=I.cell y c' e
    exact ⟨w2,z2.sameBut f an⟩
  .obtain ⟨e,n,ne,nf,d⟩:=I.pin p hp
   refine ⟨(f.2 p.1 ?_).trans e,n,ne,nf,d⟩
   intro q
   rw [q,aj] at e
   have q':oc=p.2:=LQ e
   exact d w' (by rw [<-q'];exact am)
def B1{i:Nat}{Q:Unit->Shared->Prop}(I:Inv X pins σ H s)(b:X.N.Nodup)(c:X.N[i]?=some x)(d:Loc X.env.scope x)(r:RelV v u)
  (h:∀a,Inv X pins (σ.set i (some v)) H a->Q () a) (e:X.fn x=true\/X.env.scope.names.lookup x=some .local:=by first|exact .inl rfl|exact .inr rfl|assumption):wpAny M A (storeName X.env x u) Q E s:=
 zm I b c d r (λa f _=>h a f) e
def Inv.Hm{a:Shared}(I:Inv X pins σ H s)(f:a.os=s.os)(u:Un (hU X.stack) ch H H' s.heap a.heap)(az:cT X.prog X.w H' a.heap)(g:AllBare a.gens)
  (d:∀b∈ch,(b∈X.ex\/X.s₀.heap.objs.size<=b)/\b≠X.env.locals/\(∀x c,X.env.cells.lookup x=some c->c≠b)/\∀p∈X.pn++pins,p.1≠b):Inv X pins σ H' a:=by
 obtain ⟨l,h,i,j,k⟩:=a
 have e:k=s.os:=f
 subst e
 exact I.call (g':=h) (t':=j) (d':=i) u az g d
end
abbrev XK:=Value->Option Addr->Hp->Prop
abbrev St:=List (Option V)
abbrev VK:=V->Hp->Prop
abbrev TE:=St->Hp->VK->Prop
abbrev TT:=St->Hp->(Bool->Hp->Prop)->Prop
abbrev TA:=St->Hp->(List V->Hp->Prop)->Prop
structure Ends where
 nx:St->Hp->Prop
 rt:VK
 bk:St->Hp->Prop:=fun _ _=>False
 ct:St->Hp->Prop:=fun _ _=>False
abbrev TS:=Ends->St->Hp->Prop
def EP (X:Cx)(pins:List (Addr×Obj))(σ:St)(Q:VK)(u:Value)(s':Shared):Prop:=∃v H',Inv X pins σ H' s'/\RelV v u/\Q v H'
def TP (X:Cx)(pins:List (Addr×Obj))(σ:St)(Q:Bool->Hp->Prop)(b:Bool)(s':Shared):Prop:=∃H',Inv X pins σ H' s'/\Q b H'
def AP (X:Cx)(pins:List (Addr×Obj))(σ:St)(Q:List V->Hp->Prop)(us:List Value)(s':Shared):Prop:=∃vs H',Inv X pins σ H' s'/\a9 vs us/\Q vs H'
def SP (X:Cx)(pins:List (Addr×Obj))(D:Ends)(f:Flow)(s':Shared):Prop:=
 match f with
 |.next=>∃σ' H',Inv X pins σ' H' s'/\D.nx σ' H'
 |.brk=>∃σ' H',Inv X pins σ' H' s'/\D.bk σ' H'
 |.cont=>∃σ' H',Inv X pins σ' H' s'/\D.ct σ' H'
 |.ret u=>∃v σ' H',Inv X pins σ' H' s'/\RelV v u/\D.rt v H'
def PE (X:Cx)(e:Expr)(t:TE):Prop:=
 ∀(pins:List (Addr×Obj)) (s:Shared) (σ:St) (H:Hp) (Q:VK),Inv X pins σ H s->t σ H Q->wpAny (model X.prog X.w) X.A (eval e X.env) (EP X pins σ Q) X.xe s
def PT (X:Cx)(e:Expr)(t:TT):Prop:=
 ∀(pins:List (Addr×Obj)) (s:Shared) (σ:St) (H:Hp) (Q:Bool->Hp->Prop),Inv X pins σ H s->t σ H Q->wpAny (model X.prog X.w) X.A (isTrue e X.env (eval e X.env)) (TP X pins σ Q) X.xe s
def PW (X:Cx)(e:Expr)(t:TT):Prop:=
 ∀(f6:Sem Value) (pins:List (Addr×Obj)) (s:Shared) (σ:St) (H:Hp) (Q:Bool->Hp->Prop),Inv X pins σ H s->t σ H Q->wpAny (model X.prog X.w) X.A (isTrue e X.env f6) (TP X pins σ Q) X.xe s
def PW.pt(h:PW X e t):PT X e t:=h _
def PA (X:Cx)(es:List Expr)(t:TA):Prop:=
 ∀(pos:Pos) (pins:List (Addr×Obj)) (s:Shared) (σ:St) (H:Hp) (Q:List V->Hp->Prop),Inv X pins σ H s->t σ H Q->wpAny (model X.prog X.w) X.A (spliced (backTo pos (starEach es X.env))) (AP X pins σ Q) X.xe s
def PS (X:Cx)(st:Stmt)(t:TS):Prop:=
 ∀(pins:List (Addr×Obj)) (s:Shared) (σ:St) (H:Hp) (D:Ends),Inv X pins σ H s->t D σ H->wpAny (model X.prog X.w) X.A (exec st X.env) (SP X pins D) X.xe s
def gw (X:Cx)(st:List Stmt)(t:TS):Prop:=
 ∀(pins:List (Addr×Obj)) (s:Shared) (σ:St) (H:Hp) (D:Ends),Inv X pins σ H s->t D σ H->wpAny (model X.prog X.w) X.A (execs st X.env) (SP X pins D) X.xe s
def aS{c:b->Shared->Prop}(h:wpAny M A t Q E s)(d:∀a s,Q a s->c a s):wpAny M A t c E s:=M1 h d λ_ _ x=>x
end L2
namespace L2
open PySem PySem.Spec PyProof.Rows
section
variable {X:Cx}
def aW (i:Nat):TE:=λσ H Q=>∃v,σ[i]?=some (some v)/\Q v H
def tC (v:V):TE:=λ_ H Q=>Q v H
def zX{i:Nat}(o:X.N[i]?=some x)(p:pK X.env.scope x)(j:(x==("__debug__":Str))=false:=by decide)(k:(x==("__classdict__":Str))=false:=by decide):PE X (.Name x g) (aW i):=by
 intro f s q H Q I h
 obtain ⟨v,e,h⟩:=h
 obtain ⟨m,t,w⟩:=I.loc
 obtain ⟨u,r,l⟩:=w i x v o e p
 have b:EP X f q Q u s:=⟨v,H,I,r,h⟩
 rcases l with ⟨d,y⟩|⟨d,c,n,a⟩
 .exact wpAny_Name (wpAny_loadName_local I.ok.kind d t y b) j
 .rcases d with d|d
  .exact wpAny_Name (wpAny_loadName_cell I.ok.kind d n a b) j
  .exact wpAny_Name (wpAny_loadName_free I.ok.kind d n a b k) j
def aM {i j a}:PE X (.Constant (.int i) j a) (tC (.int i)):=λ_ _ _ H _ I h=>wpAny_Constant_int ⟨.int i,H,I.tok _,⟨_,rfl⟩,h⟩
def d9 {b j a}:PE X (.Constant (.bool b) j a) (tC (.bl b)):=λ_ _ _ H _ I h=>Constant_bool ⟨.bl b,H,I,rfl,h⟩
def u9 {j a}:PE X (.Constant .none j a) (tC .av):=λ_ _ _ H _ I h=>Constant_none ⟨.av,H,I,rfl,h⟩
def gc {x j a}:PE X (.Constant (.str x) j a) (tC (.str x)):=λ_ _ _ H _ I h=>Calls.Constant_str ⟨.str x,H,I.tok _,⟨_,rfl⟩,h⟩
def Gl (X:Cx)(x:Str):Prop:=X.env.kindOf x=some .globalImplicit
def uJ{Q:ZT}(I:Inv X a c H s)(d:Gl X x)(e:X.mg x=some u)(h:Q u s)
  (f:(x==("__debug__":Str))=false:=by decide):wpAny (model X.prog X.w) X.A (eval (.Name x b) X.env) Q E s:=
 Pn I.ok.kind d (Calls.loadGlobal_global (by rw [I.ok.glob];exact I.mod.glob.keeps I.bk) e h) f
def jX{Q:ZT}(I:Inv X a c H s)(d:Gl X x)(e:X.mg x=none)(f:bootBuiltins x=some u)(h:Q u s)
  (g:x≠"__name__":=by decide) (i:(x==("__debug__":Str))=false:=by decide):wpAny (model X.prog X.w) X.A (eval (.Name x b) X.env) Q E s:=by
 obtain ⟨l,j,k⟩:=I.mod.blt
 exact Pn I.ok.kind d (Calls.loadGlobal_builtin (by rw [I.ok.glob];exact I.mod.glob.keeps I.bk) e (by rw [I.ok.blt];exact j.keeps I.bk) ((k x g).trans f) h) i
def uP(b:Gl X x)(c:X.mg x=some u)(r:RelV v u)(d:(x==("__debug__":Str))=false:=by decide):PE X (.Name x a) (tC v):=
 λ_ _ _ H _ I h=>uJ I b c ⟨v,H,I,r,h⟩ d
def EC(b:Gl X x)(c:X.mg x=none)(d:bootBuiltins x=some u)(r:RelV v u)(e:x≠"__name__":=by decide)(f:(x==("__debug__":Str))=false:=by decide):PE X (.Name x a) (tC v):=
 λ_ _ _ H _ I h=>jX I b c d ⟨v,H,I,r,h⟩ e f
variable {a b:Expr}{ta tb:TE}{pos:Pos}
def PC (X:Cx)(op:CmpOp)(a b:Expr)(t:TE):Prop:=
 ∀(pins:List (Addr×Obj)) (s:Shared) (σ:St) (H:Hp) (Q:VK),Inv X pins σ H s->t σ H Q->
  wpAny (model X.prog X.w) X.A (eval a X.env) (λv s₁=>wpAny (model X.prog X.w) X.A (eval b X.env) (λu s₂=>wpAny (model X.prog X.w) X.A (compareOp op v u) (EP X pins σ Q) X.xe s₂) X.xe s₁) X.xe s
def tB (t:TE):TT:=λσ H Q=>t σ H λx H1=>∃c,x=.bl c/\Q c H1
def J4(h:PC X d a b t)(e:behindInMarks d b=false:=by first|exact HR _ Z1 Z1|rfl):PE X (.Compare a [d] [b] pos) t:=λc s f H Q I g=>wpAny_Compare1 (h c s f H Q I g) e
def jV(h:PC X f a b t)(g:behindInMarks f b=false:=by first|exact HR _ Z1 Z1|rfl):PT X (.Compare a [f] [b] pos) (tB t):=by
 intro e s i H Q I j
 refine wpAny_isTrue_Compare1 (aS (h e s i H _ I j) λv p g=>aS g λu r k=>aS k λc w ⟨x,l,m,n,o⟩=>?_) g
 obtain ⟨d,rfl,q⟩:=o
 cases n
 exact MT ⟨l,m,q⟩
def df(h:PE X e t)(f:∀f6,isTrue e X.env f6=(do let v<-f6;standAt e.pos;holding [v] (truthy v)):=by intro _;rfl):PT X e (tB t):=by
 intro c s g H Q I i
 refine isTrue_plain (aS (h c s g H _ I i) λv n ⟨x,j,k,l,m⟩=>?_)<|f _
 obtain ⟨d,rfl,q⟩:=m
 cases l
 exact MT ⟨j,k,q⟩
variable {tA tB':TT}{cc:List Expr}
def w9 (t u:TT):TT:=λσ H Q=>t σ H λc H1=>if c=true then u σ H1 Q else Q false H1
def y4 (t u:TT):TT:=λσ H Q=>t σ H λc H1=>if c=true then Q true H1 else u σ H1 Q
def AM (t:TT):TT:=λσ H Q=>t σ H λc H1=>Q (!c) H1
def iU (f:PT X a tA):PW X (.BoolOp .And [a] pos) tA:=by
 intro i d s g H Q I h
 refine isTrue_and<|aS (f d s g H Q I h) λc j e=>?_
 cases c with
 |true=>exact isTrue_and_nil e
 |false=>exact e
def jp (f:PT X a tA):PW X (.BoolOp .Or [a] pos) tA:=by
 intro i d s g H Q I h
 refine isTrue_or<|aS (f d s g H Q I h) λc j e=>?_
 cases c with
 |false=>exact isTrue_or_nil e
 |true=>exact e
def iY (j:PT X a tA)(k:PW X (.BoolOp .And (b::cc) pos) tB'):PW X (.BoolOp .And (a::b::cc) pos) (w9 tA tB'):=by
 intro l d s e H Q I h
 refine isTrue_and<|aS (j d s e H _ I h) λc m n=>?_
 obtain ⟨f,g,i⟩:=n
 cases c with
 |true=>exact k l d m e f Q g i
 |false=>exact ⟨f,g,i⟩
def iG (j:PT X a tA)(k:PW X (.BoolOp .Or (b::cc) pos) tB'):PW X (.BoolOp .Or (a::b::cc) pos) (y4 tA tB'):=by
 intro l d s e H Q I h
 refine isTrue_or<|aS (j d s e H _ I h) λc m n=>?_
 obtain ⟨f,g,i⟩:=n
 cases c with
 |true=>exact ⟨f,g,i⟩
 |false=>exact k l d m e f Q g i
def eF (e:PT X a tA):PT X (.UnaryOp .Not a pos) (AM tA):=by
 intro d s f H Q I h
 exact isTrue_not<|e d s f H (λc g=>Q (!c) g) I h
def rL (ta tb:TE):TE:=λσ H Q=>ta σ H λx H1=>∃c,x=.bl c/\if c=true then tb σ H1 Q else Q (.bl false) H1
def BU (ta tb:TE):TE:=λσ H Q=>ta σ H λx H1=>∃c,x=.bl c/\if c=true then Q (.bl true) H1 else tb σ H1 Q
def zi (ta:TE):TE:=λσ H Q=>ta σ H λx H1=>∃c,x=.bl c/\Q (.bl (!c)) H1
def pO{d}(h:PE X a t):PE X (.BoolOp d [a] pos) t:=λc s e H Q I f=>BoolOp_one<|h c s e H Q I f
def nz (j:PE X a ta)(k:PE X (.BoolOp .And (b::cc) pos) tb):PE X (.BoolOp .And (a::b::cc) pos) (rL ta tb):=by
 intro d s f H Q I h
 refine BoolOp_and<|aS (j d s f H _ I h) λv l m=>?_
 obtain ⟨x,g,i,n,e⟩:=m
 obtain ⟨c,rfl,e⟩:=e
 cases n
 refine MT ?_
 cases c with
 |true=>exact k d l f g Q i e
 |false=>exact ⟨.bl false,g,i,rfl,e⟩
def F0 (j:PE X a ta)(k:PE X (.BoolOp .Or (b::cc) pos) tb):PE X (.BoolOp .Or (a::b::cc) pos) (BU ta tb):=by
 intro d s f H Q I h
 refine BoolOp_or<|aS (j d s f H _ I h) λv l m=>?_
 obtain ⟨x,g,i,n,e⟩:=m
 obtain ⟨c,rfl,e⟩:=e
 cases n
 refine MT ?_
 cases c with
 |false=>exact k d l f g Q i e
 |true=>exact ⟨.bl true,g,i,rfl,e⟩
def z7 (f:PE X a ta):PE X (.UnaryOp .Not a pos) (zi ta):=by
 intro d s g H Q I h
 refine UnaryOp_<|aS (f d s g H _ I h) λv m i=>?_
 obtain ⟨x,j,k,l,e⟩:=i
 obtain ⟨c,rfl,e⟩:=e
 cases l
 exact not_of<|MT ⟨.bl<|!c,j,k,rfl,e⟩
end
end L2
namespace L2
open PySem PySem.Spec PyProof.Rows
def aP (K:PySem.W.Frag)(H:Hp)(a:Addr)(xs:List V):Prop:=
 Rd H a (.lst xs)\/
  ∃(o:Obj) (its:Array Value) (n:Nat),K.lookup a=some o/\o.cls=.type "list"/\o.dict=none/\o.data=.seq its n/\its.size<=sizeLine/\a9 xs its.toList
def bq (K:PySem.W.Frag)(H:Hp)(a:Addr)(xs:List V):Prop:=
 Rd H a (.tup xs)\/
  ∃(o:Obj) (its:Array Value) (n:Nat),K.lookup a=some o/\o.cls=.type "tuple"/\o.data=.seq its n/\its.size<=sizeLine/\a9 xs its.toList
def GU:Value->Option V
 |.none=>some .av
 |.bool b=>some (.bl b)
 |.int i _=>some (.int i)
 |.str x _=>some (.str x)
 |.bytes b _=>some (.gr b)
 |.float b _=>some (.my b)
 |.ref a=>some (.ref a)
 |.type n=>some (.ty n)
 |_=>none
def RelV.abs(r:RelV x u):GU u=some x:=by
 cases x with
 |av=>cases r;rfl
 |bl _=>cases r;rfl
 |int _=>obtain ⟨t,rfl⟩:=r;rfl
 |str _=>obtain ⟨t,rfl⟩:=r;rfl
 |gr _=>obtain ⟨t,rfl⟩:=r;rfl
 |my _=>obtain ⟨t,rfl⟩:=r;rfl
 |ref _=>cases r;rfl
 |ty _=>cases r;rfl
def RelV.inj(r:RelV x u)(q:RelV y u):x=y:=LQ<|r.abs.symm.trans q.abs
theorem a9.inj:∀{a b:List V} {c:List Value},a9 a c->a9 b c->a=b
 |_,_,_,.nil,.nil=>rfl
 |_,_,_,.cons r t,.cons d e=>by rw [r.inj d,a9.inj t e]
section
variable {X:Cx}{pins:List (Addr×Obj)}{σ:St}{H:Hp}{s:Shared}{a:Addr}{xs ys:List V}
def aP.of {K:W.Frag}(h:H a=some (.lst xs)):aP K H a xs:=.inl (.inl h)
def bq.of {K:W.Frag}(h:H a=some (.tup xs)):bq K H a xs:=.inl (.inl h)
def Inv.list (I:Inv X pins σ H s)(h:aP X.K H a xs):∃b:List Value,a9 xs b/\PlainL s.heap a b.toArray/\xs.length<=sizeLine:=by
 rcases h with h|⟨o,b,n,c,d,f,g,i,r⟩
 .obtain ⟨z,b,n,r,e⟩:=h.ok I.az
  exact ⟨b,r,⟨_,n,e,rfl,rfl,rfl⟩,z⟩
 .refine ⟨b.toList,r,⟨o,n,I.dE a o c,d,f,by simpa using g⟩,?_⟩
  have e:=r.length
  simp only [Oo] at e
  omega
def Inv.tuple (I:Inv X pins σ H s)(h:bq X.K H a xs):∃b:List Value,a9 xs b/\IsTup s.heap a b.toArray/\xs.length<=sizeLine:=by
 rcases h with h|⟨o,b,n,c,d,f,g,r⟩
 .obtain ⟨z,b,r,p⟩:=h.ok I.az
  exact ⟨b,r,p,z⟩
 .refine ⟨b.toList,r,⟨o,I.dE a o c,d,n,by simpa using f⟩,?_⟩
  have e:=r.length
  simp only [Oo] at e
  omega
def Inv.tF (I:Inv X pins σ H s)(h:aP X.K H a xs)(i:aP X.K H a ys):xs=ys:=by
 obtain ⟨c,r,⟨o,n,e,_,_,d⟩,_⟩:=I.list h
 obtain ⟨b,j,⟨l,m,f,_,_,g⟩,_⟩:=I.list i
 rw [e] at f;cases f
 rw [d] at g
 injection g with k _
 have:c=b:=by simpa using MA Array.toList k
 subst this
 exact r.inj j
def Inv.xc (I:Inv X pins σ H s)(h:bq X.K H a xs)(i:bq X.K H a ys):xs=ys:=by
 obtain ⟨c,r,⟨o,e,_,n,d⟩,_⟩:=I.tuple h
 obtain ⟨b,j,⟨l,f,_,m,g⟩,_⟩:=I.tuple i
 rw [e] at f;cases f
 rw [d] at g
 injection g with k _
 have:c=b:=by simpa using MA Array.toList k
 subst this
 exact r.inj j
end
abbrev Cx.jf (X:Cx)(E:Value->Shared->Prop):Cx:={X with xe:=E}
abbrev Cx.oX (X:Cx):Cx:=X.jf λ_ _=>False
theorem Cx.Ok.jf {X:Cx}(a:X.Ok)(E:ZT):(X.jf E).Ok:=
 ⟨a.mod,a.kind,a.glob,a.blt,a.above,a.inj,a.has,a.oA,a.hd,a.frames,a.pb,a.wA,a.bs,a.kC,a.ng,a.oI,a.gN,a.lj⟩
def Cx.Ok.kQ{X:Cx}(a:(X.jf E).Ok):X.Ok:=
 ⟨a.mod,a.kind,a.glob,a.blt,a.above,a.inj,a.has,a.oA,a.hd,a.frames,a.pb,a.wA,a.bs,a.kC,a.ng,a.oI,a.gN,a.lj⟩
section
variable {X:Cx}{pins:List (Addr×Obj)}{σ:St}{H:Hp}{s:Shared}{E:Value->Shared->Prop}
theorem Inv.jf (I:Inv X pins σ H s)(E:ZT):Inv (X.jf E) pins σ H s:=⟨I.ok.jf E,I.os,I.bare,I.base,I.loc,I.cell,I.free,I.gT,I.pin,I.az,I.len⟩
theorem Inv.kQ (I:Inv (X.jf E) pins σ H s):Inv X pins σ H s:=⟨I.ok.kQ,I.os,I.bare,I.base,I.loc,I.cell,I.free,I.gT,I.pin,I.az,I.len⟩
theorem SP.kQ{D:Ends}(h:SP (X.jf E) pins D f c):SP X pins D f c:=by
 cases f with
 |next=>obtain ⟨a,b,I,q⟩:=h;exact ⟨a,b,I.kQ,q⟩
 |brk=>obtain ⟨a,b,I,q⟩:=h;exact ⟨a,b,I.kQ,q⟩
 |cont=>obtain ⟨a,b,I,q⟩:=h;exact ⟨a,b,I.kQ,q⟩
 |ret u=>obtain ⟨v,a,b,I,r,q⟩:=h;exact ⟨v,a,b,I.kQ,r,q⟩
theorem gw.oX{st:List Stmt}(h:gw X.oX st t):gw X st t:=λa s b H D I c=>
 M1 (h a s b H D (I.jf _) c) (λ_ _ q=>q.kQ) λ_ _ z=>False.elim z
end
section
variable {X:Cx}{st:Stmt}{cc:List Stmt}{t u:TS}{e:Expr}{te:TE}{pos:Pos}
def sv:TS:=λD σ H=>D.nx σ H
def n0 (t u:TS):TS:=λD σ H=>t {D with nx:=u D} σ H
def cu:gw X [] sv:=λ_ _ a H _ I h=>O3 ⟨a,H,I,h⟩
def aD (c:PS X st t)(d:gw X cc u):gw X (st::cc) (n0 t u):=by
 intro a s g H D I h
 refine wpAny_execs_cons<|aS (c a s g H {D with nx:=u D} I h) λf i q=>?_
 cases f with
 |next=>
  obtain ⟨b,j,k,q⟩:=q
  exact d a i b j D k q
 |ret v=>exact q
 |brk=>exact q
 |cont=>exact q
def aB (b:PS X st t):gw X [st] t:=by
 intro a s c H D I h
 refine wpAny_execs_cons<|aS (b a s c H D I h) λf d q=>?_
 cases f with
 |next=>exact O3 q
 |ret v=>exact q
 |brk=>exact q
 |cont=>exact q
def Lq:TS:=λD σ H=>D.bk σ H
def Kf:PS X (.Break pos) Lq:=λ_ _ a H _ I h=>wpAny_Break ⟨a,H,I,h⟩
def Inv.quiet(I:Inv X a b H s):interactive X.env=false:=by simp [interactive,I.ok.kind]
def ln (te:TE):TS:=λD σ H=>te σ H λ_ H1=>D.nx σ H1
def jv (c:PE X e te)(d:swapsWith e none pos.line X.env=pure false:=by rfl):PS X (.Expr e pos) (ln te):=by
 intro a s b H D I h
 exact wpAny_Expr_any (aS (c a s b H _ I h) λv k f=>by obtain ⟨x,g,i,l,j⟩:=f;exact ⟨b,g,i,j⟩) I.quiet d
def o0 (te:TE):TS:=λD σ H=>te σ H D.rt
def bu (c:PE X e te):PS X (.Return (some e) pos) (o0 te):=by
 intro a s b H D I h
 exact wpAny_Return_some<|aS (c a s b H _ I h) λv k d=>by obtain ⟨x,f,g,i,j⟩:=d;exact ⟨x,b,f,g,i,j⟩
def lQ (c:TT)(t u:TS):TS:=λD σ H=>c σ H λb H1=>if b=true then t D σ H1 else u D σ H1
def cj(n:PT X c i)(o:gw X a t)(p:gw X b u):PS X (.If c a b pos) (lQ i t u):=by
 intro f s g H D I h
 refine wpAny_If<|aS (n f s g H _ I h) λd j q=>?_
 obtain ⟨k,l,m⟩:=q
 cases d with
 |true=>exact o f j g k D l m
 |false=>exact p f j g k D l m
def Go:TS:=λ_ _ _=>False
def vB:PS X st Go:=λ_ _ _ _ _ _ h=>h.elim
end
abbrev TG:=V->St->Hp->(St->Hp->Prop)->Prop
abbrev kS:=List V->St->Hp->(St->Hp->Prop)->Prop
def PG (X:Cx)(target:Expr)(t:TG):Prop:=
 ∀(pins:List (Addr×Obj)) (s:Shared) (σ:St) (H:Hp) (v:V) (u:Value) (Q:St->Hp->Prop),Inv X pins σ H s->RelV v u->t v σ H Q->
  wpAny (model X.prog X.w) X.A (assign target X.env u) (λ_ s'=>∃σ' H',Inv X pins σ' H' s'/\Q σ' H') X.xe s
def p7 (X:Cx)(ts:List Expr)(t:kS):Prop:=
 ∀(pins:List (Addr×Obj)) (s:Shared) (σ:St) (H:Hp) (vs:List V) (us:List Value) (Q:St->Hp->Prop),Inv X pins σ H s->a9 vs us->t vs σ H Q->
  wpAny (model X.prog X.w) X.A (assignInOrder ((assignEach ts X.env).map (·.2)) us) (λ_ s'=>∃σ' H',Inv X pins σ' H' s'/\Q σ' H') X.xe s
section
variable {X:Cx}{pos:Pos}
def cv (i:Nat):TG:=λv σ H Q=>Q (σ.set i (some v)) H
def IN{i:Nat}(b:X.N.Nodup)(c:X.N[i]?=some x)(d:Loc X.env.scope x)(e:X.fn x=true\/X.env.scope.names.lookup x=some .local:=by first|exact .inl rfl|exact .inr rfl|assumption):PG X (.Name x pos) (cv i):=by
 intro a s g H v u Q I r h
 exact wpAny_assign_Name<|B1 I b c d r (λj f=>⟨_,H,f,h⟩) e
def pc:kS:=λvs σ H Q=>vs=[]/\Q σ H
def j7 (t:TG)(u:kS):kS:=λvs σ H Q=>∃v r,vs=v::r/\t v σ H λσ' H'=>u r σ' H' Q
def kn:p7 X [] pc:=by
 intro a s b H c d Q I r h
 obtain ⟨e,h⟩:=h
 subst e
 cases r
 exact assignInOrder_nil ⟨b,H,I,h⟩
def fj(d:PG X e t)(f:p7 X b u)
  (g:(assignEach (e::b) X.env).map (·.2)=assign e X.env::(assignEach b X.env).map (·.2):=by rfl):p7 X (e::b) (j7 t u):=by
 intro a s i H q w Q I r h
 obtain ⟨v,x,j,h⟩:=h
 subst j
 cases r with
 |cons r k=>
  rw [g]
  refine assignInOrder_cons<|aS (d a s i H _ _ _ I r h) λ_ l m=>?_
  obtain ⟨c,n,o,p⟩:=m
  exact f a l c n _ _ Q o k p
def nK (K:PySem.W.Frag)(n:Nat)(t:kS):TG:=λv σ H Q=>∃a xs,v=.ref a/\bq K H a xs/\xs.length=n/\t xs σ H Q
def mZ(l:X.calm=true)(h:p7 X d t)
  (m:(assignEach d X.env).length=n:=by rfl) (f:(assignEach d X.env).findIdx? (·.1)=none:=by rfl):PG X (.Tuple d k pos) (nK X.K n t):=by
 intro c s i H v u Q I r g
 obtain ⟨a,p,q,w,x,g⟩:=g
 subst q
 cases r
 obtain ⟨y,j,z,E⟩:=I.tuple w
 refine assign_Tuple_tuple (I.ok.hd l) z (by simp [m,<-x,j.length]) f λA B=>?_
 have C:Inv X c i H {s with heap:=A}:=I.kept (t':=s.toks) λb o e=>B b o (Mf<|L1 e) e
 exact h c _ i H p _ Q C (by simpa using j) g
def eY (te:TE)(g:TG):TS:=λD σ H=>te σ H λx H1=>g x σ H1 D.nx
def AX{i:Nat}(d:X.N.Nodup)(f:X.N[i]?=some x)(g:Loc X.env.scope x)(j:PE X e c)(k:swapsWith e (some (.Name x a)) pos.line X.env=pure false:=by rfl)(l:X.fn x=true\/X.env.scope.names.lookup x=some .local:=by first|exact .inl rfl|exact .inr rfl|assumption):
  PS X (.Assign [.Name x a] e pos) (eY c (cv i)):=by
 intro b s m H D I h
 refine wpAny_Assign_Name (aS (j b s m H _ I h) λv t ⟨y,n,o,p,q⟩=>?_) k
 exact B1 o d f g p (λu r=>⟨_,n,r,q⟩) l
end
section
variable {X:Cx}{pos:Pos}
def HP (c:TT)(tb:TS):TS:=λD σ H=>∃W:Nat->St->Hp->Prop,(∃m,W m σ H)/\∀m σ H,W m σ H->
 c σ H λb H1=>if b=true then∃N:St->Hp->Prop,(∀σ' H',N σ' H'->∃m',m'<m/\W m' σ' H')/\tb {D with nx:=N,ct:=N,bk:=D.nx} σ H1 else D.nx σ H1
def CJ(y:PassesOwn (model X.prog X.w) X.A X.env X.xe)(J:PT X c u)(L:gw X g x):PS X (.While c g [] pos) (HP u x):=by
 intro a s M H D I h
 obtain ⟨W,⟨O,Q⟩,i⟩:=h
 refine wpAny_While<|codeAny_whileLoop (λn T=>∃j z,Inv X a j z T/\W n j z) ?_ O ⟨M,H,I,Q⟩
 rintro n U ⟨e,B,Y,w1⟩
 refine NA y<|aS (J a U e B _ Y<|i n e B w1) λb s2 q0=>?_
 obtain ⟨C,E,l⟩:=q0
 cases b with
 |true=>
  obtain ⟨N,G,l⟩:=l
  rw [LJ rfl]
  refine NA y<|aS (L a s2 e C _ E l) λf s3 m=>?_
  cases f with
  |next=>
   obtain ⟨d,k,o,p⟩:=m
   obtain ⟨q,r,t⟩:=G d k p
   exact ⟨q,r,d,k,o,t⟩
  |cont=>
   obtain ⟨d,k,o,p⟩:=m
   obtain ⟨q,r,t⟩:=G d k p
   exact ⟨q,r,d,k,o,t⟩
  |brk=>exact m
  |ret v=>exact m
 |false=>
  rw [LG LI]
  exact O3 ⟨e,C,E,l⟩
end
structure It where
 go:Nat->Hp->Prop
 on:Nat->Hp->V->Hp->Prop
 stop:Nat->Hp->Prop
def iE (X:Cx)(pins:List (Addr×Obj))(H:Hp)(b:Addr):Prop:=
 H b=none/\b≠X.env.locals/\b∉X.fs/\(b∈X.ex\/X.s₀.heap.objs.size<=b)/\(∀x c,X.env.cells.lookup x=some c->c≠b)/\∀p∈X.pn++pins,p.1≠b
def Inv.hZ{f:Hp}(I:Inv X a g H s)(d:s.heap.objs.size<=b)(h:f b=none):iE X a f b:=by
 refine ⟨h,NY<|Mo I.lt d,I.Dr d,.inr<|L8 I.sz d,λx c e z=>?_,λp i z=>?_⟩
 .obtain ⟨v,q⟩:=I.cell x c e
  exact absurd (Mo q.lt (by rw [z];exact d))<|MV _
 .exact absurd (Mo (L1 (I.pin p i).1) (by rw [z];exact d))<|MV _
structure jd (P:Program)(w:World)(K:PySem.W.Frag)(tg:Expr)(J:It)(fp:List Addr)(it:Addr)(tn:Nat->Heap->Prop):Prop where
 mem:it∈fp
 obj:∀i h,tn i h->∀b∈fp,∃o,h.get? b=some o/\∀v,o.data≠.cell v
 keep:∀i h h',tn i h->(∀b∈fp,∀o,h.get? b=some o->h'.get? b=some o)->tn i h'
 item:∀(X:Cx),X.prog=P->X.w=w->X.K=K->X.calm=true->∀(i:Nat) (pins:List (Addr×Obj)) (s:Shared) (σ:St) (H:Hp) (E:Value->Shared->Prop),Inv X pins σ H s->(∀b∈fp,iE X pins H b)->tn i s.heap->J.go i H->
  wpAny (model P w) X.A (pyNext (.ref it)) (fun r s1=>∃u,r=some u/\
   wpAny (model P w) X.A (letOwnedTupleGo tg (.ref it) u) (fun _ s2=>∃x H',Inv X pins σ H' s2/\RelV x u/\J.on i H x H'/\tn (i+1) s2.heap/\∀b∈fp,H' b=none) E s1) E s
 done:∀(X:Cx),X.prog=P->X.w=w->X.K=K->X.calm=true->∀(i:Nat) (pins:List (Addr×Obj)) (s:Shared) (σ:St) (H:Hp) (E:Value->Shared->Prop),Inv X pins σ H s->(∀b∈fp,iE X pins H b)->tn i s.heap->J.stop i H->
  wpAny (model P w) X.A (pyNext (.ref it)) (fun r s1=>r=none/\Inv X pins σ H s1) E s
 self:∀(A:Around) (i:Nat) (s:Shared) (Q:Value->Shared->Prop) (E:Value->Shared->Prop),tn i s.heap->Q (.ref it) s->wpAny (model P w) A (pyIter (.ref it)) Q E s
abbrev TI:=St->Hp->(It->Hp->Prop)->Prop
def Cc (X:Cx)(pins:List (Addr×Obj))(σ:St)(tg:Expr)(R:It->Hp->Prop)(itv:Value)(s2:Shared):Prop:=
 ∃(it:Addr) (fp:List Addr) (tn:Nat->Heap->Prop) (J:It) (H':Hp),itv=.ref it/\Inv X pins σ H' s2/\jd X.prog X.w X.K tg J fp it tn/\tn 0 s2.heap/\(∀b∈fp,iE X pins H' b)/\R J H'
def PI (X:Cx)(tg iter:Expr)(wi:TI):Prop:=
 ∀(pins:List (Addr×Obj)) (s:Shared) (σ:St) (H:Hp) (R:It->Hp->Prop),Inv X pins σ H s->wi σ H R->
  wpAny (model X.prog X.w) X.A (eval iter X.env) (λv s1=>wpAny (model X.prog X.w) X.A (pyIter v) (Cc X pins σ tg R) X.xe s1) X.xe s
def qu{s:Shared}{Q:Unit->Shared->Prop}(e:s.heap.get? c=some o)(f:o.cls=.type n)(g:o.data=.fields d)
  (i:["enumerate","zip","dict_itemiterator","dict_reverseitemiterator","odict_iterator","itertools.zip_longest","itertools.pairwise"].contains n=false) (a:Q () s):wpAny M A (letOwnedTupleGo b (.ref c) u) Q E s:=by
 unfold letOwnedTupleGo
 cases b<;>first
  |exact LN a
  |(cases u<;>first
    |exact LN a
    |(refine Lw (wpAny_load e ?_)
      rw [f,g]
      show wpAny M A (if (["enumerate","zip","dict_itemiterator","dict_reverseitemiterator","odict_iterator","itertools.zip_longest","itertools.pairwise"].contains n&&d[0]?==some (rawInt _))=true then _ else _) Q E s
      rw [LG (by intro h;rw [i,Bool.false_and] at h;cases h)]
      exact LN a))
def zl (K:PySem.W.Frag)(a:Addr):It:=
 ⟨λi H=>∃xs x,aP K H a xs/\xs[i]?=some x,λi H x H'=>H'=H/\∀xs,aP K H a xs->xs[i]?=some x,λi H=>∃xs,aP K H a xs/\xs.length<=i⟩
def BE (K:PySem.W.Frag)(a:Addr):It:=
 ⟨λi H=>∃xs x,bq K H a xs/\xs[i]?=some x,λi H x H'=>H'=H/\∀xs,bq K H a xs->xs[i]?=some x,λi H=>∃xs,bq K H a xs/\xs.length<=i⟩
def wT (lo:Int)(n:Nat):It:=⟨λi _=>i<n,λi H x H'=>H'=H/\x=.int (lo+i),λi _=>n<=i⟩
def DB {P:Program}{w:World}{K:W.Frag}{tg:Expr}(a it:Addr):jd P w K tg (zl K a) [it] it (λi h=>h.IsListIter it a i) where
 mem:=by simp
 obj:=λi h st b hb=>by
  have e:b=it:=by simpa using hb
  subst e
  obtain ⟨o,e,c,d⟩:=st
  exact ⟨o,e,λv z=>by rw [d] at z;cases z⟩
 keep:=λi h h' st k=>st.at λo e=>k it Z8 o e
 item:=by
  intro X hP hw hK hc i pins s σ H E I hf st hg
  subst hP hw hK
  obtain ⟨xs,x,hq,hx⟩:=hg
  obtain ⟨its,rv,p,hz⟩:=I.list hq
  obtain ⟨u,hu,ru⟩:=rv.get hx
  obtain ⟨f0,f1,f2,f3,f4,f5⟩:=hf it Z8
  refine wpAny_pyNext_list_item st p.isList (x:=u) (by simpa using hu) λh' st' sb=>?_
  have I1:Inv X pins σ H {s with heap:=h'}:=I.turned (t':=s.toks) (λb o hb e=>(sb.2 b hb).trans e) f0 f1 f3 f4 f5
  obtain ⟨o,e,c,d⟩:=id st'
  exact ⟨u,rfl,qu (s:={s with heap:=h'}) e c d Z1 ⟨x,H,I1,ru,⟨rfl,λys hy=>by rw [I.tF hy hq];exact hx⟩,st',λb hb=>(hf b hb).1⟩⟩
 done:=by
  intro X hP hw hK hc i pins s σ H E I hf st hg
  subst hP hw hK
  obtain ⟨xs,hq,hx⟩:=hg
  obtain ⟨its,rv,p,hz⟩:=I.list hq
  obtain ⟨f0,f1,f2,f3,f4,f5⟩:=hf it Z8
  have hl:=rv.length
  exact wpAny_pyNext_list_end (I.ok.hd hc) st p.isList (by simp;omega) λh' eb=>⟨rfl,I.turned (t':=s.toks) (λb o hb e=>eb b o hb e) f0 f1 f3 f4 f5⟩
 self:=λ_ _ _ _ _ st h=>wpAny_pyIter_listiter st h
def Iz {P:Program}{w:World}{K:W.Frag}{tg:Expr}(a it:Addr):jd P w K tg (BE K a) [it] it (λi h=>h.IsTupleIter it a i) where
 mem:=by simp
 obj:=λi h st b hb=>by
  have e:b=it:=by simpa using hb
  subst e
  obtain ⟨o,e,c,d⟩:=st
  exact ⟨o,e,λv z=>by rw [d] at z;cases z⟩
 keep:=λi h h' st k=>st.at λo e=>k it Z8 o e
 item:=by
  intro X hP hw hK hc i pins s σ H E I hf st hg
  subst hP hw hK
  obtain ⟨xs,x,hq,hx⟩:=hg
  obtain ⟨its,rv,p,hz⟩:=I.tuple hq
  obtain ⟨u,hu,ru⟩:=rv.get hx
  obtain ⟨f0,f1,f2,f3,f4,f5⟩:=hf it Z8
  refine wpAny_pyNext_tuple_item st (show s.heap.IsTuple a its.toArray from p) (x:=u) (by simpa using hu) λh' st' sb=>?_
  have I1:Inv X pins σ H {s with heap:=h'}:=I.turned (t':=s.toks) (λb o hb e=>(sb.2 b hb).trans e) f0 f1 f3 f4 f5
  obtain ⟨o,e,c,d⟩:=id st'
  exact ⟨u,rfl,qu (s:={s with heap:=h'}) e c d Z1 ⟨x,H,I1,ru,⟨rfl,λys hy=>by rw [I.xc hy hq];exact hx⟩,st',λb hb=>(hf b hb).1⟩⟩
 done:=by
  intro X hP hw hK hc i pins s σ H E I hf st hg
  subst hP hw hK
  obtain ⟨xs,hq,hx⟩:=hg
  obtain ⟨its,rv,p,hz⟩:=I.tuple hq
  obtain ⟨f0,f1,f2,f3,f4,f5⟩:=hf it Z8
  have hl:=rv.length
  exact wpAny_pyNext_tuple_end (I.ok.hd hc) st (show s.heap.IsTuple a its.toArray from p) (by simp;omega) λh' eb=>⟨rfl,I.turned (t':=s.toks) (λb o hb e=>eb b o hb e) f0 f1 f3 f4 f5⟩
 self:=λ_ _ _ _ _ st h=>wpAny_pyIter_tupleiter st h
def C7 {P:Program}{w:World}{K:W.Frag}{tg:Expr}(it:Addr)(lo:Int)(n:Nat):jd P w K tg (wT lo n) [it] it (λi h=>IsRangeIter h it (lo+(i:Nat)*1) ((n:Int)-(i:Nat)) 1) where
 mem:=by simp
 obj:=λi h st b hb=>by
  have e:b=it:=by simpa using hb
  subst e
  exact ⟨_,st,λv z=>by
   have z':Data.fields _=Data.cell v:=z
   cases z'⟩
 keep:=λi h h' st k=>k it Z8 _ st
 item:=by
  intro X hP hw hK hc i pins s σ H E I hf st hg
  subst hP hw hK
  obtain ⟨f0,f1,f2,f3,f4,f5⟩:=hf it Z8
  have W:=Walks.range (prog:=X.prog) (w:=X.w) (I.ok.hd hc) it lo 1 n
  refine W.item i s _ _ hg st λv h' tk hv st' kk=>?_
  obtain ⟨t,rfl⟩:=hv
  have I1:Inv X pins σ H {s with heap:=h',toks:=tk}:=I.turned (λb o hb e=>kk b o (by simpa using hb) e) f0 f1 f3 f4 f5
  refine ⟨_,rfl,qu (s:={s with heap:=h',toks:=tk}) (n:="range_iterator") st' rfl rfl Z1 ⟨.int<|lo+i,H,I1,⟨t,?_⟩,⟨rfl,rfl⟩,st',λb hb=>(hf b hb).1⟩⟩
  rw [Int.mul_one]
 done:=by
  intro X hP hw hK hc i pins s σ H E I hf st hg
  subst hP hw hK
  obtain ⟨f0,f1,f2,f3,f4,f5⟩:=hf it Z8
  exact wpAny_pyNext_range_end (I.ok.hd hc) st (by have:n<=i:=hg;omega) λh' eb=>⟨rfl,I.turned (t':=s.toks) (λb o hb e=>eb b o hb e) f0 f1 f3 f4 f5⟩
 self:=λ_ _ _ _ _ st h=>wpAny_pyIter_rangeiter st h
end L2
namespace L2
open PySem PySem.Spec PyProof.Rows
section
variable {X:Cx}{tg:Expr}
def kg (K:PySem.W.Frag)(tl:TE):TI:=λσ H R=>tl σ H λx H1=>∃a,x=.ref a/\(∃xs,aP K H1 a xs)/\R (zl K a) H1
def lN (K:PySem.W.Frag)(tl:TE):TI:=λσ H R=>tl σ H λx H1=>∃a,x=.ref a/\(∃xs,bq K H1 a xs)/\R (BE K a) H1
def KU(i:PE X l g):PI X tg l (kg X.K g):=by
 intro c s j H R I h
 refine aS (i c s j H _ I h) λv d k=>?_
 obtain ⟨x,m,f,n,r⟩:=k
 obtain ⟨a,e,⟨y,t⟩,q⟩:=r
 subst e
 cases n
 obtain ⟨u,z,p,A⟩:=f.list t
 refine Nj p.isList ?_
 refine ⟨d.heap.objs.size,[d.heap.objs.size],_,_,m,rfl,f.kept (t':=d.toks) λb o e=>LC _ e,DB a _,⟨_,L0 _ rfl,rfl,rfl⟩,λb w=>?_,q⟩
 have e:b=d.heap.objs.size:=by simpa using w
 subst e
 exact f.hZ (LF _)<|f.az.fresh<|LF _
def J2(j:PE X l i):PI X tg l (lN X.K i):=by
 intro c s k H R I h
 refine aS (j c s k H _ I h) λv d m=>?_
 obtain ⟨x,n,f,r,t⟩:=m
 obtain ⟨a,e,⟨y,u⟩,q⟩:=t
 subst e
 cases r
 obtain ⟨g,z,p,A⟩:=f.tuple u
 refine OA (show d.heap.IsTuple a g.toArray from p) ?_
 refine ⟨d.heap.objs.size,[d.heap.objs.size],_,_,n,rfl,f.kept (t':=d.toks) λb o e=>LC _ e,Iz a _,⟨_,L0 _ rfl,rfl,rfl⟩,λb w=>?_,q⟩
 have e:b=d.heap.objs.size:=by simpa using w
 subst e
 exact f.hZ (LF _)<|f.az.fresh<|LF _
def JF{R:It->Hp->Prop}{lo:Int}(I:Inv X c d H s)(h:-(2^62)<=lo)(i:lo<2^62)(j:-(2^62)<=a)(k:a<2^62)
  (q:R (wT lo (a-lo).toNat) H):wpAny (model X.prog X.w) X.A (pyIter (.ref s.heap.objs.size)) (Cc X c d tg R) E {s with heap:=s.heap.push {cls:=.type "range",data:=.fields #[.int lo t,.int a u,.int 1 v]},toks:=f}:=by
 refine wpAny_pyIter_range (IsRange.new ..) (small_one h i j k) ?_
 have g:Inv X c d H {s with heap:=s.heap.push {cls:=.type "range",data:=.fields #[.int lo t,.int a u,.int 1 v]},toks:=f}:=I.kept λb o e=>LC _ e
 refine ⟨(s.heap.push {cls:=.type "range",data:=.fields #[.int lo t,.int a u,.int 1 v]}).objs.size,[(s.heap.push {cls:=.type "range",data:=.fields #[.int lo t,.int a u,.int 1 v]}).objs.size],_,_,H,rfl,
  g.kept (t':=f) λb o e=>LC _ e,C7 _ lo (a-lo).toNat,?_,λb l=>?_,q⟩
 .have m:lo+((0:Nat):Int)*1=lo:=by simp
  have n:(((a-lo).toNat:Nat):Int)-((0:Nat):Int)=Builtin.Range.rangeSize lo a 1:=by rw [rangeSize_one];split<;>omega
  show IsRangeIter _ _ (lo+((0:Nat):Int)*1) ((((a-lo).toNat:Nat):Int)-((0:Nat):Int)) 1
  rw [m,n]
  exact L0 _ rfl
 .have e:b=(s.heap.push {cls:=.type "range",data:=.fields #[.int lo t,.int a u,.int 1 v]}).objs.size:=by simpa using l
  subst e
  exact g.hZ (LF _)<|g.az.fresh<|LF _
def wJ (ta:TA):TI:=λσ H R=>ta σ H λvs H1=>∃j:Int,vs=[.int j]/\-(2^62)<=j/\j<2^62/\R (wT 0 j.toNat) H1
def nj{a:Expr}(g:Gl X "range")(i:X.mg "range"=none)(k:PA X [a] f)(l:starEach [a] X.env=[(false,eval a X.env)]:=by rfl):PI X tg (.Call (.Name "range" p) [a] [] b) (wJ f):=by
 intro c s m H R I h
 refine Call_<|jX I g i boot_range<|M5 (aS (k b c s m H _ I h) λw x ⟨y,z,n,o,d⟩=>?_) l rfl
 obtain ⟨j,e,d,u,q⟩:=d
 subst e
 cases o with
 |cons r v=>
  cases v
  obtain ⟨t,rfl⟩:=r
  exact call_range_1<|JF n Z4 Z4 d u (by simpa using q)
def mK (wi:TI)(g:TG)(tb:TS):TS:=λD σ H=>wi σ H λJ H1=>∃W:Nat->Nat->St->Hp->Prop,(∃m,W 0 m σ H1)/\∀i m σ H,W i m σ H->
 (J.stop i H/\D.nx σ H)\/(J.go i H/\∃N:St->Hp->Prop,(∀σ' H',N σ' H'->∃m',m'<m/\W (i+1) m' σ' H')/\∀x H',J.on i H x H'->g x σ H' λσ2 H2=>tb {D with nx:=N,ct:=N,bk:=D.nx} σ2 H2)
def pS (fp:List Addr)(h:Heap):List (Addr×Obj):=fp.filterMap λb=>(h.get? b).map λo=>(b,o)
def um{a:ZX}{h:Heap}(c:b∈a)(e:h.get? b=some o):(b,o)∈pS a h:=OB.mpr ⟨b,c,by rw [e];rfl⟩
def Ky(c:p∈pS a h):p.1∈a/\h.get? p.1=some p.2:=by
 obtain ⟨b,d,e⟩:=OB.mp c
 cases q:h.get? b with
 |none=>rw [q] at e;cases e
 |some o=>
  rw [q] at e
  have f:(b,o)=p:=LQ e
  subst f
  exact ⟨d,q⟩
def Inv.pinned{c:ZX}(I:Inv X a f H s)(i:∀b∈c,iE X a H b)(j:∀b∈c,∃o,s.heap.get? b=some o/\∀v,o.data≠.cell v):Inv X (a++pS c s.heap) f H s:=
 I.zZ λp k=>(LY.mp k).elim (λz=>I.pin p<|LH _ z) λz=>by
  obtain ⟨g,e⟩:=Ky z
  obtain ⟨l,m,n,_⟩:=i p.1 g
  obtain ⟨o,h,d⟩:=j p.1 g
  rw [e] at h;cases h
  exact ⟨e,l,m,n,d⟩
def Inv.t9(I:Inv X (a++c) b H s):Inv X a b H s:=I.zZ λp d=>I.pin p<|LH _<|LL _ d
def de{iter:Expr}(E:PassesOwn (model X.prog X.w) X.A X.env X.xe)(hc:X.calm=true)(hi:PI X tg iter wi)(hg:PG X tg g)(j:gw X z tb)
  (hs:∀x,foldedSetIterable iter X.env x=pure x:=by intro _;rfl):PS X (.For tg iter z [] ac) (mK wi g tb):=by
 intro a s σ H D I h
 refine wpAny_For (aS (hi a s σ H _ I h) λv s1 h1=>aS h1 λao s2 h2=>?_) hs
 obtain ⟨it,G,tn,J,H2,e,I2,T,af,f2,W,⟨m0,w0⟩,L⟩:=h2
 subst e
 have k:∀{y:Hp},(∀b∈G,y b=none)->∀b∈G,iE X a y b:=λhn b j=>⟨hn b j,(f2 b j).2⟩
 refine codeAny_forLoop_any (λn s'=>∃i l y,Inv X a l y s'/\tn i s'.heap/\(∀b∈G,y b=none)/\W i n l y) ?_ m0 ⟨0,σ,H2,I2,af,λb j=>(f2 b j).1,w0⟩
 rintro n s3 ⟨i,p,Y,I3,M,O,w3⟩
 rcases L i n p Y w3 with ⟨Q,qn⟩|⟨go,N,hN,step⟩
 .refine NA E (aS (T.done X rfl rfl rfl hc i a s3 p Y X.xe I3 (k O) M Q) λr s4 q0=>?_)
  obtain ⟨hr,I4⟩:=q0
  subst hr
  exact O3 ⟨p,Y,I4,qn⟩
 .refine NA E (aS (T.item X rfl rfl rfl hc i a s3 p Y X.xe I3 (k O) M go) λr s4 q1=>?_)
  obtain ⟨u,hr,h4⟩:=q1
  subst hr
  refine NA E<|aS h4 λ_ s5 q2=>?_
  obtain ⟨x,H5,I5,r5,y5,C,aj⟩:=q2
  have am:=I5.pinned (k aj)<|T.obj _ _ C
  refine NA E<|aS (hg _ s5 p H5 x u _ am r5<|step x H5 y5) λ_ s6 q3=>?_
  obtain ⟨an,H6,I6,q6⟩:=q3
  refine NA E<|aS (j _ s6 an H6 _ I6 q6) λf s7 B=>?_
  have again:∀{c:St} {q:Hp},Inv X (a++pS G s5.heap) c q s7->N c q->∃m,m<n/\∃i l y,Inv X a l y s7/\tn i s7.heap/\(∀b∈G,y b=none)/\W i m l y:=λ{c q} t U=>by
   obtain ⟨m',hm,w7⟩:=hN c q U
   refine ⟨m',hm,i+1,c,q,t.t9,T.keep _ _ _ C λb j o e=>(t.pin (b,o)<|LH _<|LH _<|um j e).1,λb j=>?_,w7⟩
   obtain ⟨o,e,d⟩:=T.obj _ _ C b j
   exact (t.pin (b,o)<|LH _<|LH _<|um j e).2.1
  cases f with
  |next=>obtain ⟨c,q,t,U⟩:=B;exact again t U
  |cont=>obtain ⟨c,q,t,U⟩:=B;exact again t U
  |brk=>obtain ⟨c,q,t,B⟩:=B;exact ⟨c,q,t.t9,B⟩
  |ret v=>obtain ⟨x7,c,q,t,r7,B⟩:=B;exact ⟨x7,c,q,t.t9,r7,B⟩
end
end L2
namespace L2
open PySem PySem.Spec PyProof.Rows
abbrev R2:=V->V->Hp->VK->Prop
def cK (X:Cx)(f:Value->Value->Sem Value)(r:R2):Prop:=
 ∀(pins:List (Addr×Obj)) (s:Shared) (σ:St) (H:Hp) (x y:V) (v u:Value) (Q:VK),Inv X pins σ H s->RelV x v->RelV y u->r x y H Q->
  wpAny (model X.prog X.w) X.A (f v u) (EP X pins σ Q) X.xe s
def vN (X:Cx)(f:Value->Sem Value)(r:V->Hp->VK->Prop):Prop:=
 ∀(pins:List (Addr×Obj)) (s:Shared) (σ:St) (H:Hp) (x:V) (v:Value) (Q:VK),Inv X pins σ H s->RelV x v->r x H Q->
  wpAny (model X.prog X.w) X.A (f v) (EP X pins σ Q) X.xe s
def il (X:Cx)(f:Value)(r:List V->Hp->VK->Prop):Prop:=
 ∀(pins:List (Addr×Obj)) (s:Shared) (σ:St) (H:Hp) (xs:List V) (us:List Value) (Q:VK),Inv X pins σ H s->a9 xs us->r xs H Q->
  wpAny (model X.prog X.w) X.A (call f us) (EP X pins σ Q) X.xe s
def Fq (X:Cx)(r:V->Hp->(Bool->Hp->Prop)->Prop):Prop:=
 ∀(pins:List (Addr×Obj)) (s:Shared) (σ:St) (H:Hp) (x:V) (v:Value) (Q:Bool->Hp->Prop),Inv X pins σ H s->RelV x v->r x H Q->
  wpAny (model X.prog X.w) X.A (truthy v) (TP X pins σ Q) X.xe s
def bY (r:R2)(ta tb:TE):TE:=λσ H Q=>ta σ H λx H1=>tb σ H1 λy H2=>r x y H2 Q
def BO (r:V->Hp->VK->Prop)(ta:TE):TE:=λσ H Q=>ta σ H λx H1=>r x H1 Q
def rI (C:Int->Int->Prop)(g:Int->Int->V):R2:=λx y H Q=>∃i j,x=.int i/\y=.int j/\C i j/\Q (g i j) H
def f9 (g:Int->Int->V):R2:=λx y H Q=>∃i j,x=.int i/\y=.int j/\Q (g i j) H
def rU (g:Int->V):V->Hp->VK->Prop:=λx H Q=>∃i,x=.int i/\Q (g i) H
section
variable {X:Cx}{a b c:Expr}{ta tb tc:TE}{pos:Pos}
def xa(m:PE X a ta)(n:PE X b tb){R:V->V->Hp->Prop}(I:Inv X d e H s)
  (h:ta e H λx l=>tb e l λy g=>R x y g)  {f:Value->Value->Sem Value}
  (o:∀v u k x y g,Inv X d e g k->RelV x v->RelV y u->R x y g->wpAny (model X.prog X.w) X.A (f v u) Q X.xe k):
  wpAny (model X.prog X.w) X.A (eval a X.env) (λv i=>wpAny (model X.prog X.w) X.A (eval b X.env) (λu j=>wpAny (model X.prog X.w) X.A (f v u) Q X.xe j) X.xe i) X.xe s:=by
 refine aS (m d s e H _ I h) λv p q=>?_
 obtain ⟨x,l,r,t,z⟩:=q
 refine aS (n d p e l _ r z) λu k B=>?_
 obtain ⟨y,g,C,E,G⟩:=B
 exact o v u k x y g C t E G
def cW(f:cK X (binaryOp e) r)(g:PE X a ta)(i:PE X b tb):PE X (.BinOp a e b pos) (bY r ta tb):=by
 intro d s j H Q I h
 exact wpAny_BinOp<|xa g i I h λv u k x y l m n o q=>f d k j l x y v u Q m n o q
def iQ(g:vN X (unaryOp e) r)(i:PE X a ta):PE X (.UnaryOp e a pos) (BO r ta):=by
 intro d s f H Q I h
 exact UnaryOp_<|aS (i d s f H _ I h) λv j k=>by obtain ⟨x,l,m,n,o⟩:=k;exact g d j f l x v Q m n o
def rZ {f:Value->Value->Sem Value}{C:Int->Int->Prop}{g:Int->Int->Int}
  (rule:∀(i j:Int) (t u:Tok) (s:Shared) (Q:ZT) (E:ZT),C i j->Q (.int (g i j) s.toks) {s with toks:=s.toks+1}->wpAny (model X.prog X.w) X.A (f (.int i t) (.int j u)) Q E s):
  cK X f (rI C λi j=>.int (g i j)):=by
 intro d s n H x y v u Q I e k h
 obtain ⟨i,j,rfl,rfl,l,q⟩:=h
 obtain ⟨t,rfl⟩:=e
 obtain ⟨m,rfl⟩:=k
 exact rule i j t m s _ _ l ⟨.int<|g i j,H,I.tok _,⟨_,rfl⟩,q⟩
def y2 {f:Value->Value->Sem Value}{g:Int->Int->Int}
  (rule:∀(i j:Int) (t u:Tok) (s:Shared) (Q:ZT) (E:ZT),Q (.int (g i j) s.toks) {s with toks:=s.toks+1}->wpAny (model X.prog X.w) X.A (f (.int i t) (.int j u)) Q E s):
  cK X f (f9 λi j=>.int (g i j)):=by
 intro d s m H x y v u Q I e k h
 obtain ⟨i,j,rfl,rfl,q⟩:=h
 obtain ⟨t,rfl⟩:=e
 obtain ⟨l,rfl⟩:=k
 exact rule i j t l s _ _ ⟨.int<|g i j,H,I.tok _,⟨_,rfl⟩,q⟩
def vo {f:Value->Value->Sem Value}{g:Int->Int->Bool}
  (rule:∀(i j:Int) (t u:Tok) (s:Shared) (Q:ZT) (E:ZT),Q (.bool (g i j)) s->wpAny (model X.prog X.w) X.A (f (.int i t) (.int j u)) Q E s):
  cK X f (f9 λi j=>.bl (g i j)):=by
 intro d s m H x y v u Q I e k h
 obtain ⟨i,j,rfl,rfl,q⟩:=h
 obtain ⟨t,rfl⟩:=e
 obtain ⟨l,rfl⟩:=k
 exact rule i j t l s _ _ ⟨.bl<|g i j,H,I,rfl,q⟩
def u3 (i j:Int):Prop:=0<j/\j<1073741824
def wc (i j:Int):Prop:=0<=j/\j<=1000000/\i.natAbs<2^64
def mV (i j:Int):Prop:=(-(2^64)<i/\i<2^64)\/(-(2^64)<j/\j<2^64)
def mV.ok(h:mV i j):IntMulOk i j:=by
 rcases h with ⟨d,e⟩|⟨d,e⟩
 .exact .of_left<|intBits_le_64 d e
 .exact .of_right<|intBits_le_64 d e
def ju:cK X (binaryOp .Add) (f9 λi j=>.int (i+j)):=y2 λ_ _ _ _ _ _ _ q=>add_int q
def GQ:cK X (binaryOp .Sub) (f9 λi j=>.int (i-j)):=y2 λ_ _ _ _ _ _ _ q=>sub_int q
def Bw:cK X (binaryOp .Mult) (rI mV λi j=>.int (i*j)):=rZ λ_ _ _ _ _ _ _ d q=>mul_int q d.ok
def gK:cK X (binaryOp .FloorDiv) (rI u3 λi j=>.int (i/j)):=rZ λi j _ _ _ _ _ d q=>by
 have e:(0:Int)<j:=d.1
 have f:j<1073741824:=d.2
 exact floordiv_int Z4 (by rw [Int.fdiv_eq_ediv_of_nonneg i Z4];exact q) (.inl<|PyProof.noPylong_small Z4)
def eI:cK X (binaryOp .Mod) (rI (λ_ j=>0<j) λi j=>.int (i%j)):=rZ λi j _ _ _ _ _ d q=>by
 have e:(0:Int)<j:=d
 exact mod_int' Z4 (by rw [Int.fmod_eq_emod_of_nonneg i Z4];exact q)
def Jw:cK X (binaryOp .Pow) (rI wc λi j=>.int (i^j.toNat)):=rZ λ_ _ _ _ _ _ _ d q=>pow_int_small d.1 d.2.1 d.2.2 q
def Ke {f:Value->Sem Value}{g:Int->Int}
  (rule:∀(i:Int) (t:Tok) (s:Shared) (Q:ZT) (E:ZT),Q (.int (g i) s.toks) {s with toks:=s.toks+1}->wpAny (model X.prog X.w) X.A (f (.int i t)) Q E s):
  vN X f (rU λi=>.int (g i)):=by
 intro d s j H x v Q I e h
 obtain ⟨i,rfl,q⟩:=h
 obtain ⟨t,rfl⟩:=e
 exact rule i t s _ _ ⟨.int<|g i,H,I.tok _,⟨_,rfl⟩,q⟩
def iM:vN X (unaryOp .USub) (rU λi=>.int (-i)):=Ke λ_ _ _ _ _ q=>neg_int q
end
def xA:V->V->Bool
 |.av,.av=>true|.av,.int _=>true|.int _,.av=>true|.av,.bl _=>true|.bl _,.av=>true|.av,.str _=>true|.str _,.av=>true
 |.int _,.int _=>true|.bl _,.bl _=>true|.str _,.str _=>true|.gr _,.gr _=>true
 |.int _,.str _=>true|.str _,.int _=>true|.bl _,.str _=>true|.str _,.bl _=>true
 |_,_=>false
def ua:R2:=λx y H Q=>xA x y=true/\Q (.bl (decide (x=y))) H
def oY:R2:=λx y H Q=>xA x y=true/\Q (.bl (!decide (x=y))) H
def CU:decide (V.int i=V.int j)=(i==j):=by
 rw [Ms]
 simp
def BS:decide (V.bl i=V.bl j)=(i==j):=by
 rw [Ms]
 simp
def yD:decide (V.str i=V.str j)=(i==j):=by
 rw [Ms]
 simp
def y9:decide (V.gr i=V.gr j)=(i.toList==j.toList):=by
 rw [Ms]
 cases i
 cases j
 simp
section
variable {X:Cx}{a b c:Expr}{ta tb tc:TE}{pos:Pos}
def c6{Q:VK}(I:Inv X d f H s)(q:Q (.bl k) H)(e:k=g):EP X d f Q (.bool g) s:=by
 subst e
 exact ⟨.bl k,H,I,rfl,q⟩
def Ai:cK X (compareOp .Eq) ua:=by
 intro k s l H x y v u Q I g d h
 obtain ⟨f,q⟩:=h
 cases x with
 |av=>
  cases g
  cases y with
  |av=>cases d;exact PySem.EqNone.eq_none_none<|c6 I q Z8
  |bl j=>cases d;exact PySem.EqNone.eq_none_bool<|c6 I q Z8
  |int j=>obtain ⟨e,rfl⟩:=d;exact PySem.EqNone.eq_none_int<|c6 I q Z8
  |str j=>obtain ⟨e,rfl⟩:=d;exact PySem.EqNone.eq_none_str<|c6 I q Z8
  |_=>exact absurd (show false=true from f) LI
 |bl i=>
  cases g
  cases y with
  |av=>cases d;exact PySem.EqNone.eq_bool_none<|c6 I q Z8
  |bl j=>cases d;exact eq_bool<|c6 I q BS
  |str j=>obtain ⟨e,rfl⟩:=d;exact PySem.EqMixed.eq_bool_str<|c6 I q Z8
  |_=>exact absurd (show false=true from f) LI
 |int i=>
  obtain ⟨t,rfl⟩:=g
  cases y with
  |av=>cases d;exact PySem.EqNone.eq_int_none<|c6 I q Z8
  |int j=>obtain ⟨e,rfl⟩:=d;exact eq_int<|c6 I q CU
  |str j=>obtain ⟨e,rfl⟩:=d;exact PySem.EqMixed.eq_int_str<|c6 I q Z8
  |_=>exact absurd (show false=true from f) LI
 |str i=>
  obtain ⟨t,rfl⟩:=g
  cases y with
  |av=>cases d;exact PySem.EqNone.eq_str_none<|c6 I q Z8
  |bl j=>cases d;exact PySem.EqMixed.eq_str_bool<|c6 I q Z8
  |int j=>obtain ⟨e,rfl⟩:=d;exact PySem.EqMixed.eq_str_int<|c6 I q Z8
  |str j=>obtain ⟨e,rfl⟩:=d;exact eq_str<|c6 I q yD
  |_=>exact absurd (show false=true from f) LI
 |gr i=>
  obtain ⟨t,rfl⟩:=g
  cases y with
  |gr j=>obtain ⟨e,rfl⟩:=d;exact W.eq_bytes<|c6 I q y9
  |_=>exact absurd (show false=true from f) LI
 |_=>cases y<;>exact absurd (show false=true from f) LI
def Bn:cK X (compareOp .NotEq) oY:=by
 intro k s l H x y v u Q I g d h
 obtain ⟨f,q⟩:=h
 cases x with
 |av=>
  cases g
  cases y with
  |av=>cases d;exact PySem.EqNone.ne_none_none<|c6 I q Z8
  |bl j=>cases d;exact PySem.EqNone.ne_none_bool<|c6 I q Z8
  |int j=>obtain ⟨e,rfl⟩:=d;exact PySem.EqNone.ne_none_int<|c6 I q Z8
  |str j=>obtain ⟨e,rfl⟩:=d;exact PySem.EqNone.ne_none_str<|c6 I q Z8
  |_=>exact absurd (show false=true from f) LI
 |bl i=>
  cases g
  cases y with
  |av=>cases d;exact PySem.EqNone.ne_bool_none<|c6 I q Z8
  |bl j=>cases d;exact ne_bool<|c6 I q<|MA not BS
  |str j=>obtain ⟨e,rfl⟩:=d;exact PySem.EqMixed.ne_bool_str<|c6 I q Z8
  |_=>exact absurd (show false=true from f) LI
 |int i=>
  obtain ⟨t,rfl⟩:=g
  cases y with
  |av=>cases d;exact PySem.EqNone.ne_int_none<|c6 I q Z8
  |int j=>obtain ⟨e,rfl⟩:=d;exact ne_int<|c6 I q<|MA not CU
  |str j=>obtain ⟨e,rfl⟩:=d;exact PySem.EqMixed.ne_int_str<|c6 I q Z8
  |_=>exact absurd (show false=true from f) LI
 |str i=>
  obtain ⟨t,rfl⟩:=g
  cases y with
  |av=>cases d;exact PySem.EqNone.ne_str_none<|c6 I q Z8
  |bl j=>cases d;exact PySem.EqMixed.ne_str_bool<|c6 I q Z8
  |int j=>obtain ⟨e,rfl⟩:=d;exact PySem.EqMixed.ne_str_int<|c6 I q Z8
  |str j=>obtain ⟨e,rfl⟩:=d;exact ne_str<|c6 I q<|MA not yD
  |_=>exact absurd (show false=true from f) LI
 |gr i=>
  obtain ⟨t,rfl⟩:=g
  cases y with
  |gr j=>obtain ⟨e,rfl⟩:=d;exact W.ne_bytes<|c6 I q<|MA not y9
  |_=>exact absurd (show false=true from f) LI
 |_=>cases y<;>exact absurd (show false=true from f) LI
def nD:cK X (compareOp .Lt) (f9 λi j=>.bl (decide (i<j))):=vo λ_ _ _ _ _ _ _ q=>lt_int q
def mn:cK X (compareOp .Gt) (f9 λi j=>.bl (decide (j<i))):=vo λ_ _ _ _ _ _ _ q=>gt_int q
def CT:cK X (compareOp .GtE) (f9 λi j=>.bl (decide (j<=i))):=vo λ_ _ _ _ _ _ _ q=>ge_int q
def Kn:cK X (compareOp .IsNot) (λx y H Q=>y=.av/\Q (.bl (!decide (x=.av))) H):=by
 intro d s g H x y v u Q I e f h
 obtain ⟨rfl,q⟩:=h
 cases f
 refine isnot_none_gen<|c6 I q ?_
 cases x<;>first
  |(cases e;rfl)
  |(obtain ⟨t,rfl⟩:=e;rfl)
def cK.or(h:cK X f r)(k:cK X f e):cK X f (λx y H Q=>r x y H Q\/e x y H Q):=by
 intro d s g H x y v u Q I i j q
 rcases q with q|q
 .exact h d s g H x y v u Q I i j q
 .exact k d s g H x y v u Q I i j q
def BQ(b:Expr)(h:d≠.In:=by decide)(e:d≠.NotIn:=by decide):behindInMarks d b=false:=by
 have f:(d==CmpOp.In)=false:=by cases d<;>first|rfl|exact absurd rfl h
 have g:(d==CmpOp.NotIn)=false:=by cases d<;>first|rfl|exact absurd rfl e
 cases b<;>simp [behindInMarks,f,g]
def GD(f:cK X (compareOp e) r)(g:PE X a ta)(i:PE X b tb)(j:behindInMarks e b=false):PE X (.Compare a [e] [b] pos) (bY r ta tb):=by
 intro d s k H Q I h
 exact wpAny_Compare1 (xa g i I h λv u l x y m n o p q=>f d l k m x y v u Q n o p q) j
def sM (t:TE):TT:=λσ H Q=>t σ H λx H'=>∃k,x=.bl k/\Q k H'
theorem ID {op:CmpOp}{r:R2}(ho:cK X (compareOp op) r)(ha:PE X a ta)(hb:PE X b tb)(hm:behindInMarks op b=false):PT X (.Compare a [op] [b] pos) (sM (bY r ta tb)):=by
 intro pins s σ H Q I h
 refine wpAny_isTrue_Compare1 (aS (ha pins s σ H _ I h) fun v s1 ⟨x,H1,I1,r1,q1⟩=>aS (hb pins s1 σ H1 _ I1 q1) fun u s2 ⟨y,H2,I2,r2,q2⟩=>
  aS (ho pins s2 σ H2 x y v u _ I2 r1 r2 q2) fun c s3 ⟨z,H3,I3,r3,k,e,q3⟩=>?_) hm
 subst e
 cases r3
 exact wpAny_truthy_bool ⟨H3,I3,q3⟩
def ri (K:PySem.W.Frag)(x:V)(H:Hp)(k:Bool):Prop:=
 match x with
 |.av=>k=false
 |.bl b=>k=b
 |.int i=>k=(i !=0)
 |.str y=>y.length<=sizeLine/\k=((y.length:Int) !=0)
 |.gr y=>y.size<=sizeLine/\k=((y.size:Int) !=0)
 |.ref p=>(∃xs,aP K H p xs/\k= !xs.isEmpty)\/(∃xs,bq K H p xs/\k= !xs.isEmpty)\/∃kvs,H p=some (.dK kvs)/\k= !kvs.isEmpty
 |_=>False
def Dt(r:KV d f):(!f.isEmpty)= !d.isEmpty:=by
 cases r<;>rfl
def Cu(r:a9 e d):(!d.toArray.isEmpty)= !e.isEmpty:=by
 cases r<;>simp
def pF:(sizeLine:Nat)<2^63:=by rw [PF];decide
def Kg:Fq X (λx H Q=>∃k,ri X.K x H k/\Q k H):=by
 intro A s G H x v Q I l h
 obtain ⟨k,e,q⟩:=h
 have J:=pF
 have L:sizeLine=16777216:=PF
 cases x with
 |av=>
  cases l
  have d:k=false:=e
  subst d
  exact truthy_none ⟨H,I,q⟩
 |bl b=>
  cases l
  have d:k=b:=e
  subst d
  exact MT ⟨H,I,q⟩
 |int i=>
  obtain ⟨t,rfl⟩:=l
  have d:k=(i !=0):=e
  subst d
  exact PySem.P.truthy_int ⟨H,I,q⟩
 |str y=>
  obtain ⟨t,rfl⟩:=l
  obtain ⟨C,d⟩:y.length<=sizeLine/\k=((y.length:Int) !=0):=e
  subst d
  exact PySem.P.truthy_str Z4 ⟨H,I.tok _,q⟩
 |gr y=>
  obtain ⟨t,rfl⟩:=l
  obtain ⟨C,d⟩:y.size<=sizeLine/\k=((y.size:Int) !=0):=e
  subst d
  exact W.truthy_bytes Z4 ⟨H,I.tok _,q⟩
 |ref p=>
  cases l
  have d:(∃j,aP X.K H p j/\k= !j.isEmpty)\/(∃j,bq X.K H p j/\k= !j.isEmpty)\/∃f,H p=some (.dK f)/\k= !f.isEmpty:=e
  rcases d with ⟨j,n,d⟩|⟨j,n,d⟩|⟨f,n,d⟩
  .subst d
   obtain ⟨u,r,z,B⟩:=I.list n
   have g:=r.length
   exact wpAny_truthy_list z.isList (by simp only [LU];omega) ⟨H,I.tok _,by rw [Cu r];exact q⟩
  .subst d
   obtain ⟨u,r,z,B⟩:=I.tuple n
   have g:=r.length
   exact truthy_tuple z (by simp only [LU];omega) ⟨H,I.tok _,by rw [Cu r];exact q⟩
  .subst d
   obtain ⟨B,E,o,r,m⟩:f.length<=sizeLine/\(p==sysModules)=false/\∃o,KV f o/\s.heap.DictOf (du X.prog X.w) p o:=I.az p _ n
   have g:f.length=o.length:=Nr r
   exact wpAny_truthy_dict E m Z4 ⟨H,I.tok _,by rw [Dt r];exact q⟩
 |_=>exact (show False from e).elim
def vA (g:PE X a ta)(i:∀f6,isTrue a X.env f6=(do let v<-f6;standAt a.pos;holding [v] (truthy v))):
  PT X a (λe H Q=>ta e H λx f=>∃k,ri X.K x f k/\Q k f):=by
 intro d s e H Q I h
 exact isTrue_plain (aS (g d s e H _ I h) λv j l=>by obtain ⟨x,m,n,o,p⟩:=l;exact Kg d j e m x v Q n o p)<|i _
def PV{x:V}(r:a9 [x] d):∃u,d=[u]/\RelV x u:=by
 cases r with
 |cons e f=>cases f;exact ⟨_,rfl,e⟩
def vals2(r:a9 [x,y] d):∃u e,d=[u,e]/\RelV x u/\RelV y e:=by
 cases r with
 |cons f g=>
  cases g with
  |cons h i=>cases i;exact ⟨_,_,rfl,f,h⟩
def FN (g:X.calm=true):il X (.builtin "max") (λe H Q=>∃i j,e=[.int i,.int j]/\Q (.int (if j>i then j else i)) H):=by
 intro f s l H e m Q I r h
 obtain ⟨i,j,rfl,q⟩:=h
 obtain ⟨u,n,rfl,⟨t,rfl⟩,⟨o,rfl⟩⟩:=vals2 r
 refine max_two_ints (I.ok.hd g) λp v k=>⟨_,H,I.kept k,?_,q⟩
 by_cases d:j>i
 .rw [LJ d,LJ d];exact ⟨_,rfl⟩
 .rw [LG d,LG d];exact ⟨_,rfl⟩
end
end L2
namespace L2
open PySem PySem.Spec PyProof.Rows
structure mP (h:Heap)(x dx C:Addr)(mA:Str->Option Value):Prop where
 obj:h.get? x=some (PySem.W.instObj C dx)
 ns:h.Ns1 dx mA
 ne:dx≠x
def Gh{h:Heap}(n:h.Ns1 c d):∃f,h.get? c=some f/\∀name,W.lookIn name f=some (d name):=by
 obtain ⟨o,g,r,i,j,k,_,l⟩:=n
 refine ⟨o,i,λname=>?_⟩
 have e:=l name
 unfold nsFind findBy at e
 rw [<-Array.find?_toList] at e
 unfold W.lookIn
 rw [j]
 dsimp only
 split
 .rename_i y q
  rw [q] at e
  exact MA some e
 .rename_i q
  rw [q] at e
  have a:g.toList.any (·.refKey)=false:=by
   rw [NB]
   intro y m
   obtain ⟨z,t,b⟩:=k y<|Array.mem_toList_iff.mp m
   simp [DictEntry.refKey,b]
  have p:¬g.toList.any (·.refKey)=true:=by rw [a];exact LI
  rw [LG p]
  exact MA some e
def mP.look(I:mP h x b C c):∃a,W.InstAt h x (W.instObj C b) C (some a)/\∀name,W.lookIn name a=some (c name):=
 let ⟨a,d,e⟩:=Gh I.ns
 ⟨a,⟨I.obj,rfl,rfl,d⟩,e⟩
section
variable {prog:Program}{w:World}{A:Around}{E:Value->Shared->Prop}{s:Shared}{K:PySem.W.Frag}{x dx C f:Addr}{mA:Str->Option Value}{name:Str}{v:Value}
def Ey{Q:ZT}(X:K.In s.heap)(I:mP s.heap x dx C mA)(c:W.plainGet K C name=true)(d:W.hasDictIn K C=true)
  (e:W.findIn K (.ref C) name=some none) (g:mA name=some v) (b:W.handedIn v=true) (h:Q v {s with toks:=s.toks+1}):
  wpAny (model prog w) A (getAttr (.ref x) name a) Q E s:=by
 obtain ⟨j,J,i⟩:=I.look
 exact W.get_value X J (Pd c).1 (W.findObj_own d e rfl (by rw [i,g])) b h
def Jc{Q:Value×List Value->Shared->Prop}(X:K.In s.heap)(I:mP s.heap x dx C mA)(a:W.plainGet K C name=true)
  (c:W.findIn K (.ref C) name=some (some (.ref f))) (d:W.isFn K (.ref f)=true) (e:mA name=none) (h:Q (.ref f,[.ref x]) s):
  wpAny (model prog w) A (getMethod (.ref x) name b) Q E s:=by
 obtain ⟨g,J,i⟩:=I.look
 exact W.method_fn X J (Pd a).1 (Pd a).2 c (OC.mp d) (by show (W.lookIn name g).map (·.isSome)=some false;rw [i,e];rfl) h
def F8{Q:Unit->Shared->Prop}(X:K.In s.heap)(I:mP s.heap x dx C mA)
  (m:W.findIn K (.ref C) "__setattr__"=some (some (.builtin "object.__setattr__"))) (n:W.plainOver K C=true) (o:W.takerIn K C name=some none) (p:W.hasDictIn K C=true)
  (q:PySem.Within mA l) (t:l.length<=sizeLine)
  (h:∀e,mP e x dx C (λy=>if y=name then some v else mA y)->Heap.SameBut dx s.heap e->Q () {s with heap:=e,toks:=s.toks+2}):
  wpAny (model prog w) A (setAttr (.ref x) name v) Q E s:=by
 obtain ⟨H,J,L⟩:=I.look
 refine W.set_plain X J m<|W.osa_open (s:={s with toks:=s.toks+1}) (r:=none) X J n o λb=>?_
 obtain ⟨M,u,g⟩:=W.any_some p
 have z:s.heap.get? x=some ⟨.ref C,some dx,.plain, #[]⟩:=I.obj
 refine Lw<|LN<|Lw<|Lw<|wpAny_loadPart z<|Lw<|W.Looks.here (s:={s with toks:=s.toks+1}) (W.looks_clsIn X u) ?_
 rw [g]
 refine LN (a:=some dx)<|Lw<|LN<|Lw ?_
 refine wpAny_nsSet1 (s:={s with toks:=s.toks+1}) I.ns λe c d=>?_
 obtain ⟨N,B,G,i,j,k⟩:=c.count<|PySem.Within.cons name v q
 refine Lw<|wpAny_lookBehind i (by rw [j];exact pastItsLine_dict<|L8 k (by rw [Mq];omega)) ?_
 exact LN<|h _ ⟨(d.2 _<|MC I.ne).trans I.obj,c,I.ne⟩ d
def Jb(X:K.In s.heap)(e:W.makesIn K C=true)
  (i:W.findIn K (.ref C) "__init__"=some (some (.ref f))) (j:W.typeIn K (.ref f)=some (.type "function"))
  (h:codeAny (model prog w) (A.under (.builtin "type.__call__" ⟨.ref C::b,c⟩)) (.call (.ref f) ⟨.ref (s.heap.objs.size+1)::b,c⟩) (W.InitBack (s.heap.objs.size+1) R)
   {s with heap:=(s.heap.push W.emptyDict).push (W.instObj C s.heap.objs.size)}):
  codeAny (model prog w) A (.call (.ref C) ⟨b,c⟩) R s:=by
 obtain ⟨k,g,d,t,os⟩:=s
 exact W.make_core (W.makes_of X e) (W.looks_findIn X i) (λa=>W.bind_fn X a j) (.inl rfl) h
end
def cV (f:Str)(v:V):List (Str×V)->List (Str×V)
 |[]=>[(f,v)]
 |(g,x)::r=>if g=f then (g,v)::r else (g,x)::cV f v r
theorem AK (f g:Str)(v:V):∀c:List (Str×V),(cV f v c).lookup g=if g=f then some v else c.lookup g
 |[]=>by
  show List.lookup g [(f,v)]=_
  by_cases h:g=f
  .have a:(g==f)=true:=OC.mpr h
   simp only [List.lookup,a,LJ h]
  .have a:(g==f)=false:=ML.mpr h
   simp only [List.lookup,a,LG h]
 |(k,x)::r=>by
  have d:=AK f g v r
  rw [show cV f v ((k,x)::r)=(if k=f then (k,v)::r else (k,x)::cV f v r) from rfl]
  by_cases b:k=f
  .rw [LJ b]
   by_cases h:g=k
   .have a:(g==k)=true:=OC.mpr h
    simp only [List.lookup,a,LJ<|h.trans b]
   .have a:(g==k)=false:=ML.mpr h
    simp only [List.lookup,a,LG λe:g=f=>h<|e.trans b.symm]
  .rw [LG b]
   by_cases h:g=k
   .have a:(g==k)=true:=OC.mpr h
    simp only [List.lookup,a,LG λe:g=f=>b<|h.symm.trans e]
   .have a:(g==k)=false:=ML.mpr h
    simp only [List.lookup,a]
    exact d
theorem u0 (f:Str)(v:V):∀a:List (Str×V),f∈(cV f v a).map (·.1)/\∀g,g∈a.map (·.1)->g∈(cV f v a).map (·.1)
 |[]=>⟨by simp [cV],λg h=>by simp at h⟩
 |(k,x)::r=>by
  obtain ⟨c,d⟩:=u0 f v r
  rw [show cV f v ((k,x)::r)=(if k=f then (k,v)::r else (k,x)::cV f v r) from rfl]
  by_cases b:k=f
  .rw [LJ b]
   subst b
   exact ⟨by simp,λg h=>by simpa using h⟩
  .rw [LG b]
   refine ⟨?_,λg h=>?_⟩
   .rw [Mu]
    exact Lv _ c
   .rw [Mu] at h⊢
    rcases LK.mp h with e|e
    .exact LK.mpr (.inl e)
    .exact Lv _<|d g e
theorem yU (f:Str)(v:V):∀a:List (Str×V),(cV f v a).length<=a.length+1
 |[]=>by simp [cV]
 |(k,x)::r=>by
  have c:=yU f v r
  rw [show cV f v ((k,x)::r)=(if k=f then (k,v)::r else (k,x)::cV f v r) from rfl]
  by_cases b:k=f
  .rw [LJ b,Mq,Mq];omega
  .rw [LG b,Mq,Mq];omega
def eo.some_of(r:eo (some v) o):∃u,o=some u/\RelV v u:=by
 cases o with
 |none=>exact (show False from r).elim
 |some u=>exact ⟨u,rfl,r⟩
def eo.none_of(r:eo none o):o=none:=by
 cases o with
 |none=>rfl
 |some u=>exact (show False from r).elim
def HZ(r:RelV v u):W.handedIn u=true:=by
 cases v with
 |av=>cases (show u=Value.none from r);rfl
 |bl b=>cases (show u=Value.bool b from r);rfl
 |int i=>obtain ⟨t,e⟩:=(show∃t,u=Value.int i t from r);cases e;rfl
 |str x=>obtain ⟨t,e⟩:=(show∃t,u=Value.str x t from r);cases e;rfl
 |gr b=>obtain ⟨t,e⟩:=(show∃t,u=Value.bytes b t from r);cases e;rfl
 |my b=>obtain ⟨t,e⟩:=(show∃t,u=Value.float b t from r);cases e;rfl
 |ref a=>cases (show u=Value.ref a from r);rfl
 |ty n=>cases (show u=Value.type n from r);rfl
section
variable {P:Program}{w:World}{H H':Hp}{h h':Heap}{a C dx:Addr}{fs fs':List (Str×V)}
def ui (az:cT P w H h)(e:H a=some (.ins C dx fs)):∃b,mP h a dx C b/\(∀f,eo (fs.lookup f) (b f))/\PySem.Within b (fs.map (·.1))/\fs.length<=1000/\H dx=some (.own a):=by
 obtain ⟨d,z,c,g,b,n,r,q⟩:=(show bX P w H h a (.ins C dx fs) from az a _ e)
 exact ⟨b,⟨g,n,c⟩,r,q,z,d⟩
end
structure dm (K:PySem.W.Frag)(C:Addr):Prop where
 pg:PySem.W.plainGet K C Str.empty=true
 hd:PySem.W.hasDictIn K C=true
 po:PySem.W.plainOver K C=true
 sa:PySem.W.findIn K (.ref C) "__setattr__"=some (some (.builtin "object.__setattr__"))
def dm.get{K:W.Frag}(c:dm K C)(f:Str):W.plainGet K C f=true:=c.pg
def bO (K:PySem.W.Frag)(C:Addr)(f:Str):Prop:=PySem.W.findIn K (.ref C) f=some none
def bO.Dy{K:W.Frag}(n:bO K C f):W.takerIn K C f=some none:=by
 unfold W.takerIn
 rw [show W.findIn K (.ref C) f=some none from n]
 rfl
structure c8 (K:PySem.W.Frag)(C:Addr)(m:Str)(f:Addr):Prop where
 at_:PySem.W.findIn K (.ref C) m=some (some (.ref f))
 fn:PySem.W.isFn K (.ref f)=true
 kp:PySem.W.keepIn K (.ref f)=true
section
variable {X:Cx}{pins:List (Addr×Obj)}{σ:St}{H:Hp}{s:Shared}{a C dx:Addr}{fs:List (Str×V)}{f:Str}{v:V}{A:Around}{E:Value->Shared->Prop}
def Ja{Q:ZT}(I:Inv X pins σ H s)(e:H a=some (.ins C dx fs))(c:dm X.K C)(n:bO X.K C f)(l:fs.lookup f=some v)
  (h:∀u d,Inv X pins σ H d->RelV v u->Q u d):wpAny (model X.prog X.w) A (getAttr (.ref a) f b) Q E s:=by
 obtain ⟨i,O,r,_,_,_⟩:=ui I.az e
 obtain ⟨u,j,g⟩:=eo.some_of (v:=v) (o:=i f) (by rw [<-l];exact r f)
 exact Ey I.dE O (c.get f) c.hd n j (HZ g)<|h u _ (I.tok _) g
def BP{Q:Value×List Value->Shared->Prop}(I:Inv X pins σ H s)(e:H a=some (.ins C dx fs))(c:dm X.K C)(k:c8 X.K C m g)(l:fs.lookup m=none)
  (h:Q (.ref g,[.ref a]) s):wpAny (model X.prog X.w) A (getMethod (.ref a) m b) Q E s:=by
 obtain ⟨d,O,r,_,_,_⟩:=ui I.az e
 have i:d m=none:=eo.none_of (by rw [<-l];exact r m)
 exact Jc I.dE O (c.get m) k.at_ k.fn i h
def KY{Q:Unit->Shared->Prop}(I:Inv X pins σ H s)(e:H a=some (.ins C dx fs))(c:dm X.K C)(n:bO X.K C f)(N:fs.length<1000)(m:RelV y u)
  (h:∀i,Inv X pins σ (upd H a (.ins C dx (cV f y fs))) i->Q () i):wpAny (model X.prog X.w) A (setAttr (.ref a) f u) Q E s:=by
 obtain ⟨j,O,r,k,_,l⟩:=ui I.az e
 have p:(fs.map (·.1)).length<=sizeLine:=by rw [LA,PF];omega
 refine F8 I.dE O c.sa c.po n.Dy c.hd k p λt d B=>h _ ?_
 have G:∃o,t.get? dx=some o:=let ⟨o,_,_,J,_⟩:=d.ns;⟨o,J⟩
 refine I.write (x:=a) (e:=dx) (by rw [e];exact True.intro) (.inr l) (λb q L z=>(B.2 b L).trans z) G ?_
 refine ⟨by rw [aA O.ne];exact l,?_,O.ne,d.obj,_,d.ns,λg=>?_,λg M=>?_⟩
 .have:=yU f y fs;omega
 .show eo ((cV f y fs).lookup g) (if g=f then some u else j g)
  rw [AK]
  by_cases q:g=f
  .rw [LJ q,LJ q];exact m
  .rw [LG q,LG q];exact r g
 .by_cases q:g=f
  .rw [q];exact (u0 f y fs).1
  .refine (u0 f y fs).2 g (k g λz=>M ?_)
   show (if g=f then some u else j g)=none
   rw [LG q];exact z
def Inv.made (I:Inv X pins σ H s):Inv X pins σ (upd (upd H s.heap.objs.size (.own (s.heap.objs.size+1))) (s.heap.objs.size+1) (.ins C s.heap.objs.size []))
  {s with heap:=(s.heap.push W.emptyDict).push (W.instObj C s.heap.objs.size)}:=by
 have c:(s.heap.push W.emptyDict).get? s.heap.objs.size=some W.emptyDict:=L0 s.heap rfl
 have g:((s.heap.push W.emptyDict).push<|W.instObj C s.heap.objs.size).get? (s.heap.objs.size+1)=some (W.instObj C s.heap.objs.size):=by
  have:=L0 (s.heap.push W.emptyDict) (o:=W.instObj C s.heap.objs.size) rfl
  rwa [MW] at this
 have h:(s.heap.push W.emptyDict).Ns s.heap.objs.size (λ_=>none):=⟨W.emptyDict, #[],_,c,rfl,(λe i=>absurd i Z8),λ_=>rfl⟩
 have j:=I.laid (a:=s.heap.objs.size) (o:=.own<|s.heap.objs.size+1) (h':=s.heap.push W.emptyDict) (t':=s.toks) (λb u q=>LC _ q) (LF _) ⟨_,c⟩
 refine j.laid (a:=s.heap.objs.size+1) (o:=.ins C s.heap.objs.size []) (t':=s.toks) (λb u q=>LC _ q) (P6<|MW _ _) ?_
 have d:s.heap.objs.size≠s.heap.objs.size+1:=Mf<|Nu _
 refine ⟨by rw [aA d,aR],Mb _,d,g,λ_=>none,(Heap.Ns1.of_empty h).at λo q=>LC _ q,λ_=>True.intro,λy k=>absurd rfl k⟩
def DX{f:Str}{s:Shared}(i:attributeBase e f c (eval e c)=eval e c)
  (h:wpAny (model b w) A (eval e c) (λo d=>wpAny (model b w) A (getAttr o f true) Q E d) E s):wpAny (model b w) A (eval (.Attribute e f g) c) Q E s:=
 Attribute_any_ h (by rw [arm_eval_Attribute,i])
end
def kW (K:PySem.W.Frag)(ta:TE)(f:Str):TE:=λσ H Q=>ta σ H λx H1=>∃a C dx fs v,x=.ref a/\H1 a=some (.ins C dx fs)/\dm K C/\bO K C f/\fs.lookup f=some v/\Q v H1
def Ap (K:PySem.W.Frag)(ta tv:TE)(f:Str):TS:=λD σ H=>tv σ H λy H1=>ta σ H1 λx H2=>∃a C dx fs,x=.ref a/\H2 a=some (.ins C dx fs)/\dm K C/\bO K C f/\fs.length<1000/\
 D.nx σ (upd H2 a (.ins C dx (cV f y fs)))
section
variable {X:Cx}{o e value:Expr}{f:Str}{pos pos' tpos:Pos}{ta tv:TE}
def dC (d:PE X e ta)(g:attributeBase e f X.env (eval e X.env)=eval e X.env):PE X (.Attribute e f pos) (kW X.K ta f):=by
 intro b s i H Q I h
 refine DX g<|aS (d b s i H _ I h) λu z j=>?_
 obtain ⟨x,k,m,p,a,C,A,B,v,r,t,c,n,l,q⟩:=j
 subst r
 obtain rfl:u=Value.ref a:=p
 exact Ja m t c n l λE G w y=>⟨v,k,w,y,q⟩
def fL (g:PE X o ta)(i:PE X value tv)(j:swapsWith value (some (.Attribute o f pos')) pos.line X.env=pure false):PS X (.Assign [.Attribute o f pos'] value pos) (Ap X.K ta tv f):=by
 intro b s d H D I h
 refine plainObj_wpAny_Assign_Attribute (aS (i b s d H _ I h) λu k ⟨y,m,p,r,q⟩=>aS (g b k d m _ p q) λt G ⟨x,J,v,w,a,C,L,M,z,A,c,n,l,B⟩=>?_) j
 subst z
 obtain rfl:t=Value.ref a:=w
 exact KY v A c n l r λN E=>⟨d,_,E,B⟩
end
section
variable {X:Cx}{pins:List (Addr×Obj)}{σ:St}{H:Hp}{s:Shared}{A:Around}{E:Value->Shared->Prop}{Q:Value->Shared->Prop}{c:Value}{b:Bool}
inductive gq (K:PySem.W.Frag)(H:Hp):V->Value->Prop where
 |av:gq K H .av (.type "NoneType")
 |bl (x:Bool):gq K H (.bl x) (.type "bool")
 |int (i:Int):gq K H (.int i) (.type "int")
 |str (x:Str):gq K H (.str x) (.type "str")
 |my (x:UInt64):gq K H (.my x) (.type "float")
 |lst {a:Addr} {xs:List V} (e:H a=some (.lst xs)):gq K H (.ref a) (.type "list")
 |cO {a:Addr} {o:Obj} {xs:List V} (e:H a=some (.cO o (.lst xs))):gq K H (.ref a) (.type "list")
 |tup {a:Addr} {xs:List V} (e:H a=some (.tup xs)):gq K H (.ref a) (.type "tuple")
 |dK {a:Addr} {kvs:List (aK×V)} (e:H a=some (.dK kvs)):gq K H (.ref a) (.type "dict")
 |dT {a:Addr} {kvs:List (List aK×V)} (e:H a=some (.dT kvs)):gq K H (.ref a) (.type "dict")
 |ins {a C dx:Addr} {fs:List (Str×V)} (e:H a=some (.ins C dx fs)) (cl:dm K C) (ha:PySem.W.findIn K (.ref C) "__class__"=some (some (.builtin "object.__class__")))
   (hn:PySem.W.specialIn K (.builtin "object.__class__") "__get__"=some (some (.builtin "getset_descriptor.__get__"))) (htk:PySem.W.takesIn K (.builtin "object.__class__")=some true)
   (hm:PySem.W.mroIn K C (.type "object")=some true):gq K H (.ref a) (.ref C)
def IX(I:Inv X pins σ H s)(d:RelV x u)(v:gq X.K H x t)(e:W.kitOne X.K t c=some b)(h:∀B,Q (.bool b) {s with toks:=B}):
  wpAny (model X.prog X.w) A (call (.builtin "isinstance") [u,c]) Q E s:=by
 cases v with
 |av=>cases (show u=Value.none from d);exact MP W.kitx_none I.dE True.intro e (λz=>nomatch z) h
 |bl y=>cases (show u=Value.bool y from d);exact MP W.kitx_bool I.dE True.intro e (λz=>nomatch z) h
 |int i=>obtain ⟨t,q⟩:=(show∃t,u=Value.int i t from d);cases q;exact MP W.kitx_int I.dE True.intro e (λz=>nomatch z) h
 |str y=>obtain ⟨t,q⟩:=(show∃t,u=Value.str y t from d);cases q;exact MP W.kitx_str I.dE True.intro e (λz=>nomatch z) h
 |my y=>obtain ⟨t,q⟩:=(show∃t,u=Value.float y t from d);cases q;exact MP W.kitx_float I.dE True.intro e (λz=>nomatch z) h
 |@lst a k f=>
  cases (show u=Value.ref a from d)
  obtain ⟨_,_,n,_,g⟩:=(show bX X.prog X.w H s.heap a (.lst k) from I.az a _ f)
  exact MP W.kitx_list I.dE ⟨_,g,rfl⟩ e (λz=>nomatch z) h
 |@cO a G k f=>
  cases (show u=Value.ref a from d)
  obtain ⟨_,_,_,n,_,g⟩:=(show bX X.prog X.w H s.heap a (.cO G (.lst k)) from I.az a _ f)
  exact MP W.kitx_list I.dE ⟨_,g,rfl⟩ e (λz=>nomatch z) h
 |@tup a k f=>
  cases (show u=Value.ref a from d)
  obtain ⟨_,_,_,p⟩:=(show bX X.prog X.w H s.heap a (.tup k) from I.az a _ f)
  obtain ⟨o,g,l,_⟩:=p
  exact MP W.kitx_tuple I.dE ⟨o,g,l⟩ e (λz=>nomatch z) h
 |@dK a j f=>
  cases (show u=Value.ref a from d)
  obtain ⟨_,_,Y,_,p⟩:=(show bX X.prog X.w H s.heap a (.dK j) from I.az a _ f)
  obtain ⟨o,L,M,g,l,_⟩:=p
  exact MP W.kitx_dict I.dE ⟨o,g,l.1⟩ e (λz=>nomatch z) h
 |@dT a j f=>
  cases (show u=Value.ref a from d)
  obtain ⟨_,_,k,_,o,L,M,g,l,_⟩:=(show bX X.prog X.w H s.heap a (.dT j) from I.az a _ f)
  exact MP W.kitx_dict I.dE ⟨o,g,l.1⟩ e (λz=>nomatch z) h
 |@ins a C dx fs f r N T m U=>
  cases (show u=Value.ref a from d)
  obtain ⟨mA,O,_⟩:=ui I.az f
  obtain ⟨od,J,_⟩:=O.look
  exact MP (W.kitx_own (r.get _) r.hd N T m U) I.dE J e (λz=>nomatch z) h
end
end L2
namespace L2
open PySem PySem.Spec PyProof.Rows
structure cS (k:Nat)(A:Around):Prop where
 hd:A.handled=none
 dp:A.depth+3*k+5<recursionLimit
 un:A.units+16*k+200<cLine
def cS.mono(r:cS k A)(h:j<=k):cS j A:=⟨r.hd,by have:=r.dp;omega,by have:=r.un;omega⟩
theorem cS.deeper(r:cS (k+1) A)(a:Env):cS k (A.deeper a):=
 ⟨r.hd,by have:=r.dp;show A.depth+1+3*k+5<_;omega,by have:=r.un;show A.units+3+16*k+200<_;omega⟩
def Km{A:Around}:(A.under (.builtin "type.__call__" ⟨.ref C::a,b⟩)).depth=A.depth+1:=by
 first|rfl|simp [Around.under,Code.weight,Code.isCreation,Code.isGuard,Code.isCaller,Code.frames,Code.isFrame,guardIds]
def HA{A:Around}:(A.under (.builtin "type.__call__" ⟨.ref C::a,b⟩)).units=A.units+1:=by
 first|rfl|simp [Around.under,Code.cUnits,Code.frames,Code.isFrame]
def cS.make(r:cS (k+1) A)(C:Addr)(a:List Value)(b:List (Str×Value)):cS k (A.under (.builtin "type.__call__" ⟨.ref C::a,b⟩)):=
 ⟨r.hd,by have:=r.dp;rw [Km];omega,by have:=r.un;rw [HA];omega⟩
theorem cS.depth(r:cS k A):A.depth<recursionLimit:=by have:=r.dp;omega
theorem cS.units(r:cS k A):A.units+64<cLine:=by have:=r.un;omega
def bA:TA:=λ_ H Q=>Q [] H
def bo (ta:TE)(tr:TA):TA:=λσ H Q=>ta σ H λx H1=>tr σ H1 λxs H2=>Q (x::xs) H2
section
variable {X:Cx}{e:Expr}{es:List Expr}{te:TE}{t:TA}{pos:Pos}
def aw:PA X [] bA:=λ_ _ _ _ H Q I h=>PH ⟨[],H,I,.nil,h⟩
def ai (d:PE X e te)(f:PA X es t)(g:starEach (e::es) X.env=(false,eval e X.env)::starEach es X.env:=by rfl):PA X (e::es) (bo te t):=by
 intro b a s c H Q I h
 rw [g]
 show wpAny _ _ (spliced ((false,eval e X.env)::backTo b (starEach es X.env))) _ _ s
 refine NZ<|aS (d a s c H _ I h) λu i j=>?_
 obtain ⟨x,k,l,m,n⟩:=j
 exact aS (f b a i c k _ l n) λy z o=>by obtain ⟨p,q,r,v,w⟩:=o;exact ⟨x::p,q,r,.cons m v,w⟩
def qM (t:TA):TE:=λσ H Q=>t σ H λxs H1=>xs.length<=sizeLine/\∀p,H1 p=none->Q (.ref p) (upd H1 p (.tup xs))
def jF (t:TA):TE:=λσ H Q=>t σ H λxs H1=>xs.length<=sizeLine/\∀p,H1 p=none->Q (.ref p) (upd H1 p (.lst xs))
def eE {g}(h:PA X es t):PE X (.Tuple es g pos) (qM t):=by
 intro a s i H Q I j
 refine wpAny_Tuple_spliced<|aS (h pos a s i H _ I j) λk c ⟨l,d,f,r,z,q⟩=>⟨by rw [<-r.length];exact z,?_⟩
 have m:d c.heap.objs.size=none:=f.az.fresh<|LF _
 refine ⟨.ref c.heap.objs.size,upd d c.heap.objs.size (.tup l),f.laid (t':=c.toks) (λb u e=>LC _ e) (LF _) ?_,rfl,q _ m⟩
 exact ⟨z,k,r,⟨_,L0 _ rfl,rfl,_,rfl⟩⟩
def dy (h:PA X es t):PE X (.List es pos) (jF t):=by
 intro a s g H Q I i
 refine wpAny_List_spliced<|aS (h pos a s g H _ I i) λj c ⟨k,d,f,r,z,q⟩=>⟨by rw [<-r.length];exact z,?_⟩
 have l:d c.heap.objs.size=none:=f.az.fresh<|LF _
 refine ⟨.ref c.heap.objs.size,upd d c.heap.objs.size (.lst k),f.laid (t':=c.toks) (λb u e=>LC _ e) (LF _) ?_,rfl,q _ l⟩
 exact ⟨z,j,0,r,L0 _ rfl⟩
end
abbrev Sp:=List V->Hp->VK->XK->Prop
abbrev ia:=List Env->Hp->Shared->XK->Value->Shared->Prop
structure mo (P:Program)(w:World)(K:PySem.W.Frag)(mg:Str->Option Value)(base:Heap)(A:Around)(outer:List Env)(s:Shared)(H:Hp):Prop where
 frames:A.frames=some outer
 mod:Mod K mg base
 bs:∀b o,base.get? b=some o->s.heap.get? b=some o/\H b=none
 kC:base.objs.size<=s.heap.objs.size
 gN:s.heap.FunFrames base outer
 lj:∀b∈hU outer,H b=none
 az:cT P w H s.heap
 bare:AllBare s.gens
def CE (outer:List Env)(P:Program)(w:World)(H:Hp)(s:Shared)(Q:VK)(u:Value)(s':Shared):Prop:=
 ∃v H',s'.os=s.os/\AllBare s'.gens/\Un (hU outer) [] H H' s.heap s'.heap/\cT P w H' s'.heap/\RelV v u/\Q v H'
def CR (CX:ia)(outer:List Env)(P:Program)(w:World)(H:Hp)(s:Shared)(Q:VK)(E:XK)(r:Result)(s':Shared):Prop:=
 match r with
 |.ok (.ret u)=>CE outer P w H s Q u s'
 |.ok _=>False
 |.error e=>CX outer H s E e s'
structure bp (P:Program)(w:World)(K:PySem.W.Frag)(mg:Str->Option Value)(base:Heap)(CX:ia)(k:Nat)(f:Addr)(fd:FuncData)(ps:List Str)(sp:Sp):Prop where
 len:∀vs H Q E,sp vs H Q E->vs.length=ps.length
 run:∀(A:Around) (outer:List Env) (s:Shared) (H:Hp) (args:Args) (us:List Value) (vs:List V) (Q:VK) (E:XK),cS k A->mo P w K mg base A outer s H->BindsTo s fd args (ps.zip us)->a9 vs us->sp vs H Q E->
  codeAny (model P w) A (.call (.ref f) args) (CR CX outer P w H s Q E) s
theorem bp.mono{K:W.Frag}{base:Heap}(F:bp P w K c base d j f e g i)(h:j<=k):
  bp P w K c base d k f e g i:=⟨F.len,λA a s H b l m Q E n=>F.run A a s H b l m Q E<|n.mono h⟩
def mo.make{K:W.Frag}{base:Heap}(e:mo P w K b base A a s H)(C:Addr)(c:List Value)(d:List (Str×Value)):
  mo P w K b base (A.under (.builtin "type.__call__" ⟨.ref C::c,d⟩)) a s H:=⟨by first|exact e.frames|(simpa [Around.under,Code.envs,Code.isFrame,pushEnvs] using e.frames),e.mod,e.bs,e.kC,e.gN,e.lj,e.az,e.bare⟩
section
variable {X:Cx}{pins:List (Addr×Obj)}{σ:St}{H:Hp}{s s':Shared}
def Inv.Cg (I:Inv X pins σ H s):mo X.prog X.w X.K X.mg X.base X.A X.stack s H:=
 ⟨I.ok.frames,I.ok.mod,I.bs,L8 I.ok.kC I.sz,I.stack,I.AU,I.az,I.bare⟩
def Inv.after(I:Inv X pins σ H s)(h:CE X.stack X.prog X.w H s Q u s'):EP X pins σ Q u s':=by
 obtain ⟨v,e,os,a,f,az,r,q⟩:=h
 obtain ⟨i,g,d,t,c⟩:=s'
 obtain rfl:c=s.os:=os
 exact ⟨v,e,I.call (h':=i) (g':=g) (d':=d) (t':=t) (ch:=[]) f az a λb z=>absurd z Z8,r,q⟩
end
def iF (sp:Sp)(dvs:List V)(E:XK)(t:TA):TE:=λσ H Q=>t σ H λvs H1=>sp (vs++dvs) H1 Q E
def lq (C:Addr)(m:Str)(sp:Sp)(dvs:List V)(E:XK)(ta:TE)(t:TA):TE:=λσ H Q=>ta σ H λx H1=>∃a dx fs,x=.ref a/\H1 a=some (.ins C dx fs)/\fs.lookup m=none/\
 t σ H1 λvs H2=>sp (x::(vs++dvs)) H2 Q E
def sn (C:Addr)(sp:Sp)(dvs:List V)(E:XK)(t:TA):TE:=λσ H Q=>t σ H λvs H1=>∀x dx,H1 x=none->H1 dx=none->dx≠x->
 sp (.ref x::(vs++dvs)) (upd (upd H1 dx (.own x)) x (.ins C dx [])) (λv H2=>v=.av/\Q (.ref x) H2) E
def Binds (K:PySem.W.Frag)(fd:FuncData)(ps:List Str)(ds:List Value):Prop:=
 ∀(s:Shared) (us:List Value),K.In s.heap->(us++ds).length=ps.length->BindsTo s fd ⟨us,[]⟩ (ps.zip (us++ds))
def Binds.all{K:W.Frag}{b:ZY}(h:∀a:List Value,a.length=b.length->bindArgs c ⟨a,[]⟩=pure (b.zip a)):Binds K c b []:=λs a _ d=>by
 rw [Mi] at d⊢
 exact .of_eq<|h a d
def mq (CX:ia)(X:Cx)(E:XK):Prop:=∀(pins:List (Addr×Obj)) (σ:St) (H:Hp) (s:Shared) (e:Value) (s':Shared),Inv X pins σ H s->CX X.stack H s E e s'->X.xe e s'
section
variable {X:Cx}{CX:ia}{k:Nat}{f C:Addr}{fd:FuncData}{ps:List Str}{sp:Sp}{dvs:List V}{ds:List Value}{E:XK}{x m:Str}{p pos apos:Pos}{e o:Expr}{es:List Expr}{ta:TE}{t:TA}
def uR(F:bp X.prog X.w X.K X.mg X.base CX k f fd ps sp)(g:cS k X.A)(i:Binds X.K fd ps ds)(j:a9 dvs ds)(l:mq CX X E)
  (I:Inv X a c H s) (r:a9 vs us) (h:sp (vs++dvs) H Q E):wpAny (model X.prog X.w) X.A (call (.ref f) us) (EP X a c Q) X.xe s:=by
 have d:a9 (vs++dvs) (us++ds):=r.append j
 have n:(us++ds).length=ps.length:=by rw [<-d.length];exact F.len _ _ _ _ h
 refine wpAny_call<|OK (F.run X.A X.stack s H ⟨us,[]⟩ (us++ds) (vs++dvs) Q E g I.Cg (i s us I.dE n) d h) λr q b=>?_
 cases r with
 |error e=>exact l a c H s e q I b
 |ok v=>
  cases v with
  |ret u=>exact I.after b
  |next=>exact False.elim b
  |brk=>exact False.elim b
  |cont=>exact False.elim b
def IL (F:bp X.prog X.w X.K X.mg X.base CX k f fd ps sp)(g:cS k X.A)(i:Gl X x)(j:X.mg x=some (.ref f))(l:W.keepIn X.K (.ref f)=true)(n:Binds X.K fd ps ds)(u:a9 dvs ds)(v:mq CX X E)
  (y:PA X (e::es) t) (b:(x==("__debug__":Str))=false:=by decide) (z:starEach (e::es) X.env=(false,eval e X.env)::starEach es X.env:=by rfl) (c:(backTo pos (starEach es X.env)).any (·.1)=false:=by rfl):
  PE X (.Call (.Name x p) (e::es) [] pos) (iF sp dvs E t):=by
 intro a s B H Q I h
 refine Nv<|uJ I i j ?_ b
 refine Po (h₀:=X.base) I.ok.mod.qo l (aS (y pos a s B H _ I h) λG J ⟨L,M,d,r,q⟩=>⟨d.dE,?_⟩) z c
 exact uR F g n u v d r q
def GS(z:PE X o ta)(c:dm X.K C)(i:c8 X.K C m f)(F:bp X.prog X.w X.K X.mg X.base CX k f fd ps sp)(B:cS k X.A)(G:Binds X.K fd ps ds)(J:a9 dvs ds)(L:mq CX X E)(M:PA X (e::es) t)
  (d:starEach (e::es) X.env=(false,eval e X.env)::starEach es X.env:=by rfl) (g:(backTo pos (starEach es X.env)).any (·.1)=false:=by rfl)
  (N:eval (.Call (.Attribute o m apos) (e::es) [] pos) X.env=(do
   let j<-eval o X.env
   standAt apos.atName
   let (f,first)<-holding [j] (getMethod j m pl)
   callWith pos f first (backTo pos (starEach (e::es) X.env)) (backToKw pos (keywordEach [] X.env))):=by rfl):
  PE X (.Call (.Attribute o m apos) (e::es) [] pos) (lq C m sp dvs E ta t):=by
 intro b s n H Q I h
 refine Qe (pl:=pl) (aS (z b s n H _ I h) λu O ⟨x,T,v,U,a,dx,fs,Y,ea,l,q⟩=>?_) N
 subst Y
 obtain rfl:u=Value.ref a:=U
 refine BP v ea c i l ?_
 refine Po (first:=[.ref a]) (h₀:=X.base) I.ok.mod.qo i.kp (aS (M pos b O n T _ v q) λus s2 ⟨vs,H2,y,r,q2⟩=>⟨y.dE,?_⟩) d g
 exact uR (us:=.ref a::us) (vs:=.ref a::vs) F B G J L y (.cons rfl r) q2
def Ld(j:PE X o ta)(c:dm X.K C)(g:c8 X.K C m f)(F:bp X.prog X.w X.K X.mg X.base CX k f fd ps sp)(n:cS k X.A)(r:Binds X.K fd ps ds)(v:a9 dvs ds)(y:mq CX X E)
  (z:eval (.Call (.Attribute o m apos) [] [] pos) X.env=(do
   let i<-eval o X.env
   standAt apos.atName
   let (f,first)<-holding [i] (getMethod i m pl)
   callWith pos f first (backTo pos (starEach [] X.env)) (backToKw pos (keywordEach [] X.env))):=by rfl):
  PE X (.Call (.Attribute o m apos) [] [] pos) (lq C m sp dvs E ta bA):=by
 intro b s B H Q I h
 refine Qe (pl:=pl) (aS (j b s B H _ I h) λu M ⟨x,N,d,G,a,O,T,J,L,l,q⟩=>?_) z
 subst J
 obtain rfl:u=Value.ref a:=G
 refine BP d L c g l ?_
 exact W.callWith_K0 (first:=[.ref a]) d.dE g.kp<|uR (us:=[.ref a]) (vs:=[.ref a]) F n r v y d (.cons rfl .nil) q
structure Mk (K:PySem.W.Frag)(C f:Addr):Prop where
 makes:PySem.W.makesIn K C=true
 init:PySem.W.findIn K (.ref C) "__init__"=some (some (.ref f))
 fn:PySem.W.isFn K (.ref f)=true
 kp:PySem.W.keepIn K (.ref C)=true
def Es{Q:VK}(M:Mk X.K C f)(F:bp X.prog X.w X.K X.mg X.base CX k f fd ps sp)(q:cS (k+1) X.A)(y:Binds X.K fd ps ds)(z:a9 dvs ds)
  (B:mq CX X E) (I:Inv X a i H s) (r:a9 j c)
  (h:∀x d,H x=none->H d=none->d≠x->sp (.ref x::(j++dvs)) (upd (upd H d (.own x)) x (.ins C d [])) (λv G=>v=.av/\Q (.ref x) G) E):
  wpAny (model X.prog X.w) X.A (call (.ref C) c) (EP X a i Q) X.xe s:=by
 have l:=h (s.heap.objs.size+1) s.heap.objs.size (I.az.fresh<|Qy _) (I.az.fresh<|LF _)<|Mf<|Nu _
 have g:=Inv.made (C:=C) I
 have n:a9 (V.ref (s.heap.objs.size+1)::(j++dvs)) (Value.ref (s.heap.objs.size+1)::(c++ds)):=.cons rfl<|r.append z
 have J:(Value.ref (s.heap.objs.size+1)::c++ds).length=ps.length:=by
  have e:=n.length
  rw [F.len _ _ _ _ l] at e
  exact e.symm
 refine wpAny_call (Jb (f:=f) I.dE M.makes M.init (OC.mp M.fn) (OK (F.run _ X.stack _ _ ⟨Value.ref (s.heap.objs.size+1)::c,[]⟩ (Value.ref (s.heap.objs.size+1)::(c++ds)) _ _ E (q.make C c [])
  (g.Cg.make C c []) (y _ (Value.ref (s.heap.objs.size+1)::c) g.dE J) n l) λr L b=>?_))
 cases r with
 |error e=>exact B a i _ _ e L g b
 |ok N=>
  cases N with
  |ret u=>
   obtain ⟨v,O,T,U,Y,q3⟩:=g.after b
   subst Y
   exact ⟨U,⟨V.ref<|s.heap.objs.size+1,O,T,rfl,q3⟩⟩
  |next=>exact False.elim b
  |brk=>exact False.elim b
  |cont=>exact False.elim b
def Jt (M:Mk X.K C f)(F:bp X.prog X.w X.K X.mg X.base CX k f fd ps sp)(g:cS (k+1) X.A)(i:Gl X x)(j:X.mg x=some (.ref C))(l:Binds X.K fd ps ds)(n:a9 dvs ds)(u:mq CX X E)
  (v:PA X (e::es) t) (b:(x==("__debug__":Str))=false:=by decide) (y:starEach (e::es) X.env=(false,eval e X.env)::starEach es X.env:=by rfl) (c:(backTo pos (starEach es X.env)).any (·.1)=false:=by rfl):
  PE X (.Call (.Name x p) (e::es) [] pos) (sn C sp dvs E t):=by
 intro a s z H Q I h
 refine Nv<|uJ I i j ?_ b
 refine Po (h₀:=X.base) I.ok.mod.qo M.kp (aS (v pos a s z H _ I h) λB G ⟨J,L,d,r,q⟩=>⟨d.dE,?_⟩) y c
 exact Es M F g l n u d r q
end
def PK (X:Cx)(kws:List Keyword)(t:TA):Prop:=
 ∀(pos:Pos) (pins:List (Addr×Obj)) (s:Shared) (σ:St) (H:Hp) (Q:List V->Hp->Prop),Inv X pins σ H s->t σ H Q->wpAny (model X.prog X.w) X.A (evalAll ((backToKw pos (keywordEach kws X.env)).map (·.2))) (AP X pins σ Q) X.xe s
section
variable {X:Cx}{CX:ia}{k:Nat}{f C:Addr}{fd:FuncData}{ps ks:List Str}{sp:Sp}{E:XK}{x m:Str}{p pos apos kpos:Pos}{e o:Expr}{es:List Expr}{kws:List Keyword}{te ta:TE}{t tk:TA}{nm:Option Str}
def Ag:PK X [] bA:=λ_ _ _ _ H Q I h=>wpAny_evalAll_nil ⟨[],H,I,.nil,h⟩
def AI (d:PE X e te)(g:PK X kws t):PK X (⟨nm,e,kpos⟩::kws) (bo te t):=by
 intro b a s c H Q I h
 show wpAny _ _ (evalAll ((do let v<-eval e X.env;standAt b;pure v)::(backToKw b<|keywordEach kws X.env).map (·.2))) _ _ s
 refine wpAny_evalAll_cons<|Lw<|aS (d a s c H _ I h) λu i ⟨x,j,l,n,q⟩=>Lw<|PJ<|LN ?_
 exact aS (g b a i c j _ l q) λG J r=>by obtain ⟨w,y,z,A,B⟩:=r;exact ⟨x::w,y,z,.cons n A,B⟩
variable {g:List Value->List Value->List Value}{gV:List V->List V->List V}
end
structure bW (N P:List Str)(sc:Scope):Prop where
 kind:sc.kind=.function
 co:sc.isCoroutine=false
 gen:sc.isGenerator=false
 nd:N.Nodup
 pre:N.take P.length=P
 par:∀x∈P,sc.names.lookup x=some .local\/sc.names.lookup x=some .cell
 Fg:∀y∈sc.names,y.2≠.free
theorem Cv{kindOf:Str->Option NameKind}:∀{binds:List (Str×Value)} {m:ZU},(∀v,(x,v)∉binds)->bindL kindOf binds m x=m x
 |[],_,_=>rfl
 |(n,v)::r,m,h=>by
  unfold bindL
  rw [Cv λw a=>h w<|Lv _ a]
  split
  .have:x≠n:=by rintro rfl;exact h v Lz
   simp [this]
  .rfl
theorem zc{kindOf:Str->Option NameKind}:∀{binds:List (Str×Value)} {m:ZU},(∀v,(x,v)∉binds)->bindC kindOf binds m x=m x
 |[],_,_=>rfl
 |(n,v)::r,m,h=>by
  unfold bindC
  rw [zc λw a=>h w<|Lv _ a]
  split
  .rfl
  .have:x≠n:=by rintro rfl;exact h v Lz
   simp [this]
theorem C0{kindOf:Str->Option NameKind}:∀{P:ZY} {a:List Value} {i:Nat} {m:ZU},P.Nodup->P[i]?=some x->a[i]?=some v->kindOf x=some .local->
  bindL kindOf (P.zip a) m x=some v
 |[],_,_,_,_,h,_,_=>by simp at h
 |_::_,[],_,_,_,_,h,_=>by simp at h
 |p::P,w::a,0,m,d,b,c,e=>by
  simp at b c;subst b;subst c
  show bindL kindOf ((p,w)::P.zip a) m p=_
  unfold bindL
  rw [Cv λv f=>(NH.mp d).1 (O4 f).1,LJ e]
  simp
 |p::P,w::a,i+1,m,d,b,c,e=>by
  show bindL kindOf ((p,w)::P.zip a) m x=_
  unfold bindL
  exact C0 (i:=i) (NH.mp d).2 (by simpa using b) (by simpa using c) e
theorem zw{kindOf:Str->Option NameKind}:∀{P:ZY} {a:List Value} {i:Nat} {m:ZU},P.Nodup->P[i]?=some x->a[i]?=some v->kindOf x≠some .local->
  bindC kindOf (P.zip a) m x=some v
 |[],_,_,_,_,h,_,_=>by simp at h
 |_::_,[],_,_,_,_,h,_=>by simp at h
 |p::P,w::a,0,m,d,b,c,e=>by
  simp at b c;subst b;subst c
  show bindC kindOf ((p,w)::P.zip a) m p=_
  unfold bindC
  rw [zc λv f=>(NH.mp d).1 (O4 f).1,LG e]
  simp
 |p::P,w::a,i+1,m,d,b,c,e=>by
  show bindC kindOf ((p,w)::P.zip a) m x=_
  unfold bindC
  exact zw (i:=i) (NH.mp d).2 (by simpa using b) (by simpa using c) e
def start (N:List Str)(vs:List V):St:=vs.map some++List.replicate (N.length-vs.length) none
def me (CX:ia)(P:Program)(w:World)(K:PySem.W.Frag)(mg:Str->Option Value)(base:Heap)(N:List Str)(qual:Str)(scope:Scope)(f:Addr)(cd:Value)(A:Around)(outer:List Env)(s:Shared)(H:Hp)(E:XK):Cx where
 prog:=P
 w:=w
 K:=K
 mg:=mg
 base:=base
 A:=A.deeper (envOfC qual scope s.heap.objs.size f cd)
 N:=N
 s₀:=s
 H₀:=H
 env:=envOfC qual scope s.heap.objs.size f cd
 outer:=outer
 stack:=envOfC qual scope s.heap.objs.size f cd::outer
 ex:=[]
 calm:=true
 fn:=λ_=>true
 pn:=[]
 xe:=λe s'=>wpAny (model P w) (A.deeper (envOfC qual scope s.heap.objs.size f cd)) (leaving (envOfC qual scope s.heap.objs.size f cd) e) (λ_ s''=>CX outer H s E e s'') (λe' s''=>CX outer H s E e' s'') s'
def Cr{a:Scope}(h:a.names.lookup x=some .cell):∃c,(cellsFrom n a.names []).lookup x=some c:=by
 have q:=P7 a.names n [] (.inl h)
 exact PL.mp q
def Iq{K:W.Frag}{base:Heap}{A:Around}{t:List V}
  (S:bW N o d) (hd:A.handled=none) (m:mo P w K O base A g s H) (hl:t.length=o.length) (r:a9 t Q)
  (x:InCallC s s.heap.objs.size (bindL (envOfC j d s.heap.objs.size f J).kindOf (o.zip Q) λ_=>none) (cellsFrom (s.heap.objs.size+1) d.names []) (bindC (envOfC j d s.heap.objs.size f J).kindOf (o.zip Q) λ_=>none) U):
  Inv (me T P w K O base N j d f J A g s H E) [] (start N t) H U:=by
 have ac:o.length<=N.length:=by have:=MA List.length S.pre;rw [Mr] at this;omega
 obtain ⟨L,tk,rfl,Y⟩:=x.done
 have B:∀b:Addr,b∉(me T P w K O base N j d f J A g s H E).ex:=λb z=>absurd (show b∈([]:ZX) from z) Z8
 refine ⟨⟨m.mod,S.kind,rfl,rfl,LF _,λy z c L l=>?_,λy C=>?_,λy c _ h=>?_,λ_=>hd,Around.frames_deeper m.frames,.inr ⟨rfl,rfl⟩,λb z=>absurd z<|B b,m.bs,m.kC,λb _ _=>B b,λb z=>absurd z<|B b,m.gN,m.lj⟩,
  rfl,m.bare,Un.kept Y,⟨_,x.toInCall.ns,λi y v L l h3=>?_⟩,λy c h=>⟨_,x.cell y c h⟩,m.az.fresh<|LF _,λy c h=>?_,λp G=>absurd (show p∈([]:ZV) from G) Z8,m.az.kept Y,?_⟩
 .exact name_of_addr x.apart (NM L)<|NM l
 .have C:d.names.lookup y=some .cell\/d.names.lookup y=some .free:=C
  rcases C with C|C
  .exact Cr C
  .exact absurd rfl<|S.Fg _<|NM C
 .exact Nc<|x.above y c<|NM h
 .have M:i<t.length:=by
   unfold start at l
   by_cases M:i<t.length
   .exact M
   .rw [Ma (by simpa using M)] at l
    rw [List.getElem?_replicate] at l
    split at l<;>cases l
  have ha:t[i]?=some v:=by
   unfold start at l
   rw [LZ (by simpa using M),LO] at l
   cases e:t[i]? with
   |none=>rw [e] at l;cases l
   |some a=>rw [e] at l;cases l;rfl
  obtain ⟨u,hu,rv⟩:=r.get ha
  have G:o[i]?=some y:=by
   rw [<-S.pre,Op Z4];exact L
  have I:o.Nodup:=by rw [<-S.pre];exact S.nd.sublist<|List.take_sublist _ _
  refine ⟨u,rv,?_⟩
  rcases S.par y (LD G) with k|k
  .exact .inl ⟨k,C0 I G hu k⟩
  .obtain ⟨c,e⟩:=Cr (n:=s.heap.objs.size+1) k
   refine .inr ⟨.inl k,c,e,?_⟩
   have q:=x.cell y c e
   rw [zw I G hu (by show d.names.lookup y≠_;rw [k];decide)] at q
   exact q
 .exact m.az.fresh<|Nc<|x.above y c<|NM h
 .unfold start
  show _=N.length
  rw [LR,LA,List.length_replicate]
  omega
def Fe{K:W.Frag}{base:Heap}{name:Str}{kV:Value}
    {sp:Sp} (lk:K.lookup f=some ⟨oc,od,.func (W.fnOf name d h i a dV kV C pm an g ct),ac⟩) (af:W.codeIn K g d=true) (S:bW N Y a)
  (G:∀j H Q E,sp j H Q E->j.length=Y.length)
  (p:∀(A:Around) (c:List Env) (s:Shared) (H:Hp) (j:List V) (Q:VK) (E:XK),cS k (A.deeper (envOfC d a s.heap.objs.size f g))->sp j H Q E->
   ∃t,gw (me T P w K U base N d a f g A c s H E) i t/\t {nx:=λ_ m=>Q .av m,rt:=Q} (start N j) H):
  bp P w K U base T (k+1) f (W.fnOf name d h i a dV kV C pm an g ct) Y sp:=by
 refine ⟨G,λA c s H am us j Q E hr L hb r M=>?_⟩
 have hl:=G _ _ _ _ M
 have KX:K.In s.heap:=L.mod.qo.keeps λb o e=>(L.bs b o e).1
 have aj:s.heap.NoLimit:=L.mod.nolimit.keeps λb o e=>(L.bs b o e).1
 have z:∀y∈Y.zip us,a.names.lookup y.1=some .local\/(a.names.lookup y.1=some .cell/\((cellsFrom (s.heap.objs.size+1) a.names []).lookup y.1).isSome=true):=λq0 hy=>by
  obtain ⟨n,v⟩:=q0
  rcases S.par n (O4 hy).1 with q|q
  .exact .inl q
  .exact .inr ⟨q,P7 _ _ _ (.inl q)⟩
 refine codeAny_call_function hr.depth (KX _ _ lk) rfl S.co S.gen rfl (W.codeRec_of KX af)<|hb _ _ _ _ ?_
 refine wpAny_newFunctionEnv_cells S.kind z λao he s1 x=>?_
 subst he
 refine ⟨aj.keeps x.toInCall.keep,codeAny_func ?_⟩
 obtain ⟨t,ht,hq⟩:=p A c s H j Q E (hr.deeper _) M
 have I:Inv (me T P w K U base N d a f g A c s H E) [] (start N j) H s1:=Iq S hr.hd L hl r x
 refine M1 (ht [] s1 (start N j) H _ I hq) (λfl s' B=>?_) λe s' B=>B
 have O:∀{l:St} {m:Hp} {v:V} {u:Value},Inv (me T P w K U base N d a f g A c s H E) [] l m s'->RelV v u->Q v m->CE c P w H s Q u s':=
  λ{l m v u} J rv q=>⟨v,m,J.os,J.bare,J.base,J.az,rv,q⟩
 cases fl with
 |ret u=>
  obtain ⟨v,l,m,J,rv,q⟩:=B
  exact O J rv q
 |next=>
  obtain ⟨l,m,J,q⟩:=B
  exact O (v:=V.av) (u:=Value.none) J rfl q
 |brk=>
  obtain ⟨_,_,_,q⟩:=B
  exact False.elim q
 |cont=>
  obtain ⟨_,_,_,q⟩:=B
  exact False.elim q
end L2
namespace L2
open PySem PySem.Spec PyProof.Rows
section
variable {X:Cx}{x:Str}{p pos:Pos}{e:Expr}{es:List Expr}{t:TA}{id T:String}{r:List V->Hp->VK->Prop}
def cD (r:List V->Hp->VK->Prop)(t:TA):TE:=λσ H Q=>t σ H λvs H1=>r vs H1 Q
def oM (d:il X (.builtin id) r)(f:Gl X x)(g:X.mg x=none)(i:bootBuiltins x=some (.builtin id))(j:PA X (e::es) t)(k:x≠"__name__":=by decide)(b:(x==("__debug__":Str))=false:=by decide)
  (he:starEach (e::es) X.env=(false,eval e X.env)::starEach es X.env:=by rfl) (hpl:(backTo pos (starEach es X.env)).any (·.1)=false:=by rfl):PE X (.Call (.Name x p) (e::es) [] pos) (cD r t):=by
 intro a s c H Q I h
 refine Nv<|jX I f g i ?_ k b
 exact PyProof.Rows.callWith_builtin1 (aS (j pos a s c H _ I h) λl m n=>by obtain ⟨o,q,u,v,w⟩:=n;exact d a m c q o l Q u v w) he hpl
def qd (f:il X (.type T) r)(g:Gl X x)(i:X.mg x=none)(j:bootBuiltins x=some (.type T))(k:PA X (e::es) t)(l:x≠"__name__":=by decide)(b:(x==("__debug__":Str))=false:=by decide)
  (he:starEach (e::es) X.env=(false,eval e X.env)::starEach es X.env:=by rfl) (c:(backTo pos (starEach es X.env)).any (·.1)=false:=by rfl):PE X (.Call (.Name x p) (e::es) [] pos) (cD r t):=by
 intro a s d H Q I h
 refine Nv<|jX I g i j ?_ l b
 exact M5 (aS (k pos a s d H _ I h) λm n o=>by obtain ⟨q,u,v,w,y⟩:=o;exact f a n d u q m Q v w y) he c
end
end L2
namespace HT
open PySem PyProof.Rows
section
open PySem.SeqAt
open PySem.AutoSeq1 (wpAny_loadPart')
open PySem.MeetsSeq PySem.MeetsSeq2 PySem.MeetsSeq3
end
section
variable {prog:Program}{w:World}{A:Around}{E:Value->Shared->Prop}{s:Shared}
def Et{d a:List Value}{Q:ZT}(v:IsTup s.heap t d.toArray)(x:IsTup s.heap b a.toArray)(l:d≠[])
  (y:a=[]->Q (.ref t) s) (z:a≠[]->Q (.ref s.heap.objs.size) {s with heap:=s.heap.push {cls:=.type "tuple",data:=.seq (d++a).toArray}})
  (k:d.length+a.length<=sizeLine):wpAny (model prog w) A (binaryOp .Add (.ref t) (.ref b)) Q E s:=by
 obtain ⟨⟨cls,m,data,o⟩,i,p,n,q⟩:=id v
 obtain ⟨⟨r,f,data2,g⟩,c,h,u,dw⟩:=id x
 simp only at p q h dw
 subst p q h dw
 have e:d.toArray++a.toArray=(d++a).toArray:=by simp
 by_cases j:a=[]
 .exact concat_meets ⟨_,i,rfl⟩ ⟨_,c,rfl⟩ PX seq_tuple_add OL OH (Oq _ _)
   (tuple_addW1 t b d.toArray a.toArray n u m f o g (by simpa using l) (by simp [j])) ⟨i,c,y j⟩
 .refine concat_meets ⟨_,i,rfl⟩ ⟨_,c,rfl⟩ PX seq_tuple_add OL OH (Oq _ _)
   (tuple_addW2 t b d.toArray a.toArray n u m f o g (by simpa using l) (by simpa using j) (by rw [LU,LU];exact k)) ⟨i,c,?_⟩
  rw [e]
  exact z j
def bK (n d:Nat):Option Int->Nat
 |none=>d
 |some v=>if v<0 then (v+(n:Int)).toNat else min v.toNat n
def CC (n d:Nat):bK n d none=d:=rfl
def qt (n d k:Nat):bK n d (some (k:Int))=min k n:=by
 show (if (k:Int)<0 then ((k:Int)+(n:Int)).toNat else min (k:Int).toNat n)=min k n
 rw [LG Z4,NC]
def JP (n d:Nat)(b:d<=n)(o:Option Int):bK n d o<=n:=by
 cases o with
 |none=>exact b
 |some v=>
  show (if v<0 then (v+(n:Int)).toNat else min v.toNat n)<=n
  by_cases a:v<0
  .rw [LJ a];omega
  .rw [LG a];exact Nat.min_le_right _ _
def AH (v:Int)(n d:Nat):(if v<0 then max (v+(n:Int)) 0 else min v (n:Int))=((bK n d (some v):Nat):Int):=by
 show (if v<0 then max (v+(n:Int)) 0 else min v (n:Int))=(((if v<0 then (v+(n:Int)).toNat else min v.toNat n):Nat):Int)
 by_cases a:v<0
 .simp only [LJ a];omega
 .simp only [LG a];omega
def EH (lo a:Option Int)(n:Nat):Builtin.Slice.sliceAdjust lo a 1 (n:Int)=(((bK n 0 lo:Nat):Int),((bK n n a:Nat):Int)):=by
 have b:¬((1:Int)<0):=by omega
 unfold Builtin.Slice.sliceAdjust
 simp only [b,PY]
 refine Prod.ext ?_ ?_
 .cases lo with
  |none=>rfl
  |some v=>exact AH v n 0
 .cases a with
  |none=>rfl
  |some v=>exact AH v n n
def Ht (i j:Nat):Builtin.Slice.slicePlaces (i:Int) (j:Int) 1=j-i:=by
 unfold Builtin.Slice.slicePlaces
 have a:(1:Int)>0:=by omega
 simp only [a,Ox,Int.ediv_one]
 split<;>omega
def yI{Q:Option Int->Shared->Prop}(p:IsPart v o)(h:Q o s):wpAny (model prog w) A (Builtin.Slice.slicePartIndex v) Q E s:=by
 cases p with
 |none=>exact slicePart_none h
 |int i t=>exact slicePart_int h
def Hf{lo:Option Int}{Q:Int×Int×Nat->Shared->Prop}(g:s.heap.IsSliceOf f d e .none)(i:IsPart d lo)(j:IsPart e a)
  (h:Q (((bK n 0 lo:Nat):Int),1,bK n n a-bK n 0 lo) s):wpAny (model prog w) A (Builtin.Slice.sliceApplied (.ref f) (pure (n:Int))) Q E s:=by
 obtain ⟨os,b,k,c⟩:=id g
 unfold Builtin.Slice.sliceApplied Builtin.Slice.sliceFields
 refine Lw<|Lw<|MH b c (x:=d) rfl<|Lw<|MH b c (x:=e) rfl<|Lw<|MH b c (x:=.none) rfl<|LN ?_
 refine Lw<|slicePart_none ?_
 show wpAny _ _ (if ((1:Int)==0)=true then _ else _) _ _ s
 rw [LG Z1]
 refine Lw<|yI i<|Lw<|yI j<|Lw<|LN ?_
 show wpAny _ _ (match Builtin.Slice.sliceAdjust lo a 1 (n:Int) with|(lo,a)=>pure (lo,(1:Int),Builtin.Slice.slicePlaces lo a 1)) _ _ s
 rw [EH lo a n]
 show wpAny _ _ (pure (((bK n 0 lo:Nat):Int),(1:Int),Builtin.Slice.slicePlaces ((bK n 0 lo:Nat):Int) ((bK n n a:Nat):Int) 1)) _ _ s
 rw [Ht]
 exact LN h
def Hh (a:Array Value)(i k:Nat):((List.range k).filterMap λ(m:Nat)=>a[((i:Int)+(m:Int)*1).toNat]?).toArray=((a.toList.drop i).take k).toArray:=by
 have e:(λ(m:Nat)=>a[((i:Int)+(m:Int)*1).toNat]?)=λm=>a[i+m]?:=by
  funext m
  have:((i:Int)+(m:Int)*1).toNat=i+m:=by omega
  rw [this]
 rw [e]
 have:=pick_run a i k
 rw [List.filterMap_map] at this
 have b:((λx=>a[x]?)∘λx=>i+x)=λm=>a[i+m]?:=rfl
 rw [b] at this
 rw [this]
def IP{lo:Option Int}{Q:ZT}(d:IsTup s.heap t a)(n:s.heap.IsSliceOf e k l .none)(o:IsPart k lo)(p:IsPart l c)
  (r:¬(bK a.size 0 lo=0/\bK a.size a.size c=a.size))
  (h:Q (.ref s.heap.objs.size) {s with heap:=s.heap.push {cls:=.type "tuple",data:=.seq ((a.toList.drop (bK a.size 0 lo)).take (bK a.size a.size c-bK a.size 0 lo)).toArray}})
  (u:a.size<=sizeLine):wpAny (model prog w) A (getItem (.ref t) (.ref e)) Q E s:=by
 have b:sizeOk (.seq ((a.toList.drop<|bK a.size 0 lo).take<|bK a.size a.size c-bK a.size 0 lo).toArray):=by
  show ((a.toList.drop<|bK a.size 0 lo).take<|bK a.size a.size c-bK a.size 0 lo).toArray.size<=sizeLine
  rw [LU,Mr,Oi,Oo]
  omega
 have x:bK a.size a.size c<=a.size:=JP _ _ (LF _) c
 obtain ⟨os,f,g,v⟩:=id n
 have i:s.TypeIs (.ref e) "slice":=⟨os,f,g⟩
 unfold getItem
 try with_reducible refine Nd ?_
 first|refine Lw (LN ?_)|skip
 refine Lw<|wpAny_sequenceKey d.typeIs Z1 ?_
 refine Lw (MN (name:=Str.ofString "__getitem__") d.typeIs NL
  (NP NL d.typeIs entry_tuple_getitem ?_ (args_tuple_getitem _ _)))
 show wpAny _ _ (Builtin.Tuple.tupleItemsOf (.ref t)>>=_) _ _ s
 refine Lw<|tupleItemsOf_ d ?_
 refine Lw<|Pg i ?_
 rw [LJ Z1]
 refine Lw<|Hf n o p ?_
 have j:¬((((bK a.size 0 lo:Nat):Int)==0&&(1:Int)==1&&(bK a.size a.size c-bK a.size 0 lo)==a.size)=true):=by
  intro q
  rw [MD,MD] at q
  have y:((bK a.size 0 lo:Nat):Int)=0:=eq_of_beq q.1.1
  have z:bK a.size a.size c-bK a.size 0 lo=a.size:=eq_of_beq q.2
  exact r ⟨by omega,by omega⟩
 show wpAny _ _ (if (((bK a.size 0 lo:Nat):Int)==0&&(1:Int)==1&&(bK a.size a.size c-bK a.size 0 lo)==a.size)=true then _ else _) _ _ s
 rw [LG j,Hh]
 first
  |exact Lw (m:=Builtin.Tuple.tupleExact _)<|M6 (LN ⟨_,rfl,LN h⟩) b
  |exact Lw (m:=Builtin.Tuple.tupleExact _)<|M6 (Lw<|LN<|LN ⟨_,rfl,LN h⟩) b
  |exact Lw<|Lw (m:=Builtin.Tuple.tupleExact _)<|M6 (LN<|LN ⟨_,rfl,LN h⟩) b
  |exact Lw<|Lw (m:=Builtin.Tuple.tupleExact _)<|M6 (LN ⟨_,rfl,LN h⟩) b
end
end HT
namespace L2
open PySem PySem.Spec PyProof.Rows
abbrev TO:=St->Hp->(Option Int->Hp->Prop)->Prop
def PO (X:Cx)(e:Option Expr)(t:TO):Prop:=
 ∀(pins:List (Addr×Obj)) (s:Shared) (σ:St) (H:Hp) (Q:Option Int->Hp->Prop),Inv X pins σ H s->t σ H Q->
  wpAny (model X.prog X.w) X.A (evalPart e X.env) (λu s'=>∃o H',Inv X pins σ H' s'/\IsPart u o/\Q o H') X.xe s
def x6:TO:=λ_ H Q=>Q none H
def qZ (t:TE):TO:=λσ H Q=>t σ H λx H1=>∃i,x=.int i/\Q (some i) H1
section
variable {X:Cx}{e:Expr}{te:TE}{lo hi:Option Expr}{tl th:TO}{pos p2:Pos}
def pL:PO X none x6:=by
 intro a s b H Q I h
 rw [evalPart_none]
 exact LN ⟨none,H,I,.none,h⟩
def mW (h:PE X e te):PO X (some e) (qZ te):=by
 intro a s b H Q I c
 rw [evalPart_some]
 refine aS (h a s b H _ I c) λu l d=>?_
 obtain ⟨x,f,g,j,k⟩:=d
 obtain ⟨i,rfl,q⟩:=k
 obtain ⟨t,rfl⟩:=j
 exact ⟨some i,f,g,.int i t,q⟩
def vV (X:Cx)(r:V->Option Int->Option Int->Hp->VK->Prop):Prop:=
 ∀(pins:List (Addr×Obj)) (s:Shared) (σ:St) (H:Hp) (x:V) (v vl vu:Value) (lo hi:Option Int) (sl:Addr) (Q:VK),Inv X pins σ H s->RelV x v->s.heap.IsSliceOf sl vl vu .none->IsPart vl lo->IsPart vu hi->r x lo hi H Q->
  ∃T id,typeLookup (.type T) "__getitem__"=pure (some (.builtin id))/\s.TypeIs v T/\wpAny (model X.prog X.w) X.A (getItem v (.ref sl)) (EP X pins σ Q) X.xe s
def ve (r:V->Option Int->Option Int->Hp->VK->Prop)(te:TE)(tl th:TO):TE:=λσ H Q=>te σ H λx H1=>tl σ H1 λl H2=>th σ H2 λu H3=>r x l u H3 Q
def nU(j:vV X r)(k:PE X e te)(m:PO X lo tl)(n:PO X hi th):PE X (.Subscript e (.Slice lo hi none p2) pos) (ve r te tl th):=by
 intro a s d H Q I h
 refine Subscript_<|aS (k a s d H _ I h) λv o p=>?_
 obtain ⟨x,t,y,z,B⟩:=p
 refine wpAny_Slice<|aS (m a o d t _ y B) λf C ⟨l,E,G,J,L⟩=>aS (n a C d E _ G L) λg c M=>?_
 obtain ⟨u,i,N,O,U⟩:=M
 rw [evalPart_none]
 refine LN ?_
 have Y:Inv X a d i {c with heap:=c.heap.push {cls:=.type "slice",data:=.fields #[f,g,.none]}}:=N.kept (t':=c.toks) λb ob q=>LC _ q
 obtain ⟨T,id,hT,ht,hg⟩:=j a {c with heap:=c.heap.push {cls:=.type "slice",data:=.fields #[f,g,.none]}} d i x v f g l u c.heap.objs.size Q Y z (Heap.IsSliceOf.new ..) J O U
 show wpAny (model X.prog X.w) X.A (subscriptTail e (.Slice lo hi none p2) v (.ref c.heap.objs.size)) (EP X a d Q) X.xe {c with heap:=c.heap.push {cls:=.type "slice",data:=.fields #[f,g,.none]}}
 exact tail_any (ops:=[.ref c.heap.objs.size,v]) ht hT hg (by with_unfolding_all rfl)
def gQ (xs:List V)(lo hi:Option Int):List V:=(xs.drop (HT.bK xs.length 0 lo)).take (HT.bK xs.length xs.length hi-HT.bK xs.length 0 lo)
def C1 (a:List V)(lo hi:Option Int):(gQ a lo hi).length<=a.length:=by
 unfold gQ
 rw [Mr,Oi]
 omega
def zN (K:PySem.W.Frag):V->Option Int->Option Int->Hp->VK->Prop:=λx lo hi H Q=>∃a xs,x=.ref a/\bq K H a xs/\
 ¬(HT.bK xs.length 0 lo=0/\HT.bK xs.length xs.length hi=xs.length)/\∀p,H p=none->Q (.ref p) (upd H p (.tup (gQ xs lo hi)))
def sS:vV X (zN X.K):=by
 intro pins s σ H x v vl vu lo hi sl Q I rx hs pl pu h
 obtain ⟨a,xs,rfl,hx,hw,q⟩:=h
 cases rx
 obtain ⟨its,r,ht,hz⟩:=I.tuple hx
 have hlen:its.toArray.size=xs.length:=by rw [LU];exact r.length.symm
 refine ⟨"tuple",_,NL.lookup,ht.typeIs,?_⟩
 refine HT.IP ht hs pl pu (by rw [hlen];exact hw) ?_ (by rw [hlen];exact hz)
 rw [hlen]
 refine ⟨.ref s.heap.objs.size,_,I.laid (t':=s.toks) (o:=.tup (gQ xs lo hi)) (λb ob q=>LC _ q) (LF _) ?_,rfl,q _ (I.az.fresh (LF _))⟩
 exact ⟨L8 (C1 xs lo hi) hz,_,(r.drop (HT.bK xs.length 0 lo)).take (HT.bK xs.length xs.length hi-HT.bK xs.length 0 lo),IsTup.new _ _⟩
def DU (K:PySem.W.Frag):R2:=λx y H Q=>∃a b xs ys,x=.ref a/\y=.ref b/\bq K H a xs/\bq K H b ys/\xs≠[]/\xs.length+ys.length<=sizeLine/\
 (ys=[]->Q (.ref a) H)/\(ys≠[]->∀p,H p=none->Q (.ref p) (upd H p (.tup (xs++ys))))
def a9.qU(r:a9 a b):b=[]↔a=[]:=by
 cases r with
 |nil=>simp
 |cons _ _=>simp
def JH:cK X (binaryOp .Add) (DU X.K):=by
 intro pins s σ H x y v u Q I rx ry h
 obtain ⟨a,b,xs,ys,rfl,rfl,ha,hb,hx,hz,q1,q2⟩:=h
 cases rx
 cases ry
 obtain ⟨its,r1,p1,_⟩:=I.tuple ha
 obtain ⟨its2,r2,p2,_⟩:=I.tuple hb
 refine HT.Et p1 p2 (λz=>hx (r1.qU.mp z)) (λz=>⟨.ref a,H,I,rfl,q1 (r2.qU.mp z)⟩) (λz=>?_) (by rw [<-r1.length,<-r2.length];exact hz)
 refine ⟨.ref s.heap.objs.size,_,I.laid (t':=s.toks) (o:=.tup (xs++ys)) (λb ob q=>LC _ q) (LF _) ?_,rfl,q2 (λw=>z (r2.qU.mpr w)) _ (I.az.fresh (LF _))⟩
 exact ⟨by rw [LR];exact hz,_,r1.append r2,IsTup.new _ _⟩
end
end L2
namespace L2
open PySem PySem.Spec PyProof.Rows
def mE (n:Nat)(i:Int):Option Nat:=if 0<=i then (if i<n then some i.toNat else none) else if-(n:Int)<=i then some (i+n).toNat else none
def dO {α:Type}(xs:List α)(i:Int):Option α:=(mE xs.length i).bind λj=>xs[j]?
def Dh(h:mE n i=some j):seqIndex? i n=some j/\j<n/\-(n:Int)<=i/\i<n:=by
 unfold mE at h
 by_cases b:0<=i
 .rw [LJ b] at h
  by_cases a:i<n
  .rw [LJ a] at h
   have e:i.toNat=j:=LQ h
   exact ⟨by rw [seqIndex_of b a,e],by omega,by omega,a⟩
  .rw [LG a] at h;cases h
 .rw [LG b] at h
  by_cases a:-(n:Int)<=i
  .rw [LJ a] at h
   have e:(i+n).toNat=j:=LQ h
   exact ⟨by rw [seqIndex_neg Z4 a,e],by omega,a,by omega⟩
  .rw [LG a] at h;cases h
def mJ(h:dO a i=some v):∃j,seqIndex? i a.length=some j/\a[j]?=some v/\j<a.length/\-(a.length:Int)<=i/\i<a.length:=by
 unfold dO at h
 cases e:mE a.length i with
 |none=>rw [e] at h;cases h
 |some j=>
  rw [e] at h
  obtain ⟨c,d,f,g⟩:=Dh e
  exact ⟨j,c,h,d,f,g⟩
def qK{j:Nat}(h:a[j]?=some v):dO a (j:Int)=some v:=by
 have c:j<a.length:=(Lx.mp h).1
 have e:mE a.length (j:Int)=some j:=by
  unfold mE
  rw [LJ Z4,LJ Z4];simp
 unfold dO;rw [e];exact h
def qT (b:Expr):Prop:=∀o i,subscripted b false o i=operate [o,i] (getItem o i)
def jR (X:Cx)(r:R2):Prop:=
 ∀(value slice:Expr) (pins:List (Addr×Obj)) (s:Shared) (σ:St) (H:Hp) (x y:V) (v u:Value) (Q:VK),Inv X pins σ H s->RelV x v->RelV y u->r x y H Q->
  subscripted slice false v u=operate [v,u] (getItem v u)->wpAny (model X.prog X.w) X.A (subscriptTail value slice v u) (EP X pins σ Q) X.xe s
def sK (X:Cx)(id:String)(r:V->List V->Hp->VK->Prop):Prop:=
 ∀(pins:List (Addr×Obj)) (s:Shared) (σ:St) (H:Hp) (x:V) (xs:List V) (v:Value) (us:List Value) (Q:VK),Inv X pins σ H s->RelV x v->a9 xs us->r x xs H Q->
  wpAny (model X.prog X.w) X.A (call (.builtin id) (v::us)) (EP X pins σ Q) X.xe s
section
variable {X:Cx}{a b:Expr}{ta tb:TE}{pos:Pos}
def jR.or(h:jR X r)(l:jR X f):jR X (λx y H Q=>r x y H Q\/f x y H Q):=by
 intro c d e s g H x y v u Q I i j q k
 rcases q with q|q
 .exact h c d e s g H x y v u Q I i j q k
 .exact l c d e s g H x y v u Q I i j q k
def FY(d:jR X r)(e:PE X a ta)(f:PE X b tb)(g:qT b):PE X (.Subscript a b pos) (bY r ta tb):=by
 intro c s i H Q I h
 exact Subscript_<|xa e f I h λv u j x y k l m n q=>d a b c j i k x y v u Q l m n q<|g _ _
def Bc (K:PySem.W.Frag):R2:=λx y H Q=>∃p xs i v,x=.ref p/\y=.int i/\aP K H p xs/\dO xs i=some v/\Q v H
def Cs (K:PySem.W.Frag):R2:=λx y H Q=>∃p xs i v,x=.ref p/\y=.int i/\bq K H p xs/\dO xs i=some v/\Q v H
def yL:R2:=λx y H Q=>∃z i c,x=.str z/\y=.int i/\z.length<=sizeLine/\dO z.cps.toList i=some c/\Q (.str ⟨#[c]⟩) H
def Dp:jR X (Bc X.K):=by
 intro f g c s o H x y v u Q I E G h A
 obtain ⟨p,Y,i,z,rfl,rfl,J,L,q⟩:=h
 cases E
 obtain ⟨t,rfl⟩:=G
 obtain ⟨k,r,l,hz⟩:=I.list J
 obtain ⟨j,e,M,h3,N,O⟩:=mJ L
 obtain ⟨w,B,m⟩:=r.get M
 have T:=r.length
 have hn:=pF
 have d:EP X c o Q w s:=⟨z,H,I,m,q⟩
 by_cases C:0<=i
 .have n:i.toNat=j:=by
   rw [seqIndex_of C O] at e
   exact LQ e
  exact item_listR l.isList C Z4 (by rw [n];simpa using B) d A
 .have n:(i+(k.toArray.size:Int)).toNat=j:=by
   rw [seqIndex_neg Z4 N] at e
   rw [LU,<-T]
   exact LQ e
  exact subscriptTail_builtinR (x:=w) l.isList.typeIs slot_list_getitem.lookup
   (wpAny_getItem_list_neg (Q:=λr U=>r=w/\EP X c o Q r U) l.isList Z4 (by rw [LU]<;>omega) Z4 (by rw [n];simpa using B) ⟨rfl,d⟩) A
def Gj:jR X (Cs X.K):=by
 intro d e c s k H x y v u Q I m n h o
 obtain ⟨p,N,i,z,rfl,rfl,A,B,q⟩:=h
 cases m
 obtain ⟨t,rfl⟩:=n
 obtain ⟨C,r,l,O⟩:=I.tuple A
 obtain ⟨j,E,G,T,U,Y⟩:=mJ B
 obtain ⟨w,J,f⟩:=r.get G
 have L:=r.length
 have hn:=pF
 have g:EP X c k Q w s:=⟨z,H,I,f,q⟩
 exact subscriptTail_builtinR (x:=w) l.typeIs slot_tuple_getitem.lookup
  (getItem_tuple (j:=j) (Q:=λr M=>r=w/\EP X c k Q r M) l Z4 Z4 (by rw [LU,<-L];exact E) (by simpa using J) ⟨rfl,g⟩) o
def Gp:jR X yL:=by
 intro d e f s C H x y v u Q I k l h m
 obtain ⟨z,i,c,rfl,rfl,E,n,q⟩:=h
 obtain ⟨t,rfl⟩:=k
 obtain ⟨G,rfl⟩:=l
 obtain ⟨j,g,o,J,p,r⟩:=mJ n
 have w:z.cps.toList.length=z.length:=by simp [Str.length]
 rw [w] at g p r
 have L:=pF
 exact tail_any (typeIs_str s z t) slot_str_getitem.lookup (getItem_str (c:=c) (by
  have A:decide (i< -(2^63:Int))=false:=Mc Z4
  have B:decide (i≥2^63)=false:=Mc Z4
  rw [A,B,PM]) (by rw [g];simpa using o) ⟨.str ⟨#[c]⟩,H,I.tok _,⟨_,rfl⟩,q⟩) m
def gf (K:PySem.W.Frag):R2:=λx y H Q=>Bc K x y H Q\/Cs K x y H Q\/yL x y H Q
def Lr:jR X (gf X.K):=Dp.or<|Gj.or Gp
def Ho (lo hi:Option Int)(n:Nat):(sliceBounds lo hi none n).1=((HT.bK n 0 lo:Nat):Int)/\(sliceBounds lo hi none n).2.1=((HT.bK n n hi:Nat):Int)/\(sliceBounds lo hi none n).2.2=1:=by
 refine ⟨?_,?_,rfl⟩
 .cases lo with
  |none=>simp [sliceBounds,HT.bK]
  |some i=>
   simp only [sliceBounds,HT.bK,PZ,show (1:Int)>0 by decide,Ox]
   by_cases h:i<0
   .simp only [h,Ox]<;>omega
   .simp only [h,PY]<;>omega
 .cases hi with
  |none=>simp [sliceBounds,HT.bK]
  |some i=>
   simp only [sliceBounds,HT.bK,PZ,show (1:Int)>0 by decide,Ox]
   by_cases h:i<0
   .simp only [h,Ox]<;>omega
   .simp only [h,PY]<;>omega
def Jq (its:List Value)(lo hi:Option Int):slicePick its.toArray lo hi none=((its.drop (HT.bK its.length 0 lo)).take (HT.bK its.length its.length hi-HT.bK its.length 0 lo)).toArray:=by
 obtain ⟨h1,h2,h3⟩:=Ho lo hi its.toArray.size
 unfold slicePick
 rw [h1,h2,h3]
 simp only [sliceRange_one,pick_run,LU]<;>rfl
def AB (K:PySem.W.Frag):V->Option Int->Option Int->Hp->VK->Prop:=λx lo hi H Q=>∃a xs,x=.ref a/\aP K H a xs/\∀p,H p=none->Q (.ref p) (upd H p (.lst (gQ xs lo hi)))
def AQ:vV X (AB X.K):=by
 intro pins s σ H x v vl vu lo hi sl Q I rx hs pl pu h
 obtain ⟨a,xs,rfl,hx,q⟩:=h
 cases rx
 obtain ⟨its,r,ht,hz⟩:=I.list hx
 have hlen:=r.length
 refine ⟨"list",_,slot_list_getitem.lookup,ht.isList.typeIs,?_⟩
 refine wpAny_getItem_list_slice ht.isList hs pl pu .none Z8 ?_ (by rw [LU]<;>omega)
 rw [Jq,<-hlen]
 refine ⟨.ref s.heap.objs.size,_,I.laid (t':=s.toks) (o:=.lst (gQ xs lo hi)) (λb ob q=>LC _ q) (LF _) ?_,rfl,q _ (I.az.fresh (LF _))⟩
 exact ⟨L8 (C1 xs lo hi) hz,_,0,(r.drop (HT.bK xs.length 0 lo)).take (HT.bK xs.length xs.length hi-HT.bK xs.length 0 lo),L0 _ rfl⟩
def Gr:il X (.builtin "len") (λj H Q=>∃p d,j=[.ref p]/\(aP X.K H p d\/bq X.K H p d)/\Q (.int d.length) H):=by
 intro k s n H j o Q I r h
 obtain ⟨p,d,rfl,e,q⟩:=h
 obtain ⟨u,rfl,l⟩:=PV r
 cases l
 have t:=pF
 rcases e with e|e
 .obtain ⟨f,g,i,m⟩:=I.list e
  have c:=g.length
  exact Calls.call_len_list i.isList (by simp only [LU]<;>omega) ⟨.int d.length,H,I.tok _,⟨s.toks+1,by rw [LU,c]⟩,q⟩
 .obtain ⟨f,g,i,m⟩:=I.tuple e
  have c:=g.length
  exact len_tuple i (by simp only [LU]<;>omega) ⟨.int d.length,H,I.tok _,⟨s.toks+1,by rw [LU,c]⟩,q⟩
def Lp:il X (.type "list") (λC H Q=>∃p f,C=[.ref p]/\(aP X.K H p f\/bq X.K H p f)/\∀l,H l=none->Q (.ref l) (upd H l (.lst f))):=by
 intro j s G H C L Q I r h
 obtain ⟨p,f,rfl,k,q⟩:=h
 obtain ⟨u,rfl,J⟩:=PV r
 cases J
 have m:∀(c:List Value),a9 f c->f.length<=sizeLine->∀(d:Heap) (g:Nat),(∀b E,s.heap.get? b=some E->d.get? b=some E)->
   d.get? s.heap.objs.size=some {cls:=.type "list",dict:=none,data:=.seq c.toArray g,slots:= #[]}->EP X j G Q (.ref s.heap.objs.size) {s with heap:=d}:=λc i t d g v e=>
  ⟨.ref s.heap.objs.size,_,I.laid (t':=s.toks) v (LF _) (show bX X.prog X.w _ d _ (.lst f) from ⟨t,c,g,i,e⟩),rfl,q _<|I.az.fresh<|LF _⟩
 rcases k with k|k
 .obtain ⟨c,i,y,t⟩:=I.list k
  have x:=i.length
  obtain ⟨o,z,A,n,B⟩:=y.isList
  exact call_list_seq p (.inl rfl) z A B (λd g v e=>m c i t d g v e) (by simp only [LU]<;>omega)
 .obtain ⟨c,i,y,t⟩:=I.tuple k
  have x:=i.length
  obtain ⟨o,z,A,n,B⟩:=y
  exact call_list_seq p (.inr rfl) z A B (λd g v e=>m c i t d g v e) (by simp only [LU]<;>omega)
def DS:il X (.type "tuple") (λm H Q=>∃p f,m=[.ref p]/\((aP X.K H p f/\∀l,H l=none->Q (.ref l) (upd H l (.tup f)))\/(bq X.K H p f/\Q (.ref p) H))):=by
 intro c s n H m B Q I r h
 obtain ⟨p,f,rfl,h⟩:=h
 obtain ⟨u,rfl,y⟩:=PV r
 cases y
 rcases h with ⟨i,q⟩|⟨i,q⟩
 .obtain ⟨d,j,k,t⟩:=I.list i
  have v:=j.length
  refine call_tuple_list k.isList (λg z=>?_) (by simp only [LU]<;>omega)
  have x:Inv X c n H {s with heap:=g}:=I.kept (t':=s.toks) z
  have A:Inv X c n (upd H g.objs.size (.tup f)) {s with heap:=g.push {cls:=.type "tuple",data:=.seq d.toArray}}:=
   x.laid (t':=s.toks) (λb o e=>LC _ e) (LF _) (show bX X.prog X.w _ _ _ (.tup f) from ⟨t,d,j,IsTup.new _ _⟩)
  exact ⟨.ref g.objs.size,_,A,rfl,q _<|x.az.fresh<|LF _⟩
 .obtain ⟨d,j,k,t⟩:=I.tuple i
  exact call_tuple_same k ⟨.ref p,H,I,rfl,q⟩
def gX (K:PySem.W.Frag)(T:String)(x:V)(H:Hp):Prop:=match x with
 |.str _=>T="str"
 |.int _=>T="int"
 |.ref p=>(T="list"/\∃xs,aP K H p xs)\/(T="tuple"/\∃o,K.lookup p=some o/\o.cls=.type "tuple"/\o.dict=none)\/
   (T="dict"/\((∃kvs,H p=some (.dK kvs))\/∃kvs,H p=some (.dT kvs)))\/(T="set"/\∃S n,H p=some (.set S n))
 |_=>False
def Ct(I:Inv X g u H s)(r:RelV x v)(h:gX X.K T x H):
  s.TypeIs v T/\∀a,v=.ref a->∃m,s.heap.get? a=some m/\m.dict=none:=by
 cases x with
 |str z=>
  obtain ⟨t,rfl⟩:=r
  cases (show T="str" from h)
  exact ⟨typeIs_str s z t,λ_ e=>nomatch e⟩
 |int i=>
  obtain ⟨t,rfl⟩:=r
  cases (show T="int" from h)
  exact ⟨typeIs_int s i t,λ_ e=>nomatch e⟩
 |ref p=>
  cases r
  rcases h with ⟨rfl,B,w⟩|⟨rfl,o,d,y,j⟩|⟨rfl,d⟩|⟨rfl,S,n,d⟩
  .obtain ⟨A,_,q,_⟩:=I.list w
   refine ⟨q.isList.typeIs,λa e=>?_⟩
   cases e
   obtain ⟨o,n,e,c,j,_⟩:=q
   exact ⟨o,e,j⟩
  .refine ⟨⟨o,I.dE p o d,y⟩,λa e=>?_⟩
   cases e
   exact ⟨o,I.dE _ o d,j⟩
  .have z:∃o,s.heap.get? p=some o/\o.ExactDict:=by
    rcases d with ⟨k,d⟩|⟨k,d⟩
    .obtain ⟨_,_,_,_,o,_,_,e,f,_⟩:=I.az p _ d
     exact ⟨o,e,f⟩
    .obtain ⟨_,_,_,_,o,_,_,e,f,_⟩:=I.az p _ d
     exact ⟨o,e,f⟩
   obtain ⟨o,e,f⟩:=z
   refine ⟨⟨o,e,f.1⟩,λa l=>?_⟩
   cases l
   exact ⟨o,e,f.2.1⟩
  .obtain ⟨o,_,_,_,e,f,_⟩:=I.az p _ d
   refine ⟨⟨o,e,f.1⟩,λa l=>?_⟩
   cases l
   exact ⟨o,e,f.2.1⟩
 |_=>exact False.elim h
def xv (K:PySem.W.Frag)(T:String)(r:V->List V->Hp->VK->Prop)(to:TE):TE:=λσ H Q=>to σ H λx H1=>gX K T x H1/\r x [] H1 Q
def ny (K:PySem.W.Frag)(T:String)(r:V->List V->Hp->VK->Prop)(to:TE)(t:TA):TE:=λσ H Q=>to σ H λx H1=>gX K T x H1/\t σ H1 λxs H2=>r x xs H2 Q
variable {o e:Expr}{es:List Expr}{to:TE}{t:TA}{name:Str}{apos cpos:Pos}{T id:String}{r:V->List V->Hp->VK->Prop}
def y3 (m:PlainAttrs T)(g:Slot T name id)(i:typeOf (.builtin id)=pure (.type "method_descriptor"))(n:sK X id r)(p:PE X o to)
  (d:attributeBase o name X.env (eval o X.env)=eval o X.env:=by rfl) (f:(apos.endLine==cpos.line)=true:=by rfl):PE X (.Call (.Attribute o name apos) [] [] cpos) (xv X.K T r to):=by
 intro c s j H Q I h
 refine wpAny_Call_method0_late d f<|aS (p c s j H _ I h) λv q u=>?_
 obtain ⟨x,w,k,l,y,z⟩:=u
 obtain ⟨A,B⟩:=Ct k l y
 exact ⟨T,id,m,g,i,A,B,No rfl<|PySem.evalArgs_none<|n c q j w x [] v [] Q k l .nil z⟩
def vt (q:PlainAttrs T)(i:Slot T name id)(k:typeOf (.builtin id)=pure (.type "method_descriptor"))(u:sK X id r)(w:PE X o to)(y:PA X (e::es) t)
  (f:attributeBase o name X.env (eval o X.env)=eval o X.env:=by rfl)
  (j:((backTo cpos (starEach (e::es) X.env)).all (λx=> !x.1)&&(backToKw cpos (keywordEach [] X.env)).all (λx=>x.1.isSome)
   &&decide ((e::es).length+([]:List Keyword).length+(if ([]:List Keyword).isEmpty then 0 else 1)<30))=true:=by rfl)
  (g:(apos.endLine==cpos.line)=true:=by rfl) (z:starEach (e::es) X.env=(false,eval e X.env)::starEach es X.env:=by rfl) (d:(backTo cpos (starEach es X.env)).any (·.1)=false:=by rfl):
  PE X (.Call (.Attribute o name apos) (e::es) [] cpos) (ny X.K T r to t):=by
 intro c s l H Q I h
 refine wpAny_Call_method_late f j g rfl<|aS (w c s l H _ I h) λv A B=>?_
 obtain ⟨x,C,m,n,E,G⟩:=B
 obtain ⟨J,L⟩:=Ct m n E
 refine ⟨T,id,q,i,k,J,L,?_⟩
 have p:=y cpos c A l C _ m G
 rw [z] at p⊢
 refine No (by show (false||(backTo cpos<|starEach es X.env).any (·.1))=false;rw [d]<;>rfl)<|OZ ?_
 exact aS p λM N O=>by obtain ⟨U,Y,I2,r2,q2⟩:=O;exact u c N l Y x U v M Q I2 n r2 q2
end
end L2
namespace L2
open PySem PySem.Spec PyProof.Rows
def v9 (X:Cx)(id:String)(r:V->List V->Hp->VK->Prop):Prop:=
 ∀(pins:List (Addr×Obj)) (s:Shared) (σ:St) (H:Hp) (x:V) (xs:List V) (v:Value) (us:List Value) (Q:VK),Inv X pins σ H s->RelV x v->a9 xs us->r x xs H Q->
  wpAny (model X.prog X.w) X.A (call (.builtin id) (v::us)) (EP X pins σ Q) X.xe s
def a9.one:∀{x:V} {a:List Value},a9 [x] a->∃u,a=[u]/\RelV x u
 |_,_,.cons r .nil=>⟨_,rfl,r⟩
def a9.two:∀{x y:V} {a:List Value},a9 [x,y] a->∃u v,a=[u,v]/\RelV x u/\RelV y v
 |_,_,_,.cons r (.cons q .nil)=>⟨_,_,rfl,r,q⟩
def a9.zero:∀{a:List Value},a9 [] a->a=[]
 |_,.nil=>rfl
theorem a9.dropLast(h:a9 a b):a9 a.dropLast b.dropLast:=by
 induction h with
 |nil=>exact .nil
 |cons r t c=>
  cases t with
  |nil=>exact .nil
  |cons q d=>exact .cons r c
def Hd(l:List c):l.eraseIdx (l.length-1)=l.dropLast:=by
 induction l with
 |nil=>rfl
 |cons a r d=>
  cases r with
  |nil=>rfl
  |cons b r=>
   have e:(a::b::r).length-1=((b::r).length-1)+1:=by
    have f:(a::b::r).length=r.length+2:=rfl
    have g:(b::r).length=r.length+1:=rfl
    omega
   rw [e,List.eraseIdx_cons_succ,d]
   all_goals rfl
section
variable {X:Cx}{pins:List (Addr×Obj)}{σ:St}{H:Hp}{s:Shared}{l b:Addr}{xs ys zs:List V}
def Inv.uT{a its':List Value}{f:Array Value->Array Value}(I:Inv X pins σ H s)(d:H l=some (.lst xs))
  (e:s.heap.get? l=some {cls:=.type "list",data:=.seq a.toArray n}) (g:f a.toArray=its'.toArray) (h:a9 ys its') (i:ys.length<=sizeLine):
  Inv X pins σ (upd H l (.lst ys)) {s with heap:=s.heap.update l (Obj.mapSeq f),toks:=c}:=by
 have q:=PySem.IsL.update e f
 rw [g] at q
 refine I.write (x:=l) (e:=l) (by rw [d];exact trivial) (.inl rfl) (λm u j k=>(M7 s.heap (Obj.mapSeq f)<|MC j).trans k) ⟨_,q⟩ ?_
 exact ⟨i,its',_,h,q⟩
def Inv.Gu(I:Inv X pins σ H s)(c:a9 ys a)(d:ys.length<=sizeLine):
  Inv X pins σ (upd H s.heap.objs.size (.lst ys)) {s with heap:=s.heap.push {cls:=.type "list",data:=.seq a.toArray},toks:=t'}:=
 I.laid (λ_ _ q=>LC _ q) (LF _) ⟨d,a,0,c,L0 _ rfl⟩
theorem Inv.fresh (I:Inv X pins σ H s):H s.heap.objs.size=none:=I.az.fresh<|LF _
def Inv.nM (I:Inv X pins σ H s)(c:H l=some (.lst xs)):xs.length<=sizeLine/\∃(a:List Value) (n:Nat),a9 xs a/\xs.length=a.length/\s.heap.get? l=some {cls:=.type "list",data:=.seq a.toArray n}:=by
 obtain ⟨z,a,n,r,e⟩:=I.az l _ c
 exact ⟨z,a,n,r,r.length,e⟩
def wD(h:n<=sizeLine):Builtin.List.listTooLong n=false:=by
 unfold Builtin.List.listTooLong
 exact Mc Z4
end
section
variable {X:Cx}
def nI:V->List V->Hp->VK->Prop:=λx vs H Q=>∃l xs y,x=.ref l/\vs=[y]/\H l=some (.lst xs)/\xs.length<sizeLine/\Q .av (upd H l (.lst (xs++[y])))
def yF:v9 X "list.append" nI:=by
 intro b s i H x j v k Q I d f h
 obtain ⟨l,m,y,rfl,rfl,c,o,q⟩:=h
 cases d
 obtain ⟨u,rfl,g⟩:=f.one
 obtain ⟨z,a,n,r,p,e⟩:=I.nM c
 refine Qr F.slot_list_append ⟨_,e,rfl⟩ F.entry_list_append (F.args_list_append_2 _ _) (PySem.list_append l a.toArray n u (by rw [LU];omega)) ⟨e,?_⟩
 refine ⟨.av,_,I.uT (its':=a++[u]) c e Z8 (r.append (.cons g .nil)) ?_,rfl,q⟩
 rw [LR,MQ]
 omega
def JQ:V->List V->Hp->VK->Prop:=λx vs H Q=>∃l b xs zs,x=.ref l/\vs=[.ref b]/\H l=some (.lst xs)/\H b=some (.lst zs)/\xs.length+zs.length<=sizeLine/\Q .av (upd H l (.lst (xs++zs)))
def CI:v9 X "list.extend" JQ:=by
 intro g s A H x B v C Q I j k h
 obtain ⟨l,b,E,G,rfl,rfl,i,m,J,q⟩:=h
 cases j
 obtain ⟨u,rfl,o⟩:=k.one
 cases o
 obtain ⟨z,c,n,r,L,e⟩:=I.nM i
 obtain ⟨M,a,p,t,w,y⟩:=I.nM m
 have f:c.toArray.size+a.toArray.size<=sizeLine:=by rw [LU,LU];omega
 have d:¬(!c.toArray.isEmpty&&Builtin.List.listTooLong (c.toArray.size+a.toArray.size))=true:=by
  rw [wD f,Pp]
  exact LI
 refine Qr OM ⟨_,e,rfl⟩ F.entry_list_extend (F.args_list_extend_2 _ _)
  (AutoSeq1.list_extend_list_list_0 l c.toArray n b a.toArray p d (by rw [LU];omega) Z4) ⟨e,y,?_⟩
 refine ⟨.av,_,I.uT (its':=c++a) i e Z8 (r.append t) ?_,rfl,q⟩
 rw [LR]
 omega
def HS:V->List V->Hp->VK->Prop:=λx vs H Q=>∃l xs y,x=.ref l/\vs=[]/\H l=some (.lst xs)/\xs[xs.length-1]?=some y/\Q y (upd H l (.lst xs.dropLast))
def Hl:v9 X "list.pop" HS:=by
 intro d s p H x t v w Q I g i h
 obtain ⟨l,A,y,rfl,rfl,f,j,q⟩:=h
 cases g
 have b:=i.zero
 subst b
 obtain ⟨z,a,n,r,k,e⟩:=I.nM f
 obtain ⟨u,m,o⟩:=r.get j
 have c:a.toArray[a.toArray.size-1]?=some u:=by
  show a.toArray[a.length-1]?=some u
  rw [<-Qf,<-k]
  exact m
 refine Qr F.slot_list_pop ⟨_,e,rfl⟩ F.entry_list_pop (F.args_list_pop_1 _) (MeetsSeq.list_pop_last l a.toArray n u c (by rw [LU];omega)) ⟨e,?_⟩
 refine ⟨y,_,I.uT (its':=a.dropLast) f e ?_ r.dropLast ?_,o,q⟩
 .show a.toArray.eraseIdxIfInBounds (a.toArray.size-1)=a.dropLast.toArray
  rw [LU,List.eraseIdxIfInBounds_toArray,Hd]
 .rw [List.length_dropLast]
  omega
def Cn:R2:=λx y H Q=>∃l b xs zs,x=.ref l/\y=.ref b/\H l=some (.lst xs)/\H b=some (.lst zs)/\xs.length+zs.length<=sizeLine/\∀p,H p=none->Q (.ref p) (upd H p (.lst (xs++zs)))
def p6:cK X (binaryOp .Add) Cn:=by
 intro d s t H x y v u Q I f g h
 obtain ⟨l,b,w,A,rfl,rfl,i,j,B,q⟩:=h
 cases f
 cases g
 obtain ⟨z,c,n,r,C,e⟩:=I.nM i
 obtain ⟨E,a,G,k,m,o⟩:=I.nM j
 refine PySem.P.add_list e o ?_ (by rw [LU,LU];omega)
 have p:c.toArray++a.toArray=(c++a).toArray:=by simp
 rw [p]
 exact ⟨.ref _,_,I.Gu (t':=s.toks) (r.append k) (by rw [LR];omega),rfl,q _ I.fresh⟩
end
section
variable {prog:Program}{w:World}{A:Around}{E:Value->Shared->Prop}{s:Shared}
def Jg {a c n:Nat}(b:a<=c)(f:c<=n):sliceBounds (some (a:Int)) (some (c:Int)) none n=((a:Int),(c:Int),1):=by
 simp only [sliceBounds,PZ]
 have d:¬((a:Int)<0):=by omega
 have e:¬((c:Int)<0):=by omega
 simp only [d,e,PY,show (1:Int)>0 by decide,Ox]
 congr 1
 .omega
 .congr 1;omega
set_option maxRecDepth 100000 in
def Ls{n I:Nat}{a c:Nat}{Q:Unit->Shared->Prop}
  (e:s.heap.get? l=some {cls:=.type "list",data:=.seq d n}) (H:s.heap.get? b=some {cls:=.type "list",data:=.seq g I}) (y:l≠b)
  (J:s.heap.IsSliceOf q u v .none) (L:IsPart u (some (a:Int))) (M:IsPart v (some (c:Int))) (z:a<=c) (N:c<=d.size)
  (k:d.size+g.size<=sizeLine) (h:Q () {s with heap:=s.heap.update l (Obj.mapSeq λi=>i.extract 0 a++g++i.extract c i.size)}):
  wpAny (model prog w) A (setItem (.ref l) (.ref q) (.ref b)) Q E s:=by
 have B:s.heap.IsList l d:=PySem.IsL.isList e
 have O:s.heap.IsList b g:=PySem.IsL.isList H
 obtain ⟨os,j,C,o⟩:=id J
 have r:s.TypeIs (.ref q) "slice":=⟨os,j,C⟩
 have p:¬((rawPart none==rawInt 0)=true):=LI
 have f:Builtin.List.listSameRef (.ref l) (.ref b)=false:=by
  unfold Builtin.List.listSameRef
  exact ML.mpr y
 have t:(max (a:Int) (c:Int)).toNat=c:=by omega
 have G:((λi:Array Value=>i.extract 0 a++g++i.extract c i.size) d).size<=sizeLine+1:=by
  simp only [Array.size_append,Array.size_extract]
  omega
 unfold setItem
 try with_reducible refine Nd ?_
 first|refine Lw (LN ?_)|skip
 refine Lw<|wpAny_sequenceKey B.typeIs Z1 ?_
 refine Lw (MN (name:=Str.ofString "__setitem__") B.typeIs slot_list_setitem
  (NP slot_list_setitem B.typeIs entry_list_setitem ?_ (args_list_setitem _ _ _)))
 show wpAny _ _ (Builtin.List.listSubscript? (.ref q)>>=_) _ _ s
 refine Lw ?_
 unfold Builtin.List.listSubscript?
 refine Lw<|wpAny_specialOf r slice_no_index ?_
 simp only [Option.isNone_none,Ox]
 refine LN ?_
 show wpAny _ _ (typeOf (.ref q)>>=_) _ _ s
 refine Lw<|Pg r ?_
 first
  |rw [LG Z1]
  |refine Pq Z1 ?_
 rw [listSliceParts_eq]
 refine Lw<|Lw<|MH j o (x:=.none) rfl<|Lw<|Qi .none ?_
 rw [LG p]
 refine Lw<|MH j o (x:=u) rfl<|Lw<|Qi L ?_
 refine Lw<|MH j o (x:=v) rfl<|Lw<|Qi M<|LN ?_
 first
  |simp only [f,Pr,PY]
  |refine Pq f ?_
  |(dsimp only
    rw [LG (by rw [f];exact LI)])
 refine Lw (m:=Builtin.List.listAllItems (.ref b) "must assign iterable to extended slice") ?_
 unfold Builtin.List.listAllItems
 refine Lw<|Pg O.typeIs ?_
 first
  |refine W.KFB.if_so Z1 ?_
  |rw [LJ Z1]
  |simp only [OT,Bool.true_or,Ox]
 unfold Builtin.List.listItems
 refine Lw<|MJ H rfl<|LN ?_
 refine Lw<|Lw<|MJ e rfl<|LN ?_
 refine Lw<|Qj ((sliceIndices_raw (some (a:Int)) (some (c:Int)) none d.size Z8).trans<|MA (pure:Int×Int×Int->Sem (Int×Int×Int))<|Jg z N) ?_
 show wpAny _ _ (if ((1:Int)==1)=true then _ else _) _ _ s
 rw [LJ Z1]
 refine Lw<|OD ?_
 first
  |simp only [wD k,Pr,PY]
  |refine Pq (wD k) ?_
 first|refine Lw (LN ?_)|skip
 show wpAny _ _ (updateSeq l (λi=>i.extract 0 ((a:Int)).toNat++g++i.extract (max (a:Int) (c:Int)).toNat i.size)>>=_) _ _ s
 rw [t,NC]
 refine Lw<|O6 (hz:=L8 (MF _ _) k) (_hz':=G) e rfl ?_
 refine Lw<|Od ?_
 first
  |exact Lw<|LN<|LN ⟨.none,rfl,LN h⟩
  |exact LN ⟨.none,rfl,LN h⟩
end
section
variable {X:Cx}
end
end L2
namespace L2
open PySem PySem.Spec PyProof.Rows
section
variable {κ:Type} [DecidableEq κ]
def bm (kvs:List (κ×V))(k:κ):Option V:=(kvs.find? λkv=>decide (kv.1=k)).map (·.2)
def cg (kvs:List (κ×V))(k:κ)(v:V):List (κ×V):=
 if (kvs.any λkv=>decide (kv.1=k))=true then kvs.map (λkv=>if kv.1=k then (kv.1,v) else kv) else kvs++[(k,v)]
def ge{p:κ×V}(e:p.1=k):bm (p::r) k=some p.2:=by simp [bm,MK,e]
def fZ{p:κ×V}(e:¬p.1=k):bm (p::r) k=bm r k:=by simp [bm,MK,e]
theorem jM (k:κ):∀a:List (κ×V),(a.any λb=>decide (b.1=k))=(bm a k).isSome
 |[]=>rfl
 |p::r=>by
  rw [OV]
  by_cases e:p.1=k
  .simp only [ge e,LV e,Bool.true_or,Option.isSome_some]
  .rw [fZ e,Mc e,Bool.false_or];exact jM k r
theorem yT (k j:κ)(y:V):∀a:List (κ×V),bm (a.map λb=>if b.1=k then (b.1,y) else b) j=(bm a j).map λx=>if j=k then y else x
 |[]=>rfl
 |p::r=>by
  have c:=yT k j y r
  rw [Mu]
  by_cases h:p.1=k
  .rw [LJ h]
   by_cases e:p.1=j
   .rw [ge (p:=(p.1,y)) e,ge e,Oy,LJ<|e.symm.trans h]
   .rw [fZ (p:=(p.1,y)) e,fZ e,c]
  .rw [LG h]
   by_cases e:p.1=j
   .rw [ge (p:=p) e,ge e,Oy,LG λz=>h<|e.trans z]
   .rw [fZ (p:=p) e,fZ e,c]
theorem yG (k j:κ)(y:V):∀a:List (κ×V),bm a k=none->bm (a++[(k,y)]) j=if j=k then some y else bm a j
 |[],_=>by
  by_cases e:k=j
  .rw [LJ e.symm];exact ge (p:=(k,y)) e
  .rw [LG λz=>e z.symm];exact fZ (p:=(k,y)) e
 |p::r,b=>by
  rw [OI]
  have c:¬p.1=k:=λz=>by rw [ge z] at b;cases b
  rw [fZ c] at b
  have d:=yG k j y r b
  by_cases e:p.1=j
  .rw [ge e,ge e,LG λz=>c<|e.trans z]
  .rw [fZ e,fZ e,d]
def uX (b:List (κ×V))(k j:κ)(y:V):bm (cg b k y) j=if j=k then some y else bm b j:=by
 unfold cg
 by_cases a:(b.any λc=>decide<|c.1=k)=true
 .rw [LJ a,yT]
  rw [jM] at a
  by_cases e:j=k
  .obtain ⟨x,d⟩:=PL.mp a
   rw [LJ e,e,d,Oy,LJ rfl]
  .rw [LG e]
   cases bm b j with
   |none=>rfl
   |some x=>rw [Oy,LG e]
 .rw [LG a]
  refine yG k j y b ?_
  rw [jM] at a
  cases q:bm b k with
  |none=>rfl
  |some x=>rw [q] at a;exact (a rfl).elim
def nk (a:List (κ×V))(k:κ)(v:V):(cg a k v).length<=a.length+1:=by
 unfold cg
 split
 .rw [LA];omega
 .rw [LR,Mq,NI];omega
def xf {a:List (κ×V)}{k:κ}(v:V)(h:bm a k=none):cg a k v=a++[(k,v)]:=by
 unfold cg
 rw [jM,h]
 exact LG Z1
def eo.pd(r:eo o u):o.isSome=u.isSome:=by
 cases o with
 |none=>cases u with
  |none=>rfl
  |some _=>exact (show False from r).elim
 |some _=>cases u with
  |none=>exact (show False from r).elim
  |some _=>rfl
theorem eo.getD(r:eo o u)(b:RelV d a):RelV (o.getD d) (u.getD a):=by
 cases o with
 |none=>cases u with
  |none=>exact b
  |some _=>exact (show False from r).elim
 |some _=>cases u with
  |none=>exact (show False from r).elim
  |some _=>exact r
def KV.val(r:KV a f)(k:κ):eo (bm a k) (valueAt f k):=by
 unfold KV at r
 induction r with
 |nil=>exact True.intro
 |@cons p q l c h t i=>
  obtain ⟨g,j⟩:=h
  by_cases e:p.1=k
  .have d:q.1=k:=g.symm.trans e
   have b:valueAt (q::c) k=some q.2:=by simp [valueAt,MK,d]
   rw [ge e,b];exact j
  .have d:¬q.1=k:=λz=>e (g.trans z)
   have b:valueAt (q::c) k=valueAt c k:=by simp [valueAt,MK,d]
   rw [fZ e,b];exact i
theorem KV.any(r:KV a c)(k:κ):(a.any λb=>decide (b.1=k))=c.any λb=>decide (b.1=k):=by
 unfold KV at r
 induction r with
 |nil=>rfl
 |cons h t d=>rw [OV,OV,d,h.1]
def KV.mf(r:KV b d)(k:κ)(f:RelV y u):
  KV (b.map λa=>if a.1=k then (a.1,y) else a) (d.map λa=>if a.1=k then (a.1,u) else a):=by
 unfold KV at r⊢
 induction r with
 |nil=>exact .nil
 |@cons p q j l h t g=>
  rw [Mu,Mu]
  refine .cons ?_ g
  obtain ⟨c,i⟩:=h
  by_cases e:p.1=k
  .rw [LJ e,LJ<|c.symm.trans e];exact ⟨c,f⟩
  .rw [LG e,LG λz=>e<|c.trans z];exact ⟨c,i⟩
def KV.put(r:KV a b)(k:κ)(c:RelV y u):KV (cg a k y) (stored b k u):=by
 unfold cg stored
 rw [r.any k]
 by_cases e:(b.any λd=>decide<|d.1=k)=true
 .rw [LJ e,LJ e];exact r.mf k c
 .rw [LG e,LG e];exact Paired.snoc r ⟨rfl,c⟩
theorem KV.length(r:KV a b):a.length=b.length:=Nr r
end
def kf(r:RelV (kV k) u):(du P w).is k u=true:=by
 cases k with
 |inl i=>obtain ⟨t,e⟩:=(show∃t,u=Value.int i t from r);subst e;exact G4 P w i t
 |inr x=>obtain ⟨t,e⟩:=(show∃t,u=Value.str x t from r);subst e;exact Fx P w x t
theorem zq:∀{a:List aK} {b:List Value},a9 (a.map kV) b->ItemsAre (du P w) a b
 |[],_,r=>by rw [Oj] at r;cases r;exact .nil
 |k::a,_,r=>by
  rw [Mu] at r
  cases r with
  |cons h t=>exact .cons (kf h)<|zq t
abbrev KT (H:Hp):List (List aK×V)->List (List aK×Addr×Value)->Prop:=Paired λp q=>p.1=q.1/\H q.2.1=some (.tup (p.1.map kV))/\RelV p.2 q.2.2
def KT.val(r:KT H a f)(k:List aK):eo (bm a k) ((atKey f k).map (·.2)):=by
 induction r with
 |nil=>exact True.intro
 |@cons p q l c h t i=>
  obtain ⟨g,_,j⟩:=h
  by_cases e:p.1=k
  .have d:q.1=k:=g.symm.trans e
   have b:atKey (q::c) k=some q.2:=by simp [atKey,MK,d]
   rw [ge e,b];exact j
  .have d:¬q.1=k:=λz=>e (g.trans z)
   have b:atKey (q::c) k=atKey c k:=by simp [atKey,MK,d]
   rw [fZ e,b];exact i
def KT.mf(r:KT H a d)(k:List aK)(g:RelV y u):
  KT H (a.map λc=>if c.1=k then (c.1,y) else c) (d.map (putAt k u)):=by
 induction r with
 |nil=>exact .nil
 |@cons p q l m h t i=>
  rw [Mu,Mu]
  refine .cons ?_ i
  obtain ⟨b,f,j⟩:=h
  unfold putAt
  by_cases e:p.1=k
  .rw [LJ e,LJ<|b.symm.trans e];exact ⟨b,f,g⟩
  .rw [LG e,LG λz=>e<|b.trans z];exact ⟨b,f,j⟩
def KT.put(r:KT H a c)(k:List aK)(f:H b=some (.tup (k.map kV)))(d:RelV y u):
  KT H (cg a k y) (storedH c k b u):=by
 have e:(a.any λg=>decide<|g.1=k)=(atKey c k).isSome:=by
  rw [jM,(r.val k).pd,ON]
 unfold cg storedH
 rw [e]
 by_cases q:(atKey c k).isSome=true
 .rw [LJ q,LJ q];exact r.mf k d
 .rw [LG q,LG q];exact Paired.snoc r ⟨rfl,f,d⟩
def KT.keeps{c:Hp}(r:KT H a d)(f:∀b e,H b=some (.tup e)->c b=some (.tup e)):KT c a d:=
 Paired.uz r λ_ _ z=>⟨z.1,f _ _ z.2.1,z.2.2⟩
section
variable {P:Program}{w:World}{H:Hp}{h:Heap}{a:Addr}
def xF(b:cT P w H h)(e:Rd H a u):bX P w H h a u:=e.ok b
def ic(d:cT P w H h)(e:Rd H a (.dK b)):b.length<=sizeLine/\(a==sysModules)=false/\∃c,KV b c/\h.DictOf (du P w) a c:=
 show bX P w H h a (.dK b) from xF d e
def C2(d:cT P w H h)(e:H a=some (.dK b)):b.length<=sizeLine/\(a==sysModules)=false/\∃c,KV b c/\h.DictOf (du P w) a c:=ic d (.inl e)
def lz {b:List aK}(d:cT P w H h)(e:H a=some (.tup (b.map kV))):(tupleKind (du P w)).is h b a:=by
 obtain ⟨_,c,r,o,f,g,n,i⟩:=(show bX P w H h a (.tup<|b.map kV) from d a _ e)
 exact ⟨o,c.toArray,n,f,g,i,by simpa using zq r⟩
def kl(f:cT P w H h)(e:Rd H a (.dT b)):b.length<=sizeLine/\(a==sysModules)=false/\
  ∃d,KT H b d/\h.DictOfH (tupleKind (du P w)) a d:=by
 obtain ⟨z,y,d,r,o,i,j,k,n,s,u,v⟩:=(show bX P w H h a (.dT b) from xF f e)
 refine ⟨z,y,d,r,o,i,j,k,n,s,u,λx c=>?_,v⟩
 have all:∀{l:List (List aK×V)} {m:List (List aK×Addr×Value)},KT H l m->∀x∈m,(tupleKind<|du P w).is h x.1 x.2.1:=by
  intro l m q
  induction q with
  |nil=>intro x c;exact nomatch c
  |@cons p q B C g t A=>
   intro x c
   rcases LK.mp c with e|c
   .subst e
    exact lz f (by rw [<-g.1];exact g.2.1)
   .exact A x c
 exact all r x c
def yg(d:cT P w H h)(e:H a=some (.dT b)):b.length<=sizeLine/\(a==sysModules)=false/\
  ∃c,KT H b c/\h.DictOfH (tupleKind (du P w)) a c:=kl d (.inl e)
end
def cR (H:Hp)(a:Addr)(y:V)(r:Option V):Prop:=
 (∃kvs k,Rd H a (.dK kvs)/\y=kV k/\r=bm kvs k)\/∃kvs k b,Rd H a (.dT kvs)/\y=.ref b/\H b=some (.tup (k.map kV))/\r=bm kvs k
def gt (H:Hp)(a:Addr)(y v:V)(H':Hp):Prop:=
 (∃kvs k,H a=some (.dK kvs)/\y=kV k/\kvs.length<sizeLine/\H'=upd H a (.dK (cg kvs k v)))\/
 ∃kvs k b,H a=some (.dT kvs)/\y=.ref b/\H b=some (.tup (k.map kV))/\kvs.length<sizeLine/\H'=upd H a (.dT (cg kvs k v))
theorem cR.k {H:Hp}{a:Addr}{b:List (aK×V)}{k:aK}(e:H a=some (.dK b)):cR H a (kV k) (bm b k):=.inl ⟨b,k,.inl e,rfl,rfl⟩
def cR.t{H:Hp}{k:List aK}(e:H a=some (.dT c))(d:H b=some (.tup (k.map kV))):cR H a (.ref b) (bm c k):=.inr ⟨c,k,b,.inl e,rfl,d,rfl⟩
theorem gt.k {H:Hp}{a:Addr}{b:List (aK×V)}{k:aK}{v:V}(e:H a=some (.dK b))(c:b.length<sizeLine):gt H a (kV k) v (upd H a (.dK (cg b k v))):=.inl ⟨b,k,e,rfl,c,rfl⟩
def gt.t{H:Hp}{k:List aK}(e:H a=some (.dT c))(d:H b=some (.tup (k.map kV)))(f:c.length<sizeLine):
  gt H a (.ref b) v (upd H a (.dT (cg c k v))):=.inr ⟨c,k,b,e,rfl,d,f,rfl⟩
section
variable {X:Cx}{pins:List (Addr×Obj)}{σ:St}{H:Hp}{s:Shared}{a:Addr}{y v:V}{u r:Value}{o:Option V}{A:Around}{E:Value->Shared->Prop}
def Inv.rM (I:Inv X pins σ H s):sysModules<s.heap.objs.size:=by
 have h:mainGlobals<s.heap.objs.size:=(I.mod.glob.keeps I.bk).lt
 exact Nat.lt_trans Z1 h
def Jf {Q:ZT}(x:A.units+1<cLine)(I:Inv X pins σ H s)(g:cR H a y (some v))(q:RelV y u)(h:∀d t,Inv X pins σ H t->RelV v d->Q d t):
  wpAny (model X.prog X.w) A (getItem (.ref a) u) Q E s:=by
 rcases g with ⟨f,k,e,i,l⟩|⟨f,k,b,e,i,B,l⟩
 .subst i
  obtain ⟨z,C,G,bB,j⟩:=ic I.az e
  obtain ⟨d,m,c⟩:=eo.some_of (v:=v) (o:=valueAt G k) (by rw [l];exact bB.val k)
  exact wpAny_getItem_of (kf q) j.mapOf m<|h d _ (I.tok _) c
 .subst i
  cases (show u=Value.ref b from q)
  obtain ⟨z,C,J,bB,j⟩:=kl I.az e
  obtain ⟨d,m,c⟩:=eo.some_of (v:=v) (o:=(atKey J k).map (·.2)) (by rw [l];exact bB.val k)
  obtain ⟨p,L,n⟩:=Mz.mp m
  refine wpAny_getItem_heap (Na x) (lz I.az B) j L ?_
  rw [n]
  exact h d _ (I.tok _) c
def Iw {Q:ZT}(n:A.units+1<cLine)(I:Inv X pins σ H s)(g:cR H a y o)(j:RelV y u)(h:∀m,Inv X pins σ H m->Q (.bool o.isSome) m):
  wpAny (model X.prog X.w) A (compareOp .In u (.ref a)) Q E s:=by
 rcases g with ⟨c,k,e,d,l⟩|⟨c,k,b,e,d,p,l⟩
 .subst d
  obtain ⟨z,f,t,bB,i⟩:=ic I.az e
  refine wpAny_in_of (kf j) f i.mapOf ?_
  rw [<-(bB.val k).pd,<-l]
  exact h _<|I.tok _
 .subst d
  cases (show u=Value.ref b from j)
  obtain ⟨z,f,x,bB,i⟩:=kl I.az e
  refine wpAny_in_heap (Na n) (lz I.az p) f i ?_
  have q:=(bB.val k).pd
  rw [ON] at q
  rw [<-q,<-l]
  exact h _<|I.tok _
def Ig {Q:ZT}(n:A.units+1<cLine)(I:Inv X pins σ H s)(g:cR H a y o)(j:RelV y u)(h:∀m,Inv X pins σ H m->Q (.bool (!o.isSome)) m):
  wpAny (model X.prog X.w) A (compareOp .NotIn u (.ref a)) Q E s:=by
 rcases g with ⟨c,k,e,d,l⟩|⟨c,k,b,e,d,p,l⟩
 .subst d
  obtain ⟨z,f,t,bB,i⟩:=ic I.az e
  refine wpAny_notIn_of (kf j) f i.mapOf ?_
  rw [<-(bB.val k).pd,<-l]
  exact h _<|I.tok _
 .subst d
  cases (show u=Value.ref b from j)
  obtain ⟨z,f,x,bB,i⟩:=kl I.az e
  refine wpAny_notIn_heap (Na n) (lz I.az p) f i ?_
  have q:=(bB.val k).pd
  rw [ON] at q
  rw [<-q,<-l]
  exact h _<|I.tok _
def rK(I:Inv X pins σ H s)(h:pi (H a))(i:Heap.SameBut a s.heap c)(j:∃q,c.get? a=some q)(f:bX X.prog X.w (upd H a d) c a d):
  Inv X pins σ (upd H a d) {s with heap:=c,toks:=g}:=
 I.write (x:=a) (e:=a) h (.inl rfl) (λb q k z=>(i.2 b k).trans z) j f
def uh{d:Heap}{b:List (aK×V)}(z:b.length<=sizeLine)(f:(a==sysModules)=false)(bB:KV b c)(g:d.DictOf (du P w) a c):
  bX P w e d a (.dK b):=⟨z,f,c,bB,g⟩
def EN{Q:Unit->Shared->Prop}(T:A.units+1<cLine)(I:Inv X pins σ H s)(g:gt H a y v C)(G:RelV y u)(J:RelV v r)(h:∀L,Inv X pins σ C L->Q () L):
  wpAny (model X.prog X.w) A (setItem (.ref a) u r) Q E s:=by
 rcases g with ⟨d,k,e,j,l,m⟩|⟨d,k,b,e,j,M,l,m⟩
 .subst j m
  obtain ⟨z,n,U,bB,p⟩:=C2 I.az e
  have t:U.length<=sizeLine:=by rw [<-bB.length];exact z
  have x:(cg d k v).length<=sizeLine:=by have:=nk d k v;omega
  refine wpAny_setItem_pairs (hsz:=t) (kf G) p λN f B=>h _ ?_
  have Y:∃q,N.get? a=some q:=let ⟨q,_,_,i,_⟩:=f;⟨q,i⟩
  exact rK I (by rw [e];exact True.intro) B Y<|uh x n (bB.put k J) f
 .subst j m
  cases (show u=Value.ref b from G)
  obtain ⟨z,n,xs,bB,p⟩:=yg I.az e
  have t:xs.length<=sizeLine:=by rw [<-Nr bB];exact z
  have x:(cg d k v).length<=sizeLine:=by have:=nk d k v;omega
  refine wpAny_setItem_heap (hsz:=t) (Na T) (lz I.az M) p λN f B=>h _ ?_
  obtain ⟨q,es,ep,i,h2,h3,h4,_,h5⟩:=f
  refine rK I (by rw [e];exact True.intro) B ⟨q,i⟩ ⟨x,n,_,(bB.put k M J).keeps λc ys O=>?_,q,es,ep,i,h2,h3,h4,h5⟩
  rw [aA<|A7 O e λz=>nomatch z]
  exact O
end
section
variable {X:Cx}{pins:List (Addr×Obj)}{σ:St}{H:Hp}{s:Shared}{a:Addr}{kvs:List (aK×V)}{k:aK}{u:Value}{A:Around}{E:Value->Shared->Prop}
def Dl {Q:ZT}(I:Inv X pins σ H s)(e:Rd H a (.dK kvs))(h:∀t b,Inv X pins σ H b->Q (.int kvs.length t) b):wpAny (model X.prog X.w) A (call (.builtin "len") [.ref a]) Q E s:=by
 obtain ⟨z,c,f,bB,d⟩:=ic I.az e
 refine call_len_dict c d (by rw [<-bB.length];rw [PF] at z;omega) ?_
 rw [<-bB.length]
 exact h _ _<|I.tok _
end
def CF (i:Expr):Prop:=∀ov iv,subscripted i false ov iv=operate [ov,iv] (getItem ov iv)
def Gd{id:String}
  (q:typeLookup (.type T) "__getitem__"=pure (some (.builtin id))) (t:CF b)
  (h:wpAny (model a w) A (eval c j) (λo f=>wpAny (model a w) A (eval b j) (λi d=>d.TypeIs o T/\wpAny (model a w) A (getItem o i) Q E d) E f) E s):
  wpAny (model a w) A (eval (.Subscript c b n) j) Q E s:=by
 refine Subscript_<|M1 h (λo f l=>M1 l (λi d e=>?_) λ_ _ x=>x) λ_ _ x=>x
 obtain ⟨p,e⟩:=e
 unfold subscriptTail
 refine Lw ?_
 rw [getitemInPython_of_ne p.not_modules]
 refine Lw<|wpAny_specialOf p q ?_
 have k:wpAny (model a w) A (subscripted b false o i) (λr g=>wpAny (model a w) A (letTemporaryGo c o r>>=λ_=>pure r) Q E g) E d:=by
  rw [t o i]
  exact wpAny_operating<|M1 e (λr g m=>Lw<|wpAny_letTemporaryGo<|LN m) λ_ _ x=>x
 first
  |exact LN<|Lw k
  |exact Lw<|LN<|Lw k
  |exact Lw k
def HL(I:Inv X c h H s)(g:cR H a y o):s.TypeIs (.ref a) "dict":=by
 rcases g with ⟨d,k,e,_,_⟩|⟨d,k,b,e,_,_,_⟩
 .obtain ⟨_,_,i,_,f⟩:=ic I.az e
  exact f.typeIs
 .obtain ⟨_,_,j,_,f⟩:=kl I.az e
  exact f.typeIs
def rP (td ty:TE):TE:=λσ H Q=>td σ H λx H1=>ty σ H1 λy H2=>∃a v,x=.ref a/\cR H2 a y (some v)/\Q v H2
def pP (ty td:TE):TE:=λσ H Q=>ty σ H λy H1=>td σ H1 λx H2=>∃a o,x=.ref a/\cR H2 a y o/\Q (.bl o.isSome) H2
def nZ (ty td:TE):TE:=λσ H Q=>ty σ H λy H1=>td σ H1 λx H2=>∃a o,x=.ref a/\cR H2 a y o/\Q (.bl (!o.isSome)) H2
def tW (td ty tv:TE):TS:=λD σ H=>tv σ H λv H1=>td σ H1 λx H2=>ty σ H2 λy H3=>∃a H4,x=.ref a/\gt H3 a y v H4/\D.nx σ H4
section
variable {X:Cx}{o i e value:Expr}{pos pos' tpos:Pos}{td ty tv:TE}
def p8 (j:X.A.units+1<cLine)(k:PE X o td)(l:PE X i ty)(m:CF i):PE X (.Subscript o i pos) (rP td ty):=by
 intro b s d H Q I h
 refine Gd PySem.F.slot_dict_getitem.lookup m<|aS (k b s d H _ I h) λu n ⟨x,p,q,r,t⟩=>aS (l b n d p _ q t) λJ L w=>?_
 obtain ⟨y,z,f,B,a,v,C,g,E⟩:=w
 subst C
 obtain rfl:u=Value.ref a:=r
 exact ⟨HL f g,Jf j f g B λM N G c=>⟨v,z,G,c,E⟩⟩
def qc (d:X.A.units+1<cLine)(f:PE X i ty)(j:PE X o td):PC X .In i o (pP ty td):=by
 intro b s c H Q I h
 refine aS (f b s c H _ I h) λE k ⟨y,l,m,n,p⟩=>aS (j b k c l _ m p) λu G q=>?_
 obtain ⟨x,r,t,v,a,w,z,g,B⟩:=q
 subst z
 obtain rfl:u=Value.ref a:=v
 exact Iw d t g n λJ C=>⟨.bl w.isSome,r,C,rfl,B⟩
def pH (d:X.A.units+1<cLine)(f:PE X i ty)(j:PE X o td):PC X .NotIn i o (nZ ty td):=by
 intro b s c H Q I h
 refine aS (f b s c H _ I h) λE k ⟨y,l,m,n,p⟩=>aS (j b k c l _ m p) λu G q=>?_
 obtain ⟨x,r,t,v,a,w,z,g,B⟩:=q
 subst z
 obtain rfl:u=Value.ref a:=v
 exact Ig d t g n λJ C=>⟨.bl<|!w.isSome,r,C,rfl,B⟩
def kN (d:X.A.units+1<cLine)(f:PE X o td)(j:PE X i ty)(k:PE X value tv)(l:swapsWith value (some (.Subscript o i pos')) pos.line X.env=pure false):
  PS X (.Assign [.Subscript o i pos'] value pos) (tW td ty tv):=by
 intro b s c H D I h
 refine wpAny_Assign_Subscript (aS (k b s c H _ I h) λr m ⟨v,n,p,q,t⟩=>aS (f b m c n _ p t) λu w ⟨x,z,B,C,E⟩=>aS (j b w c z _ B E) λQ T ⟨y,U,G,J,a,L,M,g,N⟩=>?_) l
 subst M
 obtain rfl:u=Value.ref a:=C
 exact EN d G g J q λY O=>⟨c,L,O,N⟩
end
def Eo(h:Heap)(a:sysModules<h.objs.size):bX P w H (h.push {cls:=.type "dict",data:=.dict #[]}) h.objs.size (.dK []):=
 ⟨Mb _,ML.mpr<|MC<|Mf a,[],.nil,Heap.DictOf.new h⟩
def He(h:Heap)(a:sysModules<h.objs.size):bX P w H (h.push {cls:=.type "dict",data:=.dict #[]}) h.objs.size (.dT []):=
 ⟨Mb _,ML.mpr<|MC<|Mf a,[],.nil,_, #[],0,L0 _ rfl,⟨rfl,rfl,rfl⟩,rfl,rfl,NQ⟩
def Cm:TE:=λ_ H Q=>∀p,H p=none->Q (.ref p) (upd H p (.dK []))
def zb:TE:=λ_ H Q=>∀p,H p=none->Q (.ref p) (upd H p (.dT []))
section
variable {X:Cx}{pos:Pos}
def ux:PE X (.Dict [] [] pos) Cm:=λb s c H Q I h=>
 wpAny_Dict_empty ⟨.ref s.heap.objs.size,_,I.laid (a:=s.heap.objs.size) (o:=.dK []) (t':=s.toks) (λ_ _ q=>LC _ q) (LF _)<|Eo s.heap I.rM,rfl,h _<|I.az.fresh<|LF _⟩
def tQ:PE X (.Dict [] [] pos) zb:=λb s c H Q I h=>
 wpAny_Dict_empty ⟨.ref s.heap.objs.size,_,I.laid (a:=s.heap.objs.size) (o:=.dT []) (t':=s.toks) (λ_ _ q=>LC _ q) (LF _)<|He s.heap I.rM,rfl,h _<|I.az.fresh<|LF _⟩
end
def ci (kvs more:List (aK×V)):List (aK×V):=more.foldl (λacc kv=>cg acc kv.1 kv.2) kvs
def KV.merge:∀{a:List (aK×V)} {b:List (aK×Value)} {kvs:List (aK×V)} {vs:List (aK×Value)},KV a b->KV kvs vs->KV (ci kvs a) (merged vs b):=by
 intro a b kvs vs r
 unfold KV at r
 induction r generalizing kvs vs with
 |nil=>intro q;exact q
 |@cons p q f g h t c=>
  intro d
  have e:KV (cg kvs p.1 p.2) (stored vs q.1 q.2):=by
   have:=d.put p.1 h.2
   rw [<-h.1];exact this
  exact c e
theorem vw:∀(b a:List (aK×V)),(ci a b).length<=a.length+b.length
 |[],a=>by show a.length<=a.length+0;omega
 |p::r,a=>by
  have c:=vw r<|cg a p.1 p.2
  have d:=nk a p.1 p.2
  show (ci (cg a p.1 p.2) r).length<=_
  rw [Mq];omega
structure M2 (X:Cx)(o:Expr)(m:Str)(apos:Pos)(e f:Expr)(cpos:Pos):Prop where
 base:attributeBase o m X.env (eval o X.env)=eval o X.env
 dH:((backTo cpos (starEach [e,f] X.env)).all (fun x=> !x.1)&&(backToKw cpos (keywordEach [] X.env)).all (fun x=>x.1.isSome)
  &&decide (([e,f]:List Expr).length+([]:List Keyword).length+(if ([]:List Keyword).isEmpty then 0 else 1)<30))=true
 line:(apos.endLine==cpos.line)=true
 trees:backTo cpos (starEach [e,f] X.env)=[(false,eval e X.env),(false,eval f X.env)]
def rQ (H:Hp)(a:Addr):Prop:=(∃kvs,Rd H a (.dK kvs))\/∃kvs,Rd H a (.dT kvs)
def wq(I:Inv X f l H s)(d:rQ H a):
  s.TypeIs (.ref a) "dict"/\(∀b,Value.ref a=.ref b->∃c,s.heap.get? b=some c/\c.dict=none)/\(a==sysModules)=false:=by
 rcases d with ⟨h,e⟩|⟨h,e⟩
 .obtain ⟨_,i,m,_,g⟩:=ic I.az e
  refine ⟨g.typeIs,λb q=>?_,i⟩
  cases q
  obtain ⟨c,_,_,j,k,_⟩:=g
  exact ⟨c,j,k.2.1⟩
 .obtain ⟨_,i,n,_,g⟩:=kl I.az e
  refine ⟨g.typeIs,λb q=>?_,i⟩
  cases q
  obtain ⟨c,_,_,j,k,_⟩:=g
  exact ⟨c,j,k.2.1⟩
section
variable {X:Cx}{pins:List (Addr×Obj)}{σ:St}{H:Hp}{s:Shared}{a:Addr}{y d:V}{u r:Value}{o:Option V}{A:Around}{E:Value->Shared->Prop}
def GL {Q:ZT}(t:A.units+1<cLine)(I:Inv X pins σ H s)(g:cR H a y o)(m:RelV y u)(n:RelV d r)(h:∀p q,Inv X pins σ H q->RelV (o.getD d) p->Q p q):
  wpAny (model X.prog X.w) A (call (.builtin "dict.get") [.ref a,u,r]) Q E s:=by
 rcases g with ⟨f,k,e,i,l⟩|⟨f,k,b,e,i,v,l⟩
 .subst i
  obtain ⟨z,j,B,bB,c⟩:=ic I.az e
  refine N0 OQ c.typeIs P8 (P0 _ _ _) (meets_dict_get_default (du X.prog X.w) a (kf m) j r) ⟨_,c.mapOf,h _ _ (I.tok _) ?_⟩
  rw [l]
  exact (bB.val k).getD n
 .subst i
  cases (show u=Value.ref b from m)
  obtain ⟨z,j,x,bB,c⟩:=kl I.az e
  refine N0 OQ c.typeIs P8 (P0 _ _ _) (meetsH_dict_get_default (tupleKind<|du X.prog X.w) a b j r) ⟨Na t,k,x,lz I.az v,c,h _ _ (I.tok _) ?_⟩
  rw [l]
  exact (bB.val k).getD n
end
def pE (td ty tx:TE):TE:=λσ H Q=>td σ H λx H1=>∃a,x=.ref a/\rQ H1 a/\ty σ H1 λy H2=>tx σ H2 λz H3=>∃o,cR H3 a y o/\Q (o.getD z) H3
section
variable {X:Cx}{o e f:Expr}{apos cpos:Pos}{td ty tx:TE}
def ue (k:X.A.units+1<cLine)(l:PE X o td)(n:PE X e ty)(p:PE X f tx)(m:M2 X o "get" apos e f cpos):PE X (.Call (.Attribute o "get" apos) [e,f] [] cpos) (pE td ty tx):=by
 intro b s c H Q I h
 refine wpAny_Call_method m.base m.dH m.line OJ OQ PySem.F.type_dict_get<|aS (l b s c H _ I h) λu q r=>?_
 obtain ⟨x,t,j,v,a,w,d,B⟩:=r
 subst w
 obtain rfl:u=Value.ref a:=v
 obtain ⟨C,E,_⟩:=wq j d
 refine ⟨C,E,?_⟩
 rw [m.trees]
 refine No rfl (OZ (NZ (aS (n b q c t _ j B) λiv G ⟨y,J,L,M,N⟩=>
  NZ (aS (p b G c J _ L N) λfv s3 ⟨z,O,T,U,ov,g,Y⟩=>PH ?_))))
 exact GL k T g M U λw' s4 I4 i=>⟨_,O,I4,i,Y⟩
end
section
variable {X:Cx}{pins:List (Addr×Obj)}{σ:St}{H:Hp}{s:Shared}{a:Addr}{kvs:List (aK×V)}{A:Around}{E:Value->Shared->Prop}
end
section
variable {X:Cx}{pins:List (Addr×Obj)}{σ:St}{H:Hp}{s:Shared}{a:Addr}{y:V}{u:Value}{A:Around}{E:Value->Shared->Prop}
end
end L2
namespace zr
open PySem PySem.W PySem.Calls PyProof.Rows
def DQ:∀(c:List Int) (d:List Value),WellAll P h d (c.map WData.int)->IntsAre d c:=by
 intro c
 induction c with
 |nil=>
  intro d w
  rw [Oj] at w
  cases w
  exact .nil
 |cons n c e=>
  intro d w
  rw [Mu] at w
  cases w with
  |cons a b=>
   cases a
   exact .cons _ _<|e _ b
def Lj{l:OpenLaw}(s:l.most=some n)
  (e:l.row.toRowW.claim.pre args=true) (k:WellAll P h c args):
  ∃a o b,c=[Value.ref a]/\args=[WData.list (b.map WData.int)]/\h.get? a=some {cls:=.type "list",data:=.seq o.toArray}/\IntsAre o b/\b.length<=n:=by
 have m:WShape.hasAll [] args [.list .int]=true:=(pre_splitW e).1
 have p:l.pre.holds [] {args:=args}=true:=(pre_splitW e).2
 obtain ⟨d,r,rfl,t,u⟩:=hasAllW_cons m
 obtain rfl:=hasAllW_nil u
 obtain ⟨A,rfl,v⟩:=hasW_list t
 obtain ⟨b,rfl⟩:=items_int v
 have f:b.length<=n:=by
  unfold OpenLaw.pre at p
  have i:(WTm.not (.lt (.lit (.int (n:Int))) (.len (.arg 0)))).holds [] {args:=[.list<|b.map .int]}=true:=by
   have i:=(holds_andW p).1
   rw [s] at i
   exact i
  have j:=condW_of i<|w_not<|w_lt w_lit<|w_len_list<|w_arg rfl
  rw [LA] at j
  refine Mp λq=>?_
  have w:(n:Int)<((b.length:Nat):Int):=by omega
  first
   |(rw [LV w] at j;exact absurd j Z1)
   |(simp at j;omega)
 cases k with
 |cons x y=>
  cases y
  cases x with
  |list z g=>exact ⟨_,_,b,rfl,rfl,z,DQ b _ g,f⟩
def FJ (l:OpenLaw)(args:List WData):l.row.toRowW.claim.post args (.bool true) args=true:=
 postW_of (r:=l.row.toRowW) (X:=(true==true))
  (show WShape.has [] (.bool true) .bool=true by first|rfl|decide|simp [WShape.has,WShape.arms,WShape.armsAll])
  (show (WTm.eq .res (.lit (.bool true))).value [] {args:=args,res:=some (.bool true),after:=args}=some (.bool<|true==true) from w_eq_bool (w_res rfl) w_lit) rfl
def KI{l:OpenLaw}{H:World->Heap->Prop}{d:DefRec}
  (N:l.most=some n) (x:d.params.defaults=[])
  (call:∀(w:World) (e b:Shared) (s y:ZU) (j:Addr) (o:Obj) (z t g:Value) (a:Addr) (i:List Value) (u:List Int),
   Ground q c [] E w e s y b.heap->H w b.heap->
   b.heap.get? j=some o->o.data=.func (docDef d.name d.params d.body d.scope z t g)->b.heap.CodeRec t d.name->s d.name=some (.ref j)->
   b.heap.get? a=some {cls:=.type "list",data:=.seq i.toArray}->IntsAre i u->u.length<=n->b.gens= #[]->
   codeAny (model l.prog w) callerA (.call (.ref j) ⟨[.ref a],[]⟩) (λr v=>r=.ok (.ret (.bool true))/\OldK b.heap v.heap/\v.os=b.os/\AllBare v.gens) b):
  WalkO q c E H l.row.toRowW d [] (λf i=>PySem.call f i):=by
 intro w e b s y G Y j o z t g O kV Q T A I B U J L as k M ac C af
 obtain rfl:O=.none:=Dflts.none I x
 obtain rfl:kV=.none:=Dflts.noKw I
 obtain ⟨a,i,u,rfl,rfl,m,h,p⟩:=Lj N k C
 refine enter_call<|OK (call w e b s y j o z t g a i u G Y Q (fd_plain T) A B m h p U) λr v hq=>?_
 obtain ⟨rfl,h2,h3,h4⟩:=hq
 exact ⟨.inl ⟨.bool true,.bool true,[],rfl,λ_=>rfl,.bool true,FJ l _,λ_=>⟨List.Pairwise.nil,λ_ hm=>(nomatch hm)⟩⟩,h2,h3,h4⟩
section
variable {prog:Program}{w:World}{A:Around}{E:Value->Shared->Prop}{s:Shared}{K:Frag}
end
end zr
namespace L2
open PySem PySem.Spec PyProof.Rows
theorem yj:∀{a:List Value} {b:List Int},IntsAre a b->a9 (b.map V.int) a
 |_,_,.nil=>.nil
 |_,_,.cons n t h=>.cons ⟨t,rfl⟩<|yj h
def wN (H:Hp):Prop:=∀b,H b=none\/∃o xs,H b=some (.cO o (.lst xs))
def JW{K:W.Frag}{c:Shared}{p:List Value}
  (KX:K.In c.heap) (B:c.heap.Ns mainGlobals y) (g:c.heap.Ns builtinsNs Q) (U:∀x:Str,x≠"__name__"->Q x=bootBuiltins x) (C:c.heap.NoLimit) (hg:c.gens= #[])
  (O:c.heap.get? a=some {cls:=.type "list",data:=.seq p.toArray}) (hi:IntsAre p A) (hl:A.length<=sizeLine) (hr:cS k callerA)
  (F:∀base:Heap,K.In base->base.Ns mainGlobals y->bp P w K y base CX k T fd [x] sp) (t:∀(s:Shared) (u:Value),BindsTo s fd ⟨[u],[]⟩ [(x,u)])
  (Y:∀H:Hp,wN H->aP K H a (A.map V.int)->sp [.ref a] H (λv _=>v=.bl true) λ_ _ _=>False)
  (ac:∀H e i,CX [] H c (λ_ _ _=>False) e i->False):
  codeAny (model P w) callerA (.call (.ref T) ⟨[.ref a],[]⟩) (λr i=>r=.ok (.ret (.bool true))/\OldK c.heap i.heap/\i.os=c.os/\AllBare i.gens) c:=by
 have rv:=yj hi
 have E:=hi.length
 have l:∀H:Hp,wN H->aP K H a (A.map V.int)->cT P w H c.heap->(∀b,H b≠none->b=a)->(H a≠none->K.lookup a=none)->
   codeAny (model P w) callerA (.call (.ref T) ⟨[.ref a],[]⟩) (λr i=>r=.ok (.ret (.bool true))/\OldK c.heap i.heap/\i.os=c.os/\AllBare i.gens) c:=by
  intro H hO hS az hA hK
  have f:∀{b:Addr} {o:Obj},c.heap.get? b=some o->H b=none->(ka c.heap H).get? b=some o:=λe n=>JZ e n
  have af:∀{b:Addr} {o:Obj} {G:Array DictEntry} {I:Nat},c.heap.get? b=some o->o.data=.dict G I->H b=none:=λ{b o G I} e d=>by
   cases q:H b with
   |none=>rfl
   |some u=>
    have e':b=a:=hA b (by rw [q];simp)
    subst e'
    rw [O] at e;cases e
    have d':Data.seq p.toArray _=Data.dict G I:=d
    cases d'
  have j:∀{b:Addr} {m:ZU},c.heap.Ns b m->(ka c.heap H).Ns b m:=λ{b m} q0=>by obtain ⟨o,G,I,e,d,r⟩:=q0;exact ⟨o,G,I,f e<|af e d,d,r⟩
  have J:K.In (ka c.heap H):=λb o e=>f (KX b o e) (by
   cases q:H b with
   |none=>rfl
   |some u=>
    have e':b=a:=hA b (by rw [q];simp)
    subst e'
    rw [hK (by rw [q];simp)] at e;cases e)
  have hM:Mod K y (ka c.heap H):=⟨J,j B,⟨Q,j g,U⟩,let ⟨mc,h1,h2⟩:=C;⟨mc,j h1,h2⟩⟩
  have e0:mo P w K y (ka c.heap H) callerA [] c H:=⟨rfl,hM,λb o e=>Iu e,P6<|DC _ _,trivial,λb g=>absurd (show b∈([]:ZX) from g) Z8,az,.of_eq hg⟩
  refine OK ((F _ J<|j B).run callerA [] c H ⟨[.ref a],[]⟩ [.ref a] [.ref a] _ _ hr e0 (t c (.ref a)) (.cons rfl .nil)<|Y H hO hS) λr i h=>?_
  cases r with
  |error e=>exact (ac H e i h).elim
  |ok fl=>
   cases fl with
   |next=>exact False.elim h
   |brk=>exact False.elim h
   |cont=>exact False.elim h
   |ret u=>
    obtain ⟨v,H',os,L,un,M,r',q⟩:=h
    have q':v=.bl true:=q
    subst q'
    obtain rfl:u=Value.bool true:=r'
    refine ⟨rfl,OldK.of_keep λb o e=>?_,os,L⟩
    cases q:H b with
    |none=>exact un.keep b o e q (by intro z;exact absurd (show b∈([]:ZX) from z) Z8) Z8
    |some u=>
     rcases hO b with z|⟨ob,xs,z⟩
     .rw [q] at z;cases z
     .have z2:=un.ik b ob _ z
      obtain ⟨e1,_⟩:=az b _ z
      obtain ⟨e2,_⟩:=M b _ z2
      rw [e] at e1;cases e1
      exact e2
 cases hk:K.lookup a with
 |some o=>
  have e:=KX a o hk
  rw [O] at e
  cases e
  refine l (λ_=>none) (λ_=>.inl rfl) (.inr ⟨_,p.toArray,_,hk,rfl,rfl,rfl,by rw [LU,E];exact hl,by simpa using rv⟩) (λb u z=>by have N:(none:Option HO)=some u:=z;cases N) (λb z=>absurd rfl z) λz=>absurd rfl z
 |none=>
  refine l (λb=>if b=a then some (.cO {cls:=.type "list",data:=.seq p.toArray} (.lst<|A.map V.int)) else none) (λb=>?_) (.inl (.inr ⟨{cls:=.type "list",data:=.seq p.toArray},LJ rfl⟩)) (λb u z=>?_) (λb z=>?_) λ_=>hk
  .by_cases g:b=a
   .exact .inr ⟨_,_,LJ g⟩
   .exact .inl<|LG g
  .by_cases g:b=a
   .have N:=(LJ g).symm.trans z
    cases N
    subst g
    exact ⟨O,by rw [LA];exact hl,p,_,rv,O⟩
   .have N:=(LG g).symm.trans z
    cases N
  .by_cases g:b=a
   .exact g
   .exact absurd (LG g) z
end L2
namespace L2
open PySem PySem.Spec PyProof.Rows
def Kl{l:W.OpenLaw}{L:World->Heap->Prop}{d:DefRec}{K:Params->W.Frag}{CX:World->ia}{sp:World->Sp}
  (U:l.most=some n) (z:n<=sizeLine) (A:d.params.defaults=[]) (hr:cS k callerA)
  (hY:∀(w:World) (h:Heap),L w h->(K w.params).In h)
  (F:∀(w:World) (m:ZU) (t:Addr) (h:Heap),(K w.params).In h->h.Ns mainGlobals m->m d.name=some (.ref t)->
   ∃B:FuncData,(∀(s:Shared) (u:Value),BindsTo s B ⟨[u],[]⟩ [(x,u)])/\
    ∀base:Heap,(K w.params).In base->base.Ns mainGlobals m->bp l.prog w (K w.params) m base (CX w) k t B [x] (sp w))
  (C:∀(w:World) (H:Hp) (a:Addr) (y:List Int),y.length<=n->wN H->aP (K w.params) H a (y.map V.int)->sp w [.ref a] H (λv _=>v=.bl true) λ_ _ _=>False)
  (E:∀(w:World) (H:Hp) (s:Shared) (e:Value) (I:Shared),CX w [] H s (λ_ _ _=>False) e I->False):
  W.WalkO q i Q L l.row.toRowW d [] (λf M=>PySem.call f M):=by
 refine zr.KI U A λw N p m mb t o pm cd ac a M y G Y ho hd af J r j c hg=>?_
 have O:=hY w _ Y
 obtain ⟨B,hb,hF⟩:=F w m t _ O G.T.g J
 exact JW O G.T.g G.T.b G.T.builtins G.T.nolimit hg r j (L8 c z) hr hF hb (λH hO hS=>C w H a y c hO hS) λH e I=>E w H p e I
end L2
namespace L2
open PySem PySem.Spec PyProof.Rows
def dI (s:Stmt):Arguments:=match s with
 |.FunctionDef _ a _ _ _ _ _ _ _ _=>a
 |_=>{posonlyargs:=[],args:=[],vararg:=none,kwonlyargs:=[],kw_defaults:=[],kwarg:=none,defaults:=[]}
def dA (s:Stmt):List Stmt:=match s with
 |.FunctionDef _ _ b _ _ _ _ _ _ _=>b
 |_=>[]
def ba (s:Stmt):Scope:=match s with
 |.FunctionDef _ _ _ _ _ _ sc _ _ _=>sc
 |_=>{kind:=.function,names:=[],isGenerator:=false,isCoroutine:=false}
abbrev bz:ia:=λ_ _ _ _ _ _=>False
abbrev E0:XK:=λ_ _ _=>False
def rW:mq bz X E0:=λ_ _ _ _ _ _ _ h=>h.elim
structure aF (K:PySem.W.Frag)(x qual:Str)(st:Stmt)(f:Addr)(fd:FuncData):Prop where
 ex:∃(oc:Value) (od:Option Addr) (kV doc pm:Value) (an:Option Addr) (cdv ct:Value) (osl:Array (Option Value)),
  fd=PySem.W.fnOf x qual (dI st) (dA st) (ba st) .none kV doc pm an cdv ct/\K.lookup f=some ⟨oc,od,.func fd,osl⟩/\PySem.W.codeIn K cdv qual=true
 kp:PySem.W.keepIn K (.ref f)=true
section
variable {P:Program}{w:World}{K:PySem.W.Frag}{mg:Str->Option Value}{base:Heap}
def aF.ok{st:Stmt}{g:Sp}(F:aF K x b st f m)(S:bW N e (ba st))(i:∀vs H Q E,g vs H Q E->vs.length=e.length)
  (d:∀(c:Value) (A:Around) (a:List Env) (s:Shared) (H:Hp) (vs:List V) (Q:VK) (E:XK),cS k (A.deeper (envOfC b (ba st) s.heap.objs.size f c))->g vs H Q E->
   ∃t,gw (me bz P w K mg base N b (ba st) f c A a s H E).oX (dA st) t/\t {nx:=λ_ n=>Q .av n,rt:=Q} (start N vs) H):bp P w K mg base bz (k+1) f m e g:=by
 obtain ⟨v,y,kV,o,z,B,c,C,p,rfl,r,j⟩:=F.ex
 refine Fe r j S i λA a s H vs Q E u l=>?_
 obtain ⟨t,h,q⟩:=d c A a s H vs Q E u l
 exact ⟨t,h.oX,q⟩
def aF.binds{st:Stmt}{d:ZY}(F:aF K x a st f k)
  (h:∀(kV b e:Value) (g:Option Addr) (c i:Value) (j:List Value),j.length=d.length->bindArgs (W.fnOf x a (dI st) (dA st) (ba st) .none kV b e g c i) ⟨j,[]⟩=pure (d.zip j)):Binds K k d []:=by
 obtain ⟨n,o,kV,b,e,g,c,i,l,rfl,p,m⟩:=F.ex
 exact .all<|h kV b e g c i
def wm{st:Stmt}{kV:Value}(l:K.lookup f=some ⟨j,m,.func (W.fnOf x a (dI st) (dA st) (ba st) .none kV d h g b i),e⟩)
  (c:W.codeIn K b a=true) (k:W.keepIn K (.ref f)=true):aF K x a st f (W.fnOf x a (dI st) (dA st) (ba st) .none kV d h g b i):=⟨⟨j,m,kV,d,h,g,b,i,e,rfl,l,c⟩,k⟩
end
def fE(a:cS k A):A.units+1<cLine:=N3 (Nat.add_le_add_left (by decide:1<=64) _) a.units
def cy(h:n<=1000):n<sizeLine:=N3 h Z1
section
variable {X:Cx}
def pv(i:Nat)(c:X.N[i]?=some x:=by rfl)(d:pK X.env.scope x:=by first|exact Or.inl rfl|exact Or.inr (Or.inl rfl)|exact Or.inr (Or.inr rfl))(e:(x==("__debug__":Str))=false:=by decide)
  (b:(x==("__classdict__":Str))=false:=by decide):PE X (.Name x a) (aW i):=zX c d e b
end
def ab (H H':Hp):Prop:=∀b o,H b=some o->H' b=some o
def ab.refl (H:Hp):ab H H:=λ_ _ h=>h
def ab.trans(a:ab H d)(b:ab d e):ab H e:=λc o h=>b c o<|a c o h
section
variable {κ:Type} [DecidableEq κ]
end
end L2
namespace PySem
section
variable {env:Env}
def J0 (names:List (Str×NameKind)):∀(cs:List (Str×Addr)),(∀n,(n,NameKind.free)∈names->∃c,env.cells.lookup n=some c)->
  ∃cl,(forIn names cs (λ(x:Str×NameKind) (r:List (Str×Addr))=>if (x.2==NameKind.free)=true then (do let c<-cellOf env x.1;pure (ForInStep.yield ((x.1,c)::r))) else pure (ForInStep.yield r)):Sem (List (Str×Addr)))=pure cl/\
   (∀n c,cl.lookup n=some c->env.cells.lookup n=some c\/cs.lookup n=some c)/\(∀n,((n,NameKind.free)∈names\/∃c,cs.lookup n=some c)->∃c,cl.lookup n=some c):=by
 induction names with
 |nil=>intro cs _;exact ⟨cs,rfl,λn c h=>.inr h,λn h=>h.elim (λz=>nomatch z) id⟩
 |cons x r ih=>
  intro cs h
  obtain ⟨n,k⟩:=x
  have hr:∀n,(n,NameKind.free)∈r->∃c,env.cells.lookup n=some c:=λm hm=>h m (Lv _ hm)
  by_cases hk:k=.free
  .subst hk
   obtain ⟨c,hc⟩:=h n Lz
   obtain ⟨cl,e,h1,h2⟩:=ih ((n,c)::cs) hr
   refine ⟨cl,?_,λm d hd=>?_,λm hm=>?_⟩
   .rw [O7]
    simp only [OT,Ox]
    have q:cellOf env n=pure c:=by unfold cellOf;rw [hc]
    rw [q]
    exact e
   .rcases h1 m d hd with z|z
    .exact .inl z
    .rw [MR] at z
     by_cases hmn:m=n
     .subst hmn
      simp only [OT] at z
      exact .inl (hc.trans z)
     .have:(m==n)=false:=by simpa using hmn
      rw [this] at z
      exact .inr z
   .refine h2 m ?_
    rcases hm with z|⟨d,z⟩
    .rcases LK.mp z with z|z
     .obtain ⟨rfl,_⟩:=Qz z
      exact .inr ⟨c,by simp [MR]⟩
     .exact .inl z
    .right
     rw [MR]
     cases (m==n)
     .exact ⟨d,z⟩
     .exact ⟨c,rfl⟩
  .have hb:(k==NameKind.free)=false:=by simpa using hk
   obtain ⟨cl,e,h1,h2⟩:=ih cs hr
   refine ⟨cl,?_,h1,λm hm=>h2 m ?_⟩
   .rw [O7]
    simp only [hb,Pr,PY]
    exact e
   .rcases hm with z|z
    .rcases LK.mp z with z|z
     .exact absurd (Qz z).2.symm hk
     .exact .inl z
    .exact .inr z
def yH {scope:Scope}(h:∀n,(n,NameKind.free)∈scope.names->∃c,env.cells.lookup n=some c):
  ∃a,closureFor scope env=pure a/\(∀n c,a.lookup n=some c->env.cells.lookup n=some c)/\(∀n,(n,NameKind.free)∈scope.names->∃c,a.lookup n=some c):=by
 obtain ⟨a,e,b,d⟩:=J0 scope.names [] h
 refine ⟨a,?_,λn c f=>(b n c f).elim id λz=>(by simp at z),λn g=>d n (.inl g)⟩
 simp only [closureFor]
 have q:=MA (λt=>t>>=λr=>(pure r:Sem (List<|Str×Addr))) e
 exact q
end
section
variable {prog:Program}{w:World}{A:Around}{R:Result->Shared->Prop}{s:Shared}
def Hc {elt target iter:Expr}{ifs:List Expr}{scope:Scope}{pos:Pos}{it acc:Value}{env:Env}(I:Nat->Shared->Prop)
  (turn:∀n s,I n s->wpAny (model prog w) A (pyNext it) (λr s₁=>match r with
   |none=>R (.ok .next) s₁
   |some v=>wpAny (model prog w) A (letOwnedTupleGo target it v) (λ_ s₁'=>wpAny (model prog w) A (assign target env v) (λ_ s₂=>
     wpAny (model prog w) A (forIn ifs true λc r=>if r=true then do let ok<-isTrue c env (eval c env);pure (ForInStep.yield ok) else pure (ForInStep.yield r)) (λok s₃=>
      if ok=true then wpAny (model prog w) A (eval elt env) (λx s₄=>
       wpAny (model prog w) A (call (.builtin "list.append") [acc,x]) (λ_ s₅=>∃m,m<n/\I m s₅) (λ_ _=>False) s₄) (λ_ _=>False) s₃
      else∃m,m<n/\I m s₃) (λ_ _=>False) s₂) (λ_ _=>False) s₁') (λ_ _=>False) s₁) (λ_ _=>False) s)
  (n:Nat) (h:I n s):
  codeAny (model prog w) A (.compLoop (.ListComp elt [⟨target,iter,ifs,0⟩] scope pos) 0 it acc env) R s:=by
 refine codeAny_loop rfl I (λn s hI=>?_) n h
 show wpAny _ A ((compTurn (.ListComp elt [⟨target,iter,ifs,0⟩] scope pos) 0 it acc env).onRaise (λx=>do noteFrame x env;theTreesLotGoes x)) _ _ s
 refine wpAny_noted ?_
 rw [compTurn_list]
 refine Lw (PJ (Lw (M1 (turn n s hI) (λr s₁ h₁=>?_) λ_ _ h'=>h'.elim)))
 cases r with
 |none=>exact LN h₁
 |some v=>
  refine Lw (M1 h₁ (λ_ s₁' h₁'=>?_) λ_ _ h'=>h'.elim)
  refine Lw (M1 h₁' (λ_ s₂ h₂=>Lw (M1 h₂ (λok s₃ h₃=>?_) λ_ _ h'=>h'.elim)) λ_ _ h'=>h'.elim)
  cases ok with
  |false=>exact LN ⟨rfl,h₃⟩
  |true=>
   exact Lw (Lw (M1 h₃ (λx s₄ h₄=>Lw (M1 h₄ (λ_ s₅ h₅=>LN (LN ⟨rfl,h₅⟩)) λ_ _ h'=>h'.elim)) λ_ _ h'=>h'.elim))
end
end PySem
namespace L2
open PySem PySem.Spec PyProof.Rows
theorem mem_of_lookup:∀{l:List (Str×NameKind)} {x:Str} {k:NameKind},l.lookup x=some k->(x,k)∈l
 |[],_,_,h=>by simp at h
 |(n,j)::r,x,k,h=>by
  rw [MR] at h
  by_cases e:x=n
  .subst e
   simp only [OT] at h
   cases h
   exact Lz
  .have:(x==n)=false:=by simpa using e
   rw [this] at h
   exact Lv _<|mem_of_lookup h
theorem BW {a:Env}:∀{b:List (Str×NameKind)} {x:Str},b.lookup x=some .free->
  (b.map λ(n,k)=>if (k==NameKind.free&&a.scope.kind==.function&&a.kindOf n==some .cell) then (n,NameKind.cell) else (n,k)).lookup x=some .cell\/
  (b.map λ(n,k)=>if (k==NameKind.free&&a.scope.kind==.function&&a.kindOf n==some .cell) then (n,NameKind.cell) else (n,k)).lookup x=some .free
 |[],_,h=>by simp at h
 |(n,k)::r,x,h=>by
  have e:=@BW a r x
  show List.lookup x ((if (k==NameKind.free&&a.scope.kind==.function&&a.kindOf n==some .cell)=true then (n,NameKind.cell) else (n,k))::_)=_\/List.lookup x ((if (k==NameKind.free&&a.scope.kind==.function&&a.kindOf n==some .cell)=true then (n,NameKind.cell) else (n,k))::_)=_
  cases c:x==n with
  |true=>
   simp only [MR,c] at h
   cases h
   by_cases d:(NameKind.free==NameKind.free&&a.scope.kind==.function&&a.kindOf n==some .cell)=true
   .rw [LJ d];simp only [MR,c];exact .inl trivial
   .rw [LG d];simp only [MR,c];exact .inr trivial
  |false=>
   simp only [MR,c] at h
   by_cases d:(k==NameKind.free&&a.scope.kind==.function&&a.kindOf n==some .cell)=true
   .rw [LJ d];simp only [MR,c];exact e h
   .rw [LG d];simp only [MR,c];exact e h
def xT{a:Scope}(c:∀y∈a.names,y.2≠.cell)(i:k=.cell\/k=.free)(h:(relabel a b).names.lookup x=some k):(x,NameKind.free)∈a.names:=by
 obtain ⟨⟨n,j⟩,f,e⟩:=LS.mp<|mem_of_lookup h
 by_cases d:(j==NameKind.free&&b.scope.kind==.function&&b.kindOf n==some .cell)=true
 .have g:(n,NameKind.cell)=(x,k):=by simpa only [d,Ox] using e
  have l:j=.free:=by
   simp only [MD] at d
   exact OC.mp d.1.1
  subst l
  cases g
  exact f
 .have g:(n,j)=(x,k):=by
   have:=e
   simp only [d] at this
   exact this
  cases g
  rcases i with rfl|rfl
  .exact absurd rfl<|c _ f
  .exact f
section
variable {X:Cx}
def bD (X:Cx)(N':List Str)(scope:Scope)(cl:List (Str×Addr))(C:Addr)(fp:List Addr)(s:Shared)(H:Hp):Cx:=
 {X with N:=N',s₀:=s,H₀:=H,env:=compEnvC scope cl C X.env,outer:=X.stack,stack:=X.stack,ex:=fp,fn:=λ_=>false,pn:=[],xe:=λ_ _=>False}
def lU (X:Cx)(ifs:List Expr)(t:TT):Prop:=
 ∀(pins:List (Addr×Obj)) (s:Shared) (σ:St) (H:Hp) (Q:Bool->Hp->Prop),Inv X pins σ H s->t σ H Q->
  wpAny (model X.prog X.w) X.A (forIn ifs true λc r=>if r=true then do let ok<-isTrue c X.env (eval c X.env);pure (ForInStep.yield ok) else pure (ForInStep.yield r)) (TP X pins σ Q) X.xe s
def jD:TT:=λ_ H Q=>Q true H
def jw:lU X [] jD:=λ_ _ _ H _ I h=>wpAny_tests_nil ⟨H,I,h⟩
def iH(h:PT X c t):lU X [c] t:=λa s b H Q I d=>wpAny_tests_one<|h a s b H Q I d
def zp (J:It)(D:Addr)(τ₀:St)(g:TG)(tt:TT)(te:TE)(Q:VK)(H:Hp):Prop:=
 ∃W:Nat->Nat->St->Hp->Prop,(∃m,W 0 m τ₀ (upd H D (.lst [])))/\∀i m τ H,W i m τ H->
  (J.stop i H/\Q (.ref D) H)\/
  (J.go i H/\∃N:St->Hp->Prop,(∀τ' H',N τ' H'->∃m',m'<m/\W (i+1) m' τ' H')/\
   ∀x H',J.on i H x H'->g x τ H' λτ2 H2=>tt τ2 H2 λb H3=>if b=true then te τ2 H3 λv H4=>∃ys,H4 D=some (.lst ys)/\ys.length<sizeLine/\N τ2 (upd H4 D (.lst (ys++[v]))) else N τ2 H3)
def iP (wi:TI)(caps:St->St)(g:TG)(tt:TT)(te:TE):TE:=λσ H Q=>wi σ H λJ H1=>∀D,H1 D=none->zp J D (caps σ) g tt te Q H1
variable {tg iter elt:Expr}{ifs:List Expr}{scope:Scope}{pos:Pos}{N':List Str}{caps:St->St}{wi:TI}{g:TG}{tt:TT}{te:TE}
def Bt {pins:ZV}{σ:St}{H2:Hp}{s2:Shared}{J:It}{fp:ZX}{it:Addr}{tn:Nat->Heap->Prop}{cl:List (Str×Addr)}{Q:VK}{RR:Value->Addr->Result->Shared->Prop}
  (hc:X.calm=true) (hkind:scope.kind=.function) (hcell:∀y∈scope.names,y.2≠.cell)
  (hcap:∀σ:St,σ.length=X.N.length->(caps σ).length=N'.length/\∀(i:Nat) (x:Str) (v:V),N'[i]?=some x->(caps σ)[i]?=some (some v)->scope.names.lookup x=some .free/\∃j:Nat,X.N[j]?=some x/\σ[j]?=some (some v))
  (hfree:∀n,(n,NameKind.free)∈scope.names->X.env.kindOf n=some .cell\/X.env.kindOf n=some .free)
  (hcl1:∀n c,cl.lookup n=some c->X.env.cells.lookup n=some c) (hcl2:∀n,(n,NameKind.free)∈scope.names->∃c,cl.lookup n=some c)
  (hg:∀C s H,PG (bD X N' scope cl C fp s H) tg g) (hts:∀C s H,lU (bD X N' scope cl C fp s H) ifs tt) (hel:∀C s H,PE (bD X N' scope cl C fp s H) elt te)
  (I2:Inv X pins σ H2 s2) (T:jd X.prog X.w X.K tg J fp it tn) (st2:tn 0 s2.heap) (f2:∀b∈fp,iE X pins H2 b)
  (k2:∀D,H2 D=none->zp J D (caps σ) g tt te Q H2)
  (hRR:∀D C s' H' m,Inv X pins σ H' s'->s'.heap.Ns C m->s2.heap.objs.size<=C->H' C=none->Q (.ref D) H'->RR (.ref D) C (.ok .next) s'):
  wpAny (model X.prog X.w) X.A (newList []) (λacc s₃=>wpAny (model X.prog X.w) X.A (newFunctionEnv scope X.env.globals cl [] X.env.qual none .none (some X.env)) (λcenv s₄=>
   codeAny (model X.prog X.w) X.A (.compStart (.ListComp elt [⟨tg,iter,ifs,0⟩] scope pos) 0 (.ref it) acc {cenv with scope:=relabel scope X.env}) (RR acc cenv.locals) s₄) X.xe s₃) X.xe s2:=by
 refine M6 (wpAny_newFunctionEnv hcell (by intro y hy;simp at hy) (λh₁ hns₁ hsb₁=>?_) hkind)
 dsimp only at hns₁ hsb₁⊢
 generalize hH2:s2.heap.push {cls:=.type "list",dict:=none,data:=.seq ([]:List Value).toArray}=HH at hns₁ hsb₁⊢
 have hC:HH.objs.size=s2.heap.objs.size+1:=by rw [<-hH2,MW]
 have hDC:s2.heap.objs.size≠HH.objs.size:=by rw [hC];exact Mf (Nu _)
 have hCle:s2.heap.objs.size<=HH.objs.size:=by rw [hC];exact Qy _
 have below:∀b,b<s2.heap.objs.size->b≠HH.objs.size/\b≠s2.heap.objs.size:=λb hb=>⟨by rw [hC];exact Mf (ND hb),Mf hb⟩
 have old:∀b o,s2.heap.get? b=some o->h₁.get? b=some o:=λb o e=>hsb₁.extBut b o (below b (L1 e)).1 (LC _ (hH2▸LC _ e))
 have hacc:h₁.get? s2.heap.objs.size=some {cls:=.type "list",data:=.seq ([]:List Value).toArray 0}:=hsb₁.extBut _ _ hDC (LC _ (hH2▸L0 _ rfl))
 have hDn:H2 s2.heap.objs.size=none:=I2.az.fresh (LF _)
 have hCn:H2 HH.objs.size=none:=I2.az.fresh hCle
 have fpC:iE X pins H2 HH.objs.size:=I2.hZ hCle hCn
 have fplt:∀b∈fp,b<s2.heap.objs.size:=λb hb=>by
  obtain ⟨o,e,_⟩:=T.obj 0 _ st2 b hb
  exact L1 e
 have nstk:∀b∈fp,b∉hU X.stack:=λb hb z=>by
  obtain ⟨_,f1,f2',_⟩:=f2 b hb
  rcases LK.mp (I2.vM b z) with e|e
  .exact f1 e
  .exact f2' e
 obtain ⟨W,⟨m0,w0⟩,turn⟩:=k2 s2.heap.objs.size hDn
 have capok:=hcap σ I2.len
 have ok:(bD X N' scope cl HH.objs.size fp s2 H2).Ok:=
  {mod:=I2.ok.mod
   kind:=hkind
   glob:=I2.ok.glob
   blt:=I2.ok.blt
   above:=hCle
   inj:=λx y c a b=>I2.ok.inj x y c (hcl1 x c a) (hcl1 y c b)
   has:=λx h=>hcl2 x (by
    rcases h with h|h
    .exact xT hcell (.inl rfl) h
    .exact xT hcell (.inr rfl) h)
   oA:=λx c h=>(nomatch h)
   hd:=I2.ok.hd
   frames:=I2.ok.frames
   pb:=.inl rfl
   wA:=λb hb=>⟨(below b (fplt b hb)).1,λx c e=>(f2 b hb).2.2.2.2.1 x c (hcl1 x c e)⟩
   bs:=I2.bs
   kC:=L8 I2.ok.kC I2.sz
   ng:=λb o e hb=>by
    rcases (f2 b hb).2.2.2.1 with z|z
    .exact I2.ok.ng b o e z
    .exact absurd (Mo (L1 (I2.ok.bs b o e).1) z) (MV _)
   oI:=nstk
   gN:=I2.stack
   lj:=I2.AU}
 have I4:Inv (bD X N' scope cl HH.objs.size fp s2 H2) [] (caps σ) (upd H2 s2.heap.objs.size (.lst [])) {s2 with heap:=h₁,toks:=s2.toks+([]:List (Str×Value)).length}:=by
  refine ⟨ok,rfl,I2.bare,Un.laid old (LF _) hDn,⟨_,hns₁,λi x v e1 e2 e3=>?_⟩,λx c e=>?_,?_,λx c e=>?_,(λp hp=>(nomatch hp)),?_,capok.1⟩
  .obtain ⟨lf,j,e4,e5⟩:=capok.2 i x v e1 e2
   have kx:=hfree x (mem_of_lookup lf)
   have vis:pK X.env.scope x:=by rcases kx with k|k;exact .inr (.inl k);exact .inr (.inr k)
   obtain ⟨m,hn,hl⟩:=I2.loc
   obtain ⟨u,r,l⟩:=hl j x v e4 e5 vis
   refine ⟨u,r,.inr ⟨BW lf,?_⟩⟩
   obtain ⟨c,hcx⟩:=hcl2 x (mem_of_lookup lf)
   have hcx':=hcl1 x c hcx
   refine ⟨c,hcx,?_⟩
   rcases l with ⟨k,_⟩|⟨_,c',ec,⟨o,ho,hd⟩⟩
   .rcases kx with k'|k'<;>(rw [k] at k';cases k')
   .rw [hcx'] at ec;cases ec
    exact ⟨o,old _ o ho,hd⟩
  .obtain ⟨v,o,ho,hd⟩:=I2.cell x c (hcl1 x c e)
   exact ⟨v,o,old _ o ho,hd⟩
  .show upd H2 s2.heap.objs.size (.lst []) HH.objs.size=none
   rw [aA (MC hDC)];exact hCn
  .obtain ⟨v,o,ho,hd⟩:=I2.cell x c (hcl1 x c e)
   rw [aA (Mf (L1 ho))]
   exact I2.gT x c (hcl1 x c e)
  .exact I2.az.laid old (LF _) ⟨Mb _,[],0,.nil,hacc⟩
 have st4:tn 0 h₁:=T.keep _ _ _ st2 λb _ o e=>old b o e
 have stat:∀{H':Hp},(∀b∈fp,H' b=none)->∀b∈fp,iE (bD X N' scope cl HH.objs.size fp s2 H2) [] H' b:=λhn b hb=>
  ⟨hn b hb,(below b (fplt b hb)).1,nstk b hb,.inl hb,λx c e=>(f2 b hb).2.2.2.2.1 x c (hcl1 x c e),(λp hp=>(nomatch hp))⟩
 have loop:∀s₃:Shared,s₃={s2 with heap:=h₁,toks:=s2.toks+([]:List (Str×Value)).length}->
   codeAny (model X.prog X.w) X.A (.compLoop (.ListComp elt [⟨tg,iter,ifs,0⟩] scope pos) 0 (.ref it) (.ref s2.heap.objs.size) (compEnvC scope cl HH.objs.size X.env)) (RR (.ref s2.heap.objs.size) HH.objs.size) s₃:=by
  rintro s₃ rfl
  refine Hc (λn s'=>∃i τ H',Inv (bD X N' scope cl HH.objs.size fp s2 H2) [] τ H' s'/\tn i s'.heap/\(∀b∈fp,H' b=none)/\W i n τ H') ?_ m0
   ⟨0,caps σ,_,I4,st4,λb hb=>by rw [aA (below b (fplt b hb)).2];exact (f2 b hb).1,w0⟩
  rintro n s5 ⟨i,τ,H5,I5,st5,fr5,w5⟩
  rcases turn i n τ H5 w5 with ⟨stop,q⟩|⟨go,N,hN,step⟩
  .refine aS (T.done (bD X N' scope cl HH.objs.size fp s2 H2) rfl rfl rfl hc i [] s5 τ H5 (λ_ _=>False) I5 (stat fr5) st5 stop) λr s6 q0=>?_
   obtain ⟨hr,I6⟩:=q0
   subst hr
   obtain ⟨m,hn,_⟩:=I6.loc
   refine hRR _ _ s6 H5 m (I2.Hm (ch:=fp) I6.os I6.base I6.az I6.bare λb hb=>⟨(f2 b hb).2.2.2.1,(f2 b hb).2.1,(f2 b hb).2.2.2.2.1,(f2 b hb).2.2.2.2.2⟩) hn hCle I6.free q
  .refine aS (T.item (bD X N' scope cl HH.objs.size fp s2 H2) rfl rfl rfl hc i [] s5 τ H5 (λ_ _=>False) I5 (stat fr5) st5 go) λr s6 q1=>?_
   obtain ⟨u,hr,h6⟩:=q1
   subst hr
   refine aS h6 λ_ s7 q2=>?_
   obtain ⟨x,H7,I7,r7,y7,st7,fr7⟩:=q2
   have I7':=I7.pinned (stat fr7) (T.obj _ _ st7)
   have again:∀{τ':St} {H':Hp} {s':Shared},Inv (bD X N' scope cl HH.objs.size fp s2 H2) ([]++pS fp s7.heap) τ' H' s'->N τ' H'->
     ∃m,m<n/\∃i τ H',Inv (bD X N' scope cl HH.objs.size fp s2 H2) [] τ H' s'/\tn i s'.heap/\(∀b∈fp,H' b=none)/\W i m τ H':=λ{τ' H' s'} I' n'=>by
    obtain ⟨m',hm,w'⟩:=hN τ' H' n'
    refine ⟨m',hm,i+1,τ',H',I'.t9,T.keep _ _ _ st7 λb hb o e=>(I'.pin (b,o) (LH _ (LH _ (um hb e)))).1,λb hb=>?_,w'⟩
    obtain ⟨o,e,d⟩:=T.obj _ _ st7 b hb
    exact (I'.pin (b,o) (LH _ (LH _ (um hb e)))).2.1
   refine aS (hg HH.objs.size s2 H2 _ s7 τ H7 x u _ I7' r7 (step x H7 y7)) λ_ s8 q3=>?_
   obtain ⟨τ8,H8,I8,q8⟩:=q3
   refine aS (hts HH.objs.size s2 H2 _ s8 τ8 H8 _ I8 q8) λokk s9 q4=>?_
   obtain ⟨H9,I9,q9⟩:=q4
   cases okk with
   |false=>
    rw [LG LI] at q9⊢
    exact again I9 q9
   |true=>
    rw [LJ rfl] at q9⊢
    refine aS (hel HH.objs.size s2 H2 _ s9 τ8 H9 _ I9 q9) λy s10 q5=>?_
    obtain ⟨v,H10,I10,r10,ys,hD,hz,n10⟩:=q5
    refine aS (yF (X:=bD X N' scope cl HH.objs.size fp s2 H2) _ s10 τ8 H10 (.ref s2.heap.objs.size) [v] (.ref s2.heap.objs.size) [y] (λ_ H'=>N τ8 H') I10 rfl (.cons r10 .nil) ⟨_,ys,v,rfl,rfl,hD,hz,n10⟩) λ_ s11 q6=>?_
    obtain ⟨_,H11,I11,_,n11⟩:=q6
    exact again I11 n11
 exact codeAny_compStart_list (loop _ rfl) (T.self X.A 0 _ _ _ st4 (loop _ rfl))
def ET (hc:X.calm=true)(a:scope.kind=.function)(p:∀y∈scope.names,y.2≠.cell)(d:∀y∈scope.names,y.2=.local->scope.names.lookup y.1=some .local)
  (c:∀n,(n,NameKind.free)∈scope.names->X.env.kindOf n=some .cell\/X.env.kindOf n=some .free)
  (u:∀r:St,r.length=X.N.length->(caps r).length=N'.length/\∀(i:Nat) (x:Str) (v:V),N'[i]?=some x->(caps r)[i]?=some (some v)->scope.names.lookup x=some .free/\∃j:Nat,X.N[j]?=some x/\r[j]?=some (some v))
  (hi:PI X tg iter wi) (hg:∀f C k s H,PG (bD X N' scope f C k s H) tg g) (E:∀f C k s H,lU (bD X N' scope f C k s H) ifs tt) (G:∀f C k s H,PE (bD X N' scope f C k s H) elt te)
  (hs:∀x,foldedSetIterable iter X.env x=pure x:=by intro _;rfl):PE X (.ListComp elt [⟨tg,iter,ifs,0⟩] scope pos) (iP wi caps g tt te):=by
 intro l s r H Q I h
 rw [eval_ListComp]
 obtain ⟨f,t,z,B⟩:=yH (env:=X.env) (scope:=scope) λn L=>I.ok.has n<|c n L
 refine wpAny_comprehension_free (use:=none) rfl hs t a d<|aS (hi l s r H _ I h) λv s1 h1=>aS h1 λac s2 h2=>?_
 obtain ⟨it,k,tn,J,H2,rfl,Y,T,M,f2,k2⟩:=h2
 refine Bt (RR:=λO C=>compPost (model X.prog X.w) X.A X.xe none (EP X l r Q) O C) hc a p u c z B (λC s H=>hg f C k s H) (λC s H=>E f C k s H) (λC s H=>G f C k s H) Y T M f2 k2 ?_
 intro D C s' H' m I' L U hC q
 obtain ⟨f0,f1,af,f3,f4,f5⟩:=Y.hZ U hC
 exact ⟨m,L,λh' sb=>⟨.ref D,H',I'.turned (t':=s'.toks) (λb o hb e=>(sb.2 b hb).trans e) f0 f1 f3 f4 f5,rfl,q⟩⟩
def HN{r:Pos}{i:Nat}(O:swapsWith (.ListComp elt [⟨tg,iter,ifs,0⟩] scope pos) (some (.Name y z)) r.line X.env=pure true)
  (hN:X.N.Nodup) (U:X.N[i]?=some y) (hy:Loc X.env.scope y)
  (hc:X.calm=true) (c:scope.kind=.function) (t:∀y∈scope.names,y.2≠.cell) (k:∀y∈scope.names,y.2=.local->scope.names.lookup y.1=some .local)
  (d:∀n,(n,NameKind.free)∈scope.names->X.env.kindOf n=some .cell\/X.env.kindOf n=some .free)
  (G:∀B:St,B.length=X.N.length->(caps B).length=N'.length/\∀(i:Nat) (x:Str) (v:V),N'[i]?=some x->(caps B)[i]?=some (some v)->scope.names.lookup x=some .free/\∃j:Nat,X.N[j]?=some x/\B[j]?=some (some v))
  (hi:PI X tg iter wi) (hg:∀l C p s H,PG (bD X N' scope l C p s H) tg g) (Y:∀l C p s H,lU (bD X N' scope l C p s H) ifs tt) (ac:∀l C p s H,PE (bD X N' scope l C p s H) elt te)
  (hs:∀x,foldedSetIterable iter X.env x=pure x:=by intro _;rfl) (hf:X.fn y=true\/X.env.scope.names.lookup y=some .local:=by first|exact .inl rfl|exact .inr rfl|assumption):
  PS X (.Assign [.Name y z] (.ListComp elt [⟨tg,iter,ifs,0⟩] scope pos) r) (eY (iP wi caps g tt te) (cv i)):=by
 intro f s B H D I h
 rw [exec_Assign_Name_used _ _ _ _ O]
 refine Lw<|PJ<|Lw ?_
 obtain ⟨l,u,L,M⟩:=yH (env:=X.env) (scope:=scope) λn hn=>I.ok.has n<|d n hn
 show wpAny _ X.A (do let _<-comprehension (.ListComp elt [⟨tg,iter,ifs,0⟩] scope pos) scope X.env _ (newList []) false (eval iter X.env) (some<|assign (.Name y z) X.env)) _ _ s
 refine Lw (M1 (wpAny_comprehension_free (use:=some<|assign (.Name y z) X.env) (Q:=λ_ s'=>SP X f D .next s') rfl hs u c k
  (aS (hi f s B H _ I h) λv s1 h1=>aS h1 λa1 s2 h2=>?_)) (λ_ s' hq=>LN<|LN hq) λ_ _ e=>e)
 obtain ⟨it,p,tn,J,H2,rfl,I2,T,af,f2,k2⟩:=h2
 refine Bt (RR:=λaj C=>compPost (model X.prog X.w) X.A X.xe (some<|assign (.Name y z) X.env) (λ_ s'=>SP X f D .next s') aj C) hc c t G d L M (λC s H=>hg l C p s H) (λC s H=>Y l C p s H) (λC s H=>ac l C p s H) I2 T af f2 k2 ?_
 intro E C s' H' m I' hn am hC q
 obtain ⟨f0,f1,a2,f3,f4,f5⟩:=I2.hZ am hC
 show wpAny _ X.A (assign (.Name y z) X.env (.ref E)) _ _ _
 refine wpAny_assign_Name<|zm I' hN U hy (v:=.ref E) rfl (λan ao ⟨a,sb,ha⟩=>?_) hf
 have as:C≠a:=by
  rcases ha with rfl|ha
  .exact f1
  .exact MC<|f4 y a ha
 exact ⟨m,hn.sameBut sb as,λh' a0=>⟨_,H',ao.turned (t':=an.toks) (λb o hb e=>(a0.2 b hb).trans e) f0 f1 f3 f4 f5,q⟩⟩
end
end L2
namespace FL
open PySem L2
inductive D where
 |av|bl (b:Bool)|int (i:Int)|str (x:Str)|tup (l:List D)|lst (l:List D)
abbrev ZW:=List (List D)
abbrev ZZ:=List D
mutual
def D.beq:D->D->Bool
 |.av,.av=>true
 |.bl a,.bl b=>a==b
 |.int a,.int b=>a==b
 |.str a,.str b=>decide (a=b)
 |.tup a,.tup b=>D.nV a b
 |.lst a,.lst b=>D.nV a b
 |_,_=>false
def D.nV:List D->List D->Bool
 |[],[]=>true
 |a::r,b::t=>D.beq a b&&D.nV r t
 |_,_=>false
end
mutual
theorem D.beq_iff:∀a b:D,D.beq a b=true↔a=b
 |.av,b=>by cases b<;>simp [D.beq]
 |.bl a,b=>by cases b<;>simp [D.beq]
 |.int a,b=>by cases b<;>simp [D.beq]
 |.str a,b=>by cases b<;>simp [D.beq]
 |.tup a,b=>by cases b<;>simp [D.beq,D.vp a]
 |.lst a,b=>by cases b<;>simp [D.beq,D.vp a]
theorem D.vp:∀a b:List D,D.nV a b=true↔a=b
 |[],b=>by cases b<;>simp [D.nV]
 |a::r,b=>by cases b<;>simp [D.nV,D.beq_iff a,D.vp r]
end
instance:DecidableEq D:=fun a b=>decidable_of_iff _ (D.beq_iff a b)
mutual
inductive al (H:Hp):V->D->Prop
 |av:al H .av .av
 |bl (b:Bool):al H (.bl b) (.bl b)
 |int (i:Int):al H (.int i) (.int i)
 |str (x:Str):al H (.str x) (.str x)
 |tup {a:Addr} {vs:List V} {l:List D}:H a=some (.tup vs)->aC H vs l->al H (.ref a) (.tup l)
 |lst {a:Addr} {vs:List V} {l:List D}:H a=some (.lst vs)->aC H vs l->al H (.ref a) (.lst l)
inductive aC (H:Hp):List V->List D->Prop
 |nil:aC H [] []
 |cons {v:V} {d:D} {vs:List V} {ds:List D}:al H v d->aC H vs ds->aC H (v::vs) (d::ds)
end
mutual
theorem al.mono {H H':Hp}(e:ab H H'):∀{v:V} {d:D},al H v d->al H' v d
 |_,_,.av=>.av
 |_,_,.bl b=>.bl b
 |_,_,.int b=>.int b
 |_,_,.str b=>.str b
 |_,_,.tup h r=>.tup (e _ _ h) (aC.mono e r)
 |_,_,.lst h r=>.lst (e _ _ h) (aC.mono e r)
theorem aC.mono {H H':Hp}(e:ab H H'):∀{v:List V} {d:List D},aC H v d->aC H' v d
 |_,_,.nil=>.nil
 |_,_,.cons h r=>.cons (al.mono e h) (aC.mono e r)
end
theorem aC.length:∀{a:List V} {b:ZZ},aC H a b->a.length=b.length
 |_,_,.nil=>rfl
 |_,_,.cons _ r=>MA (· +1) r.length
theorem aC.get:∀{a:List V} {b:ZZ} {i:Nat} {d:D},aC H a b->b[i]?=some d->∃v,a[i]?=some v/\al H v d
 |_,_,_,_,.nil,e=>by simp at e
 |_,_,0,_,.cons h _,e=>by simp at e;subst e;exact ⟨_,rfl,h⟩
 |_,_,i+1,d,.cons _ r,e=>by
  obtain ⟨v,c,f⟩:=aC.get (i:=i) (d:=d) r (by simpa using e)
  exact ⟨v,by simpa using c,f⟩
theorem aC.iw:∀{a:List V} {b:ZZ} {i:Nat} {v:V},aC H a b->a[i]?=some v->∃d,b[i]?=some d/\al H v d
 |_,_,_,_,.nil,e=>by simp at e
 |_,_,0,_,.cons h _,e=>by simp at e;subst e;exact ⟨_,rfl,h⟩
 |_,_,i+1,d,.cons _ r,e=>by
  obtain ⟨v,c,f⟩:=aC.iw (i:=i) (v:=d) r (by simpa using e)
  exact ⟨v,by simpa using c,f⟩
theorem aC.append:∀{a b:List V} {c d:ZZ},aC H a c->aC H b d->aC H (a++b) (c++d)
 |_,_,_,_,.nil,s=>s
 |_,_,_,_,.cons h r,s=>.cons h<|r.append s
def aC.snoc(r:aC H a b)(h:al H v d):aC H (a++[v]) (b++[d]):=r.append (.cons h .nil)
theorem aC.take:∀{a:List V} {b:ZZ} (n:Nat),aC H a b->aC H (a.take n) (b.take n)
 |_,_,0,_=>.nil
 |_,_,_+1,.nil=>.nil
 |_,_,n+1,.cons h r=>.cons h<|r.take n
theorem aC.drop:∀{a:List V} {b:ZZ} (n:Nat),aC H a b->aC H (a.drop n) (b.drop n)
 |_,_,0,r=>r
 |_,_,_+1,.nil=>.nil
 |_,_,n+1,.cons _ r=>r.drop n
theorem aC.ints:∀a:List Int,aC H (a.map V.int) (a.map D.int)
 |[]=>.nil
 |n::r=>.cons (.int n)<|aC.ints r
def al.eC(h:al H v (.int i)):v=.int i:=by cases h;rfl
def al.vP(h:al H v (.str x)):v=.str x:=by cases h;rfl
def al.jA(h:al H v (.bl b)):v=.bl b:=by cases h;rfl
def al.fe(h:al H v (.tup l)):∃a b,v=.ref a/\H a=some (.tup b)/\aC H b l:=by cases h with|tup h r=>exact ⟨_,_,rfl,h,r⟩
def al.d7(h:al H v (.lst l)):∃a b,v=.ref a/\H a=some (.lst b)/\aC H b l:=by cases h with|lst h r=>exact ⟨_,_,rfl,h,r⟩
mutual
theorem al.inj {H:Hp}:∀{v:V} {d e:D},al H v d->al H v e->d=e
 |_,_,_,.av,h=>by cases h;rfl
 |_,_,_,.bl _,h=>by cases h;rfl
 |_,_,_,.int _,h=>by cases h;rfl
 |_,_,_,.str _,h=>by cases h;rfl
 |_,_,_,.tup h r,q=>by
  cases q with
  |tup h' r'=>rw [h] at h';cases h';rw [aC.inj r r']
  |lst h' r'=>rw [h] at h';cases h'
 |_,_,_,.lst h r,q=>by
  cases q with
  |lst h' r'=>rw [h] at h';cases h';rw [aC.inj r r']
  |tup h' r'=>rw [h] at h';cases h'
theorem aC.inj {H:Hp}:∀{v:List V} {d e:List D},aC H v d->aC H v e->d=e
 |_,_,_,.nil,h=>by cases h;rfl
 |_,_,_,.cons h r,q=>by cases q with|cons h' r'=>rw [al.inj h h',aC.inj r r']
end
def but (H:Hp)(M:List Addr):Hp:=λb=>if b∈M then none else H b
def Ft (H:Hp):but H []=H:=by funext b;simp [but]
def bh{M:ZX}(h:b∉M):but H M b=H b:=by simp [but,h]
def ax(h:but H M b=some o):b∉M/\H b=some o:=by
 unfold but at h
 split at h
 .cases h
 .exact ⟨‹_›,h⟩
def tm (H:Hp)(M:ZX):ab (but H M) H:=λb o h=>(ax h).2
theorem _root_.L2.ab.but(e:ab H a)(M:ZX):ab (but H M) (but a M):=λb o h=>by
 obtain ⟨c,d⟩:=ax h
 rw [bh c];exact e b o d
def dD {H:Hp}{M:ZX}{a:Addr}{o:HO}(h:a∈M):but (upd H a o) M=but H M:=by
 funext b
 unfold FL.but
 by_cases hb:b∈M
 .rw [LJ hb,LJ hb]
 .rw [LG hb,LG hb,aA (λe:b=a=>hb (by rw [e];exact h))]
def xK {H:Hp}{M:ZX}{a:Addr}{o:HO}(h:a∉M):but (upd H a o) M=upd (but H M) a o:=by
 funext b
 by_cases hb:b∈M
 .rw [aA (λe:b=a=>h (by rw [<-e];exact hb))]
  simp [FL.but,hb]
 .rw [bh hb]
  by_cases e:b=a
  .subst e;rw [aR,aR]
  .rw [aA e,aA e,bh hb]
def dU{M M':ZX}(h:∀a∈M,a∈M'):ab (but H M') (but H M):=λb o e=>by
 obtain ⟨c,d⟩:=ax e
 rw [bh λz=>c<|h b z];exact d
def dr{H:Hp}(h:H p=none)(o:HO):ab H (upd H p o):=λb u q=>by rw [aA<|da q h];exact q
def ap (M:List Addr)(H:Hp):Prop:=∀a∈M,H a≠none
def ap.nil:ap [] H:=λ_ h=>nomatch h
def ap.same(l:ap M H)(e:ab H b):ap M b:=λa c z=>by
 cases q:H a with
 |none=>exact l a c q
 |some o=>rw [e a o q] at z;cases z
def ap.cons {M:ZX}{H:Hp}{a:Addr}{o:HO}(l:ap M H)(h:H a=some o):ap (a::M) H:=λb c=>by
 rcases LK.mp c with e|e
 .rw [e,h];exact λz=>nomatch z
 .exact l b e
def ap.fresh(l:ap M H)(h:H p=none):p∉M:=λz=>l p z h
theorem ap.upd {M:ZX}{H:Hp}{a:Addr}{o:HO}(l:ap M H):ap M (L2.upd H a o):=λb hb z=>by
 by_cases e:b=a
 .subst e;rw [aR] at z;cases z
 .rw [aA e] at z;exact l b hb z
def nu(l:ap M H)(h:H p=none)(r:aC (but H M) a b):al (but (upd H p (.tup a)) M) (.ref p) (.tup b):=by
 rw [xK<|l.fresh h]
 exact .tup aR<|r.mono<|dr (by rw [bh<|l.fresh h];exact h) _
def qC(l:ap M H)(h:H p=none)(r:aC (but H M) a b):al (but (upd H p (.lst a)) M) (.ref p) (.lst b):=by
 rw [xK<|l.fresh h]
 exact .lst aR<|r.mono<|dr (by rw [bh<|l.fresh h];exact h) _
def mC{H:Hp}{M:ZX}(e:a∉M)(h:H a=some (.lst c))(r:aC (but H (a::M)) c d):al (but H M) (.ref a) (.lst d):=
 .lst (by rw [bh e];exact h) (r.mono<|dU λb f=>Lv _ f)
def qJ{H:Hp}(h:H a=none)(r:al (but H M) v d):al (but (upd H a o) (a::M)) v d:=by
 rw [dD<|Lz]
 refine r.mono λb u e=>?_
 obtain ⟨f,c⟩:=ax e
 rw [bh]
 .exact c
 .intro z
  rcases LK.mp z with rfl|z
  .rw [h] at c;cases c
  .exact f z
theorem sk{H:Hp}(h:H a=none):∀{b:List V} {c:ZZ},aC (but H M) b c->aC (but (upd H a o) (a::M)) b c
 |_,_,.nil=>.nil
 |_,_,.cons q r=>.cons (qJ h q)<|sk h r
def ae (te:TE)(G:Hp)(σ:St)(d:D):Prop:=
 ∀M H,ab G (but H M)->ap M H->∀Q:VK,(∀v H',ab H H'->al (but H' M) v d->Q v H')->te σ H Q
def d8 (ta:TA)(G:Hp)(σ:St)(ds:List D):Prop:=
 ∀M H,ab G (but H M)->ap M H->∀Q:List V->Hp->Prop,(∀vs H',ab H H'->aC (but H' M) vs ds->Q vs H')->ta σ H Q
def br (tt:TT)(G:Hp)(σ:St)(b:Bool):Prop:=
 ∀M H,ab G (but H M)->ap M H->∀Q:Bool->Hp->Prop,(∀H',ab H H'->Q b H')->tt σ H Q
def ae.at{Q:VK}(h:ae te (but H M) b d)(l:ap M H)(k:∀v a,ab H a->al (but a M) v d->Q v a):te b H Q:=h M H (ab.refl _) l Q k
def ae.eq(h:ae a G b d)(e:d=c):ae a G b c:=e▸h
def br.eq(h:br a G b d)(e:d=c):br a G b c:=e▸h
section
variable {G:Hp}{σ:St}{ta tb tc:TE}{tt tu:TT}{t:TA}{d d1 d2:D}{ds:List D}{K:PySem.W.Frag}
def cH{i:Nat}(e:σ[i]?=some (some v))(r:al G v d):ae (aW i) G σ d:=λM H s l Q k=>⟨v,e,k v H (ab.refl _)<|r.mono s⟩
def wB(r:∀H,al H v d):ae (tC v) G σ d:=λM H s l Q k=>k _ H (ab.refl _)<|r _
def aq:ae (tC (.int i)) G σ (.int i):=wB λ_=>.int i
def aN:ae (tC (.str x)) G σ (.str x):=wB λ_=>.str x
def qB:ae (tC (.bl b)) G σ (.bl b):=wB λ_=>.bl b
def jU {r:R2}(e:∀M H x y,ap M H->al (but H M) x d1->al (but H M) y d2->∀Q:VK,(∀v b,ab H b->al (but b M) v d->Q v b)->r x y H Q)(f:ae ta G σ d1)(g:ae tb G σ d2):ae (bY r ta tb) G σ d:=
 λM H s l Q k=>f M H s l _ λx h a i=>g M h (s.trans<|a.but M) (l.same a) _ λy j c m=>
  e M j x y (l.same<|a.trans c) (i.mono<|c.but M) m Q λv n o p=>k v n (a.trans<|c.trans o) p
def oP{g:Int->Int->V}(a:∀b,al b (g i j) d)(c:ae ta G σ (.int i))(e:ae tb G σ (.int j)):ae (bY (f9 g) ta tb) G σ d:=
 jU (λM H x y l f h Q k=>⟨i,j,f.eC,h.eC,k _ H (ab.refl _)<|a _⟩) c e
def tf{C:Int->Int->Prop}{g:Int->Int->V}(a:C i j)(b:∀c,al c (g i j) d)(e:ae ta G σ (.int i))(f:ae tb G σ (.int j)):ae (bY (rI C g) ta tb) G σ d:=
 jU (λM H x y l h m Q k=>⟨i,j,h.eC,m.eC,a,k _ H (ab.refl _)<|b _⟩) e f
def kq(a:ae ta G σ (.int i))(b:ae tb G σ (.int j)):ae (bY (f9 λi j=>.int (i+j)) ta tb) G σ (.int (i+j)):=oP (λ_=>.int _) a b
def K0(a:ae ta G σ (.int i))(b:ae tb G σ (.int j)):ae (bY (f9 λi j=>.int (i-j)) ta tb) G σ (.int (i-j)):=oP (λ_=>.int _) a b
def Bh(a:mV i j)(b:ae ta G σ (.int i))(c:ae tb G σ (.int j)):ae (bY (rI mV λi j=>.int (i*j)) ta tb) G σ (.int (i*j)):=tf a (λ_=>.int _) b c
def eQ(a:0<j)(b:ae ta G σ (.int i))(c:ae tb G σ (.int j)):ae (bY (rI (λ_ j=>0<j) λi j=>.int (i%j)) ta tb) G σ (.int (i%j)):=tf (C:=λ_ j=>0<j) a (λ_=>.int _) b c
def gS(a:u3 i j)(b:ae ta G σ (.int i))(c:ae tb G σ (.int j)):ae (bY (rI u3 λi j=>.int (i/j)) ta tb) G σ (.int (i/j)):=tf a (λ_=>.int _) b c
def JS(a:wc i j)(b:ae ta G σ (.int i))(c:ae tb G σ (.int j)):ae (bY (rI wc λi j=>.int (i^j.toNat)) ta tb) G σ (.int (i^j.toNat)):=tf a (λ_=>.int _) b c
def nq(a:ae ta G σ (.int i))(b:ae tb G σ (.int j)):ae (bY (f9 λi j=>.bl (decide (i<j))) ta tb) G σ (.bl (decide (i<j))):=oP (λ_=>.bl _) a b
def j6(a:ae ta G σ (.int i))(b:ae tb G σ (.int j)):ae (bY (f9 λi j=>.bl (decide (j<i))) ta tb) G σ (.bl (decide (j<i))):=oP (λ_=>.bl _) a b
def Ab(a:ae ta G σ (.int i))(b:ae tb G σ (.int j)):ae (bY (f9 λi j=>.bl (decide (j<=i))) ta tb) G σ (.bl (decide (j<=i))):=oP (λ_=>.bl _) a b
def iK(a:ae ta G σ (.int i)):ae (BO (rU λi=>.int (-i)) ta) G σ (.int (-i)):=
 λM H s l Q k=>a M H s l _ λx b c e=>⟨i,e.eC,k _ b c (.int _)⟩
def D.sc:D->Bool
 |.int _=>true|.str _=>true|_=>false
def xH{d:D}(f:al H x d)(a:al c y e)(g:d.sc=true)(b:e.sc=true):xA x y=true/\decide (x=y)=decide (d=e):=by
 cases f with
 |int i=>
  cases a with
  |int j=>exact ⟨rfl,by simp⟩
  |str j=>exact ⟨rfl,by simp⟩
  |_=>exact absurd b (by simp [D.sc])
 |str i=>
  cases a with
  |int j=>exact ⟨rfl,by simp⟩
  |str j=>exact ⟨rfl,by simp⟩
  |_=>exact absurd b (by simp [D.sc])
 |_=>exact absurd g (by simp [D.sc])
def ag:d8 bA G σ []:=λM H s l Q k=>k [] H (ab.refl _) .nil
def aa (c:ae ta G σ d)(e:d8 t G σ ds):d8 (bo ta t) G σ (d::ds):=
 λM H s l Q k=>c M H s l _ λx f a g=>e M f (s.trans<|a.but M) (l.same a) _ λj h b i=>k _ h (a.trans b) (.cons (g.mono<|b.but M) i)
def aQ (h:d8 t G σ ds)(hz:ds.length<=sizeLine:=by exact Nc (cy Z8)):ae (qM t) G σ (.tup ds):=
 λM H s l Q k=>h M H s l _ λe f a b=>⟨by rw [b.length];exact hz,λp c=>k _ _ (a.trans<|dr c _)<|nu (l.same a) c b⟩
def fy (h:d8 t G σ ds)(hz:ds.length<=sizeLine:=by exact Nc (cy Z8)):ae (jF t) G σ (.lst ds):=
 λM H s l Q k=>h M H s l _ λe f a b=>⟨by rw [b.length];exact hz,λp c=>k _ _ (a.trans<|dr c _)<|qC (l.same a) c b⟩
def BM{ds:ZZ}{d:D}(r:aC H a ds)(h:dO ds i=some d):∃v,dO a i=some v/\al H v d:=by
 unfold dO at h⊢
 rw [r.length]
 cases e:mE ds.length i with
 |none=>rw [e] at h;cases h
 |some j=>rw [e] at h;exact r.get h
def ql {r:List V->Hp->VK->Prop}(e:∀M H b,ap M H->aC (but H M) b ds->∀Q:VK,(∀v a,ab H a->al (but a M) v d->Q v a)->r b H Q)(h:d8 t G σ ds):ae (cD r t) G σ d:=
 λM H s l Q k=>h M H s l _ λf g c i=>e M g f (l.same c) i Q λv j m n=>k v j (c.trans m) n
def iu{d:D}(h:aC H a [d]):∃x,a=[x]/\al H x d:=by
 cases h with|cons q r=>cases r;exact ⟨_,rfl,q⟩
def sL{d:D}(h:aC H a [d,e]):∃x y,a=[x,y]/\al H x d/\al H y e:=by
 cases h with|cons q r=>cases r with|cons b r=>cases r;exact ⟨_,_,rfl,q,b⟩
def ff(h:d8 t G σ [.lst l]):ae (cD (λc H Q=>∃p b,c=[.ref p]/\(aP K H p b\/bq K H p b)/\Q (.int b.length) H) t) G σ (.int l.length):=
 ql (λM H c j e Q k=>by
  obtain ⟨x,rfl,q⟩:=iu e
  obtain ⟨a,f,rfl,g,i⟩:=q.d7
  refine ⟨a,f,rfl,.inl<|aP.of (ax g).2,?_⟩
  rw [i.length]
  exact k _ H (ab.refl _) (.int _)) h
def h9(h:d8 t G σ [.tup l]):ae (cD (λc H Q=>∃p b,c=[.ref p]/\(aP K H p b\/bq K H p b)/\Q (.int b.length) H) t) G σ (.int l.length):=
 ql (λM H c j e Q k=>by
  obtain ⟨x,rfl,q⟩:=iu e
  obtain ⟨a,f,rfl,g,i⟩:=q.fe
  refine ⟨a,f,rfl,.inr<|bq.of (ax g).2,?_⟩
  rw [i.length]
  exact k _ H (ab.refl _) (.int _)) h
def F9(h:d8 t G σ [.lst l]):
  ae (cD (λc H Q=>∃p b,c=[.ref p]/\(aP K H p b\/bq K H p b)/\∀l,H l=none->Q (.ref l) (upd H l (.lst b))) t) G σ (.lst l):=
 ql (λM H c f g Q k=>by
  obtain ⟨x,rfl,q⟩:=iu g
  obtain ⟨a,i,rfl,j,m⟩:=q.d7
  exact ⟨a,i,rfl,.inl<|aP.of (ax j).2,λp e=>k _ _ (dr e _)<|qC f e m⟩) h
def rO(h:d8 t G σ [.lst l]):
  ae (cD (λc H Q=>∃p b,c=[.ref p]/\((aP K H p b/\∀l,H l=none->Q (.ref l) (upd H l (.tup b)))\/(bq K H p b/\Q (.ref p) H))) t) G σ (.tup l):=
 ql (λM H c f g Q k=>by
  obtain ⟨x,rfl,q⟩:=iu g
  obtain ⟨a,i,rfl,j,m⟩:=q.d7
  exact ⟨a,i,rfl,.inl ⟨aP.of (ax j).2,λp e=>k _ _ (dr e _)<|nu f e m⟩⟩) h
def cw(h:ae ta G σ (.bl b)):br (sM ta) G σ b:=λM H s l Q k=>h M H s l _ λv a c e=>⟨b,e.jA,k a c⟩
def dh(h:ae ta G σ (.bl b)):br (tB ta) G σ b:=λM H s l Q k=>h M H s l _ λv a c e=>⟨b,e.jA,k a c⟩
def eB(h:br tt G σ b):br (AM tt) G σ (!b):=λM H s l Q k=>h M H s l _ λa c=>k a c
def jS:br jD G σ true:=λM H s l Q k=>k H<|ab.refl _
def ii(h:br tt G σ b)(f:b=true->br tu G σ c):br (w9 tt tu) G σ (b&&c):=λM H s l Q k=>h M H s l _ λe a=>by
 cases b with
 |true=>rw [LJ rfl];exact f rfl M e (s.trans<|a.but M) (l.same a) _ λg i=>k g<|a.trans i
 |false=>rw [LG LI];exact k e a
def iC(h:br tt G σ b)(f:b=false->br tu G σ c):br (y4 tt tu) G σ (b||c):=λM H s l Q k=>h M H s l _ λe a=>by
 cases b with
 |true=>rw [LJ rfl];exact k e a
 |false=>rw [LG LI];exact f rfl M e (s.trans<|a.but M) (l.same a) _ λg i=>k g<|a.trans i
def fK(h:ae ta G σ (.bl b))(f:b=true->ae tb G σ (.bl c)):ae (rL ta tb) G σ (.bl (b&&c)):=λM H s l Q k=>h M H s l _ λv e a g=>⟨b,g.jA,by
 cases b with
 |true=>rw [LJ rfl];exact f rfl M e (s.trans<|a.but M) (l.same a) _ λv i j m=>k v i (a.trans j) m
 |false=>rw [LG LI];exact k _ e a (.bl _)⟩
def Ip(h:ae ta G σ (.bl b))(f:b=false->ae tb G σ (.bl c)):ae (BU ta tb) G σ (.bl (b||c)):=λM H s l Q k=>h M H s l _ λv e a g=>⟨b,g.jA,by
 cases b with
 |true=>rw [LJ rfl];exact k _ e a (.bl _)
 |false=>rw [LG LI];exact f rfl M e (s.trans<|a.but M) (l.same a) _ λv i j m=>k v i (a.trans j) m⟩
def BR(h:ae ta G σ (.bl b)):ae (zi ta) G σ (.bl (!b)):=λM H s l Q k=>h M H s l _ λv a c e=>⟨b,e.jA,k _ a c (.bl _)⟩
end
section
variable {M:List Addr}{H:Hp}{σ:St}{ta:TE}{tt:TT}{d:D}{E:Ends}
def Bf{c e:TS}(l:ap M H)(h:br tt (but H M) σ b)(f:b=true->∀a,ab H a->c E σ a)(g:b=false->∀a,ab H a->e E σ a):lQ tt c e E σ H:=h M H (ab.refl _) l _ λa s=>by
 cases b with
 |true=>rw [LJ rfl];exact f rfl a s
 |false=>rw [LG LI];exact g rfl a s
end
end FL
namespace PySem
open Sem (wp)
def Er:typeLookup (.type "list") "keys"=pure none:=by rw [typeLookup_type,builtinLookup_eq_fast];kernel_rfl
set_option maxHeartbeats 2000000 in
def KO{A:Around}{s:Shared}{name:Str}{Q:Option Value->Shared->Prop}
  (t:s.heap.get? a=some o) (u:o.cls=.type "list") (f:o.data=.seq r k) (v:o.dict=none) (i:typeLookup (.type "list") name=pure none) (j:(["__module__","__name__","__qualname__","__doc__","__annotations__"]:ZY).contains name=false) (z:A.handled=none)
  (h:∀p x,(∀b o,s.heap.get? b=some o->p.get? b=some o)->Q none {s with heap:=p,toks:=x}) (q:name.length+100<=sizeLine:=by size_fits):
  wpAny (model l w) A (getAttr? (.ref a) name) Q E s:=by
 obtain ⟨c,B,C,G⟩:=o
 simp only at u f v
 subst u f v
 obtain ⟨H,g,d,x,os⟩:=s
 have y:∀m,(⟨H,g,d,m,os⟩:Shared).TypeIs (.ref a) "list":=λ_=>⟨_,t,rfl⟩
 have I:=sub_AttributeError
 have J:=Ot.lookup
 have L:=Ot.bind (.ref a)
 have M:=am_list_getattr_none
 unfold getAttr? getAttrBy? getAttrBy
 repeat (any_goals (first|assumption|exact y _|((with_reducible show wpAny _ _ (call (Value.builtin "list.__getattribute__") _ _) _ _ _);refine Qr Ot (y _) am_entry_list_getattribute (F.args_list_getattribute_2 _ _) (meets_getattribute_miss_list a r k G name _ i j q) ⟨t,z,λp m e n=>?_⟩)|wp_step))
 obtain ⟨N,O,T⟩:=n.there
 show wpAny _ _ (getattributeRaised _ _ _ _ _ _ _) _ _ _
 unfold getattributeRaised
 repeat (any_goals (first|assumption|wp_step))
 exact h _ _ n.of.keeps
namespace F
def x9:entryFor table "dict.update.loop"=some Builtin.«dict.update.loop»:=entryFor_of_tree (by kernel_rfl)
def uv:plainId "dict.update.loop"=true:=by decide+kernel
end F
section
variable {prog:Program}{w:World}{K:Type} [DecidableEq K] {knd:KeyKind prog w K}{A:Around}{R:Result->Shared->Prop}{s:Shared}
def xu (knd:KeyKind prog w K)(h:Heap)(u:Value)(p:K×Value):Prop:=∃b kv,u=.ref b/\h.IsTuple b #[kv,p.2]/\knd.is p.1 kv=true
def GG{A:Around}{s:Shared}{Q:List Value->Shared->Prop}(d:s.heap.IsTuple b a)(e:Q a.toList s):wpAny (model prog w) A (Builtin.Dict.pairItems (.ref b)) Q E s:=by
 obtain ⟨o,c,f,n,g⟩:=d
 unfold Builtin.Dict.pairItems
 refine Lw<|Pg (show s.TypeIs (.ref b) "tuple" from ⟨o,c,f⟩) ?_
 rw [LJ Z1]
 refine Lw ?_
 unfold seqItems?
 refine Lw<|wpAny_load c ?_
 rw [g]
 exact LN<|LN e
theorem yv{items:Array Value}(hA:A.handled=none):∀(cc:List (K×Value)) (i:Nat) (s:Shared) (z:List (K×Value)),items.size=i+cc.length->
  (∀j p,cc[j]?=some p->∃u,items[i+j]?=some u/\xu knd s.heap u p)->s.heap.IsListIter k l i->s.heap.IsList l items->s.heap.DictOf knd d z->z.length+cc.length<=sizeLine->
  (∀C tk,C.DictOf knd d (merged z cc)->(∀b o,b≠d->b≠k->s.heap.get? b=some o->C.get? b=some o)->R (.ok (.ret B)) {s with heap:=C,toks:=tk})->
  codeAny (model prog w) A (.builtin "dict.update.loop" ⟨[.ref d,.ref k,rawInt i,B],[]⟩) R s
 |[],i,s,z,E,hp,h,J,G,hz,hR=>by
  refine Oz F.x9 ?_
  rw [Oe F.uv _]
  show wpAny _ A.in1 (pyNext (.ref k)>>=_) _ _ s
  have v:d≠k:=by
   rintro rfl
   obtain ⟨o,f,U,g⟩:=h
   obtain ⟨L,H,I,c,m,a,_⟩:=G
   rw [f] at c;cases c;rw [g] at a;cases a
  refine Lw<|wpAny_pyNext_list_end hA h J (by simp at E⊢;omega) λC ext=>?_
  show wpAny _ A.in1 (Builtin.Dict.addKeywords d []>>=λ_=>ret B) _ _ _
  refine Lw<|LN<|LN<|hR C s.toks ?_ λb o _ hb e=>ext b o hb e
  obtain ⟨o,H,I,f,r⟩:=G
  exact ⟨o,H,I,ext _ _ v f,r⟩
 |p::cc,i,s,z,E,hp,h,J,G,hz,hR=>by
  refine Oz F.x9 ?_
  rw [Oe F.uv _]
  show wpAny _ A.in1 (pyNext (.ref k)>>=_) _ _ s
  obtain ⟨u,hu,b,kv,rfl,M,hk⟩:=hp 0 p rfl
  have v:d≠k:=by
   rintro rfl
   obtain ⟨o,f,U,g⟩:=h
   obtain ⟨L,H,I,c,m,a,_⟩:=G
   rw [f] at c;cases c;rw [g] at a;cases a
  have ac:l≠k:=by
   rintro rfl
   obtain ⟨o,f,U,g⟩:=h
   obtain ⟨L,c,m,n,a⟩:=J
   rw [f] at c;cases c;rw [g] at a;cases a
  have af:l≠d:=by
   rintro rfl
   obtain ⟨o,H,I,f,U,g,_⟩:=G
   obtain ⟨L,c,m,n,a⟩:=J
   rw [f] at c;cases c;rw [g] at a;cases a
  have N:∀{b:Addr} {xs:Array Value},s.heap.IsTuple b xs->b≠d/\b≠k:=λ{b xs} ht=>by
   obtain ⟨o,f,U,n,g⟩:=ht
   refine ⟨?_,?_⟩
   .rintro rfl
    obtain ⟨L,H,I,c,m,a,_⟩:=G
    rw [f] at c;cases c;rw [g] at a;cases a
   .rintro rfl
    obtain ⟨L,c,m,a⟩:=h
    rw [f] at c;cases c;rw [g] at a;cases a
  refine Lw<|wpAny_pyNext_list_item h J (x:=.ref b) (by simpa using hu) λY O t=>?_
  have aj:Y.IsTuple b #[kv,p.2]:=by
   obtain ⟨o,f,r⟩:=M
   exact ⟨o,(t.2 b (N ⟨o,f,r⟩).2).trans f,r⟩
  have vy:Y.DictOf knd d z:=by
   obtain ⟨o,H,I,f,r⟩:=G
   exact ⟨o,H,I,(t.2 d v).trans f,r⟩
  refine Lw<|Nd<|Lw<|Of<|GG (s:={s with heap:=Y}) aj ?_
  show wpAny _ A.in1 (holding [kv,p.2]<|dictSet d kv p.2) _ _ _
  refine Nd<|wpAny_dictSet_pairs (s:={s with heap:=Y}) (hsz:=by simp at hz;omega) hk vy λh2 dw y=>?_
  have Q:h2.IsListIter k l (i+1):=by
   obtain ⟨o,f,r⟩:=O
   exact ⟨o,(y.2 k<|MC v).trans f,r⟩
  have am:h2.IsList l items:=by
   obtain ⟨o,f,r⟩:=J
   exact ⟨o,(y.2 l af).trans<|(t.2 l ac).trans f,r⟩
  have an:(rawInt i:Value)=rawInt i:=rfl
  refine LN ⟨Ou F.uv _,?_⟩
  have e1:((i:Int)+1)=((i+1:Nat):Int):=by omega
  rw [e1]
  refine yv hA cc (i+1) _ (stored z p.1 p.2) (by simp at E;omega) (λj q hq=>?_) Q am dw ?_ λC tk ao kp=>?_
  .obtain ⟨u',as,b',a0,rfl,T,a1⟩:=hp (j+1) q (by simpa using hq)
   refine ⟨.ref b',by rw [<-as];congr 1;omega,b',a0,rfl,?_,a1⟩
   obtain ⟨n1,n2⟩:=N T
   obtain ⟨o,f,r⟩:=T
   exact ⟨o,(y.2 b' n1).trans<|(t.2 b' n2).trans f,r⟩
  .have:=stored_length_le z p.1 p.2
   simp at hz;omega
  .exact hR C tk ao λb o n1 n2 e=>kp b o n1 n2<|(y.2 b n1).trans<|(t.2 b n2).trans e
end
end PySem
namespace PySem
section
variable {prog:Program}{w:World}{K:Type} [DecidableEq K] {knd:KeyKind prog w K}{A:Around}{E:Value->Shared->Prop}{s:Shared}
def JE{cc:List (K×Value)}{Q:ZT}(L:A.handled=none)
  (v:s.heap.get? l=some o) (x:o.cls=.type "list") (B:o.dict=none) (d:o.data=.seq a n) (N:a.size=cc.length)
  (O:∀(j:Nat) p,cc[j]?=some p->∃u,a[j]?=some u/\xu knd s.heap u p) (T:cc.length<=sizeLine)
  (h:∀i C,i.DictOf knd s.heap.objs.size (merged [] cc)->(∀b o,s.heap.get? b=some o->i.get? b=some o)->Q (.ref s.heap.objs.size) {s with heap:=i,toks:=C}):
  wpAny (model prog w) A (call (.type "dict") [.ref l]) Q E s:=by
 refine callType_codes (Q₁:=λk g=>k=.ref s.heap.objs.size/\g={s with heap:=s.heap.push {cls:=.type "dict",data:=.dict #[]}}) F.kt_called_dict (F.kt_typeCall_dict_1 _) F.entry_dict_init (kt_code_dict_new _ ⟨rfl,rfl⟩) ?_
 rintro k g ⟨rfl,rfl⟩
 have f:(s.heap.push {cls:=.type "dict",data:=.dict #[]}).DictOf knd s.heap.objs.size []:=Heap.DictOf.new s.heap
 have m:∀b o,s.heap.get? b=some o->(s.heap.push {cls:=.type "dict",data:=.dict #[]}).get? b=some o:=λb o e=>LC _ e
 generalize U:s.heap.objs.size=D at*
 generalize hH:s.heap.push {cls:=.type "dict",data:=.dict #[]}=M at*
 refine ⟨f.typeIs,F.args_dict_init_2 _ _,?_⟩
 unfold Builtin.«dict.__init__»
 refine Lw ?_
 unfold Builtin.Dict.selfAndRest
 refine Lw<|wpAny_notOrdered_dict f.typeIs ?_
 show wpAny _ _ (pure (D,[Value.ref l])) _ _ _
 refine LN ?_
 show wpAny _ _ (Builtin.Dict.updateFrom "dict.__init__" D (.ref l) [] .none) _ _ _
 unfold Builtin.Dict.updateFrom
 refine Lw<|Pg (show ({s with heap:=M}:Shared).TypeIs (.ref l) "list" from ⟨o,m _ _ v,x⟩) ?_
 rw [LJ Z1]
 refine Lw<|KO (s:={s with heap:=M}) (m _ _ v) x d B Er Z1 L λy q z=>?_
 refine Lw<|OD ?_
 refine Lw<|Nj (s:={s with heap:=y,toks:=q}) (l:=l) (items:=a) ⟨o,z _ _<|m _ _ v,x,n,d⟩ ?_
 have G:∀b c,s.heap.get? b=some c->(y.push {cls:=.type "list_iterator",data:=.fields #[.ref l,.int 0 0]}).get? b=some c:=λb c e=>LC _<|z b c<|m b c e
 have dw:(y.push {cls:=.type "list_iterator",data:=.fields #[.ref l,.int 0 0]}).DictOf knd D []:=by
  obtain ⟨Y,es,ep,H,r⟩:=f
  exact ⟨Y,es,ep,LC _<|z _ _ H,r⟩
 refine LN ⟨Ou F.uv _,?_⟩
 refine yv (A:=A.in1) (knd:=knd) (l:=l) (items:=a) (R:=wants (λr t=>r=.none/\Q (.ref D) t) E) L cc 0 {s with heap:=y.push {cls:=.type "list_iterator",data:=.fields #[.ref l,.int 0 0]},toks:=q} [] Z4 (λj p hj=>?_) ⟨_,L0 _ rfl,rfl,rfl⟩ ⟨o,G _ _ v,x,n,d⟩ dw (by simpa using T) λi C I kp=>?_
 .obtain ⟨u,hu,b,kv,rfl,⟨c,J,r⟩,hk⟩:=O j p hj
  exact ⟨.ref b,by simpa using hu,b,kv,rfl,⟨c,G _ _ J,r⟩,hk⟩
 .refine ⟨rfl,h i C I λb c e=>kp b c ?_ ?_ (G b c e)⟩
  .exact Mf (by rw [<-U];exact L1 e)
  .exact Mf<|L1<|z b c<|m b c e
end
end PySem
namespace FL
open PySem L2
mutual
def cn:D->D->Bool
 |.int _,.int _=>true
 |.int _,.str _=>true
 |.str _,.int _=>true
 |.str _,.str _=>true
 |.tup a,.tup b=>fY a b
 |.lst a,.lst b=>fY a b
 |_,_=>false
def fY:List D->List D->Bool
 |a::r,b::t=>cn a b&&fY r t
 |_,_=>true
end
mutual
def D.cI:D->Nat
 |.tup l=>D.fw l+1
 |.lst l=>D.fw l+1
 |_=>0
def D.fw:List D->Nat
 |[]=>0
 |a::r=>max (D.cI a) (D.fw r)
end
theorem pT:∀{l:ZZ} {j:Nat} {d:D},l[j]?=some d->d.cI<=D.fw l
 |[],_,_,h=>by simp at h
 |a::r,0,d,h=>by simp at h;subst h;exact Nat.le_max_left _ _
 |a::r,j+1,d,h=>by
  have:=pT (l:=r) (j:=j) (d:=d) (by simpa using h)
  exact L8 this<|Nat.le_max_right _ _
theorem oV:∀{l m:ZZ} {j:Nat} {d e:D},fY l m=true->l[j]?=some d->m[j]?=some e->cn d e=true
 |[],_,_,_,_,_,h,_=>by simp at h
 |_::_,[],_,_,_,_,_,h=>by simp at h
 |a::r,b::t,0,d,e,h,c,f=>by
  simp at c f;subst c;subst f
  rw [fY,MD] at h
  exact h.1
 |a::r,b::t,j+1,d,e,h,c,f=>by
  rw [fY,MD] at h
  exact oV (l:=r) (m:=t) (j:=j) h.2 (by simpa using c) (by simpa using f)
def tR {l m:ZZ}:((List.range (min l.length m.length)).all (λj=>decide (l[j]?=m[j]?))&&l.length==m.length)=decide (l=m):=by
 rw [Ms,MD,NV,OC,OE]
 constructor
 .rintro ⟨a,c⟩
  refine NE λj=>?_
  by_cases b:j<min l.length m.length
  .exact LW<|a j<|Qo.mpr b
  .rw [Mx Z4,Mx Z4]
 .rintro rfl
  exact ⟨λj _=>by simp,rfl⟩
def jq{P:Program}{w:World}{K:W.Frag}{j:Nat}(r:a9 a b)(h:b[j]?=some u):∃x,a[j]?=some x/\RelV x u:=by
 have f:=r.length
 obtain ⟨g,_⟩:=Lx.mp h
 have c:a[j]?=some (a[j]'Z4):=Ly Z4
 obtain ⟨i,d,e⟩:=r.get c
 rw [h] at d;cases d
 exact ⟨_,c,e⟩
open SeqAt in
def wo{s:Shared}(ok:cT P w H s.heap)(hG:ab G H):∀(n:Nat) {d e:D} {x y:V} {u z:Value} {A:Around},d.cI<=n->al G x d->al G y e->RelV x u->RelV y z->cn d e=true->A.units+n<cLine->
  EqAt A s u z (decide (d=e)):=by
 intro n
 induction n with
 |zero=>
  intro d e x y u z A T rx v B p g hu
  cases rx with
  |int i=>
   obtain ⟨t,rfl⟩:=B
   cases v with
   |int j=>
    obtain ⟨h,rfl⟩:=p
    have q:decide (D.int i=D.int j)=(i==j):=by rw [Ms];simp
    rw [q];exact EqAt.int_int i t j h
   |str j=>
    obtain ⟨h,rfl⟩:=p
    have q:decide (D.int i=D.str j)=false:=by simp
    rw [q];exact EqAt.int_str i t j h
   |_=>exact absurd g (by simp [cn])
  |str i=>
   obtain ⟨t,rfl⟩:=B
   cases v with
   |int j=>
    obtain ⟨h,rfl⟩:=p
    have q:decide (D.str i=D.int j)=false:=by simp
    rw [q];exact EqAt.str_int i t j h
   |str j=>
    obtain ⟨h,rfl⟩:=p
    have q:decide (D.str i=D.str j)=(i==j):=by rw [Ms];simp
    rw [q];exact EqAt.str_str i t j h
   |_=>exact absurd g (by simp [cn])
  |av=>exact absurd g (by simp [cn])
  |bl _=>exact absurd g (by simp [cn])
  |tup _ _=>simp [D.cI] at T
  |lst _ _=>simp [D.cI] at T
 |succ n ih=>
  intro d e x y u z A T rx v B p g hu
  cases rx with
  |int i=>
   obtain ⟨t,rfl⟩:=B
   cases v with
   |int j=>
    obtain ⟨h,rfl⟩:=p
    have q:decide (D.int i=D.int j)=(i==j):=by rw [Ms];simp
    rw [q];exact EqAt.int_int i t j h
   |str j=>
    obtain ⟨h,rfl⟩:=p
    have q:decide (D.int i=D.str j)=false:=by simp
    rw [q];exact EqAt.int_str i t j h
   |_=>exact absurd g (by simp [cn])
  |str i=>
   obtain ⟨t,rfl⟩:=B
   cases v with
   |int j=>
    obtain ⟨h,rfl⟩:=p
    have q:decide (D.str i=D.int j)=false:=by simp
    rw [q];exact EqAt.str_int i t j h
   |str j=>
    obtain ⟨h,rfl⟩:=p
    have q:decide (D.str i=D.str j)=(i==j):=by rw [Ms];simp
    rw [q];exact EqAt.str_str i t j h
   |_=>exact absurd g (by simp [cn])
  |av=>exact absurd g (by simp [cn])
  |bl _=>exact absurd g (by simp [cn])
  |@tup a vs l U C=>
   cases B
   cases v with
   |@tup b ws m E I=>
    cases p
    rw [cn] at g
    by_cases o:a=b
    .subst o
     rw [U] at E;cases E
     rw [aC.inj C I,LV rfl]
     exact EqAt.same _
    .obtain ⟨_,f,Y,p1⟩:=(show bX P w H s.heap a (.tup vs) from ok a _<|hG _ _ U)
     obtain ⟨_,c,r2,p2⟩:=(show bX P w H s.heap b (.tup ws) from ok b _<|hG _ _ E)
     have n1:f.toArray.size=l.length:=by rw [LU,<-Y.length,C.length]
     have n2:c.toArray.size=m.length:=by rw [LU,<-r2.length,I.length]
     have q:decide (D.tup l=D.tup m)=((List.range<|min f.toArray.size c.toArray.size).all (λj=>decide<|l[j]?=m[j]?)&&f.toArray.size==c.toArray.size):=by
      rw [n1,n2,tR,Ms];simp
     rw [q]
     refine EqAt.of_refs o<|RcAt.tuples p1 p2 Z4 λj h1 h2=>?_
     obtain ⟨x',hx,J⟩:=jq (P:=P) (w:=w) (K:=[]) Y (j:=j) (u:=f.toArray[j]) Z8
     obtain ⟨y',hy,L⟩:=jq (P:=P) (w:=w) (K:=[]) r2 (j:=j) (u:=c.toArray[j]) Z8
     obtain ⟨d',k,M⟩:=C.iw hx
     obtain ⟨e',r,N⟩:=I.iw hy
     have q2:decide (l[j]?=m[j]?)=decide (d'=e'):=by rw [k,r,Ms];simp
     rw [q2]
     have O:d'.cI<=n:=by
      have:=pT k
      simp only [D.cI] at T
      omega
     exact ih O M N J L (oV g k r) (by show A.units+1+n<cLine;omega)
   |_=>exact absurd g (by simp [cn])
  |@lst a vs l U C=>
   cases B
   cases v with
   |@lst b ws m E I=>
    cases p
    rw [cn] at g
    by_cases o:a=b
    .subst o
     rw [U] at E;cases E
     rw [aC.inj C I,LV rfl]
     exact EqAt.same _
    .obtain ⟨_,f,k1,Y,p1⟩:=(show bX P w H s.heap a (.lst vs) from ok a _<|hG _ _ U)
     obtain ⟨_,c,k2,r2,p2⟩:=(show bX P w H s.heap b (.lst ws) from ok b _<|hG _ _ E)
     have n1:f.toArray.size=l.length:=by rw [LU,<-Y.length,C.length]
     have n2:c.toArray.size=m.length:=by rw [LU,<-r2.length,I.length]
     by_cases Q:l.length=m.length
     .have q:decide (D.lst l=D.lst m)=((List.range f.toArray.size).all λj=>decide<|l[j]?=m[j]?):=by
       have:=tR (l:=l) (m:=m)
       rw [n1]
       have e1:min l.length m.length=l.length:=by omega
       rw [e1] at this
       have e2:(l.length==m.length)=true:=by simpa using Q
       rw [e2,OW] at this
       rw [this,Ms];simp
      rw [q]
      refine EqAt.of_refs o<|RcAt.lists ⟨_,p1,rfl,_,rfl⟩ ⟨_,p2,rfl,_,rfl⟩ Z4 Z4 λj h1 h2=>?_
      obtain ⟨x',hx,J⟩:=jq (P:=P) (w:=w) (K:=[]) Y (j:=j) (u:=f.toArray[j]) Z8
      obtain ⟨y',hy,L⟩:=jq (P:=P) (w:=w) (K:=[]) r2 (j:=j) (u:=c.toArray[j]) Z8
      obtain ⟨d',k,M⟩:=C.iw hx
      obtain ⟨e',r,N⟩:=I.iw hy
      have q2:decide (l[j]?=m[j]?)=decide (d'=e'):=by rw [k,r,Ms];simp
      rw [q2]
      have O:d'.cI<=n:=by
       have:=pT k
       simp only [D.cI] at T
       omega
      exact ih O M N J L (oV g k r) (by show A.units+1+n<cLine;omega)
     .have q:decide (D.lst l=D.lst m)=false:=by
       rw [P1]
       intro z;cases z;exact Q rfl
      rw [q]
      exact EqAt.of_refs o<|RcAt.lists_lengths ⟨_,p1,rfl,_,rfl⟩ ⟨_,p2,rfl,_,rfl⟩ (by rw [n1,n2];simpa using Q) Z4
   |_=>exact absurd g (by simp [cn])
section
variable {X:Cx}
open SeqAt
def zJ (x y:V)(H:Hp)(d e:D):Prop:=∃M,al (but H M) x d/\al (but H M) y e/\cn d e=true/\d.cI<=40
def sD:R2:=λx y H Q=>∃d e,zJ x y H d e/\Q (.bl (decide (d=e))) H
def pf:R2:=λx y H Q=>∃d e,zJ x y H d e/\Q (.bl (!decide (d=e))) H
def Lu{A:Around}(I:Inv X f p H s)(r:al (but H M) (.ref a) d)(y:cn d d=true)(z:d.cI<=40)(B:A.units+50<cLine):
  (∃b n,s.heap.IsTuple a b/\RcAt A s (.ref a) (.ref a) true/\RcNeAt A s (.ref a) (.ref a) false/\n=b.size)\/(∃b n,s.heap.IsList a b/\RcAt A s (.ref a) (.ref a) true/\RcNeAt A s (.ref a) (.ref a) false/\n=b.size):=by
 have q:A.in1.units+45<cLine:=by show A.units+1+45<cLine;omega
 cases r with
 |@tup _ k l m t=>
  left
  obtain ⟨_,b,u,e⟩:=(show bX X.prog X.w H s.heap a (.tup k) from I.az a _ (ax m).2)
  have g:∀j (v:j<b.toArray.size) (x:j<b.toArray.size),EqAt A.in1 s b.toArray[j] b.toArray[j] ((λ_=>true) j):=λj _ _=>EqAt.same _
  have h:=RcAt.tuples e e Z4 g
  have i:=RcNeAt.tuples e e Z4 g
  have o:((List.range<|min b.toArray.size b.toArray.size).all (λ_=>true)&&b.toArray.size==b.toArray.size)=true:=by simp
  rw [o] at h i
  exact ⟨_,_,e,h,i,rfl⟩
 |@lst _ k l m t=>
  right
  obtain ⟨_,b,C,u,e⟩:=(show bX X.prog X.w H s.heap a (.lst k) from I.az a _ (ax m).2)
  have g:∀j (v:j<b.toArray.size) (x:j<b.toArray.size),EqAt A.in1 s b.toArray[j] b.toArray[j] ((λ_=>true) j):=λj _ _=>EqAt.same _
  have c:s.heap.IsList a b.toArray:=⟨_,e,rfl,_,rfl⟩
  have h:=RcAt.lists c c rfl Z4 g
  have i:=RcNeAt.lists c c rfl Z4 g
  have o:((List.range b.toArray.size).all λ_=>true)=true:=by simp
  rw [o] at h i
  exact ⟨_,_,c,h,i,rfl⟩
def zn{A:Around}(I:Inv X C σ H s)(p:al (but H M) (.ref a) d)(o:al (but H M) (.ref b) e)(B:cn d e=true)(hd:d.cI<=40)(hu:A.units+50<cLine):
  RcAt A s (.ref a) (.ref b) (decide (d=e))/\RcNeAt A s (.ref a) (.ref b) (!decide (d=e)):=by
 have ac:A.in1.units+45<cLine:=by show A.units+1+45<cLine;omega
 cases p with
 |@tup _ U l Y p=>
  cases o with
  |@tup _ ws m hb o=>
   rw [cn] at B
   obtain ⟨_,f,E,O⟩:=(show bX X.prog X.w H s.heap a (.tup U) from I.az a _ (ax Y).2)
   obtain ⟨_,c,G,Q⟩:=(show bX X.prog X.w H s.heap b (.tup ws) from I.az b _ (ax hb).2)
   have J:f.toArray.size=l.length:=by rw [LU,<-E.length,p.length]
   have T:c.toArray.size=m.length:=by rw [LU,<-G.length,o.length]
   have q:decide (D.tup l=D.tup m)=((List.range<|min f.toArray.size c.toArray.size).all (λj=>decide<|l[j]?=m[j]?)&&f.toArray.size==c.toArray.size):=by
    rw [J,T,tR,Ms];simp
   have L:∀j (h1:j<f.toArray.size) (h2:j<c.toArray.size),EqAt A.in1 s f.toArray[j] c.toArray[j] ((λj=>decide<|l[j]?=m[j]?) j):=λj h1 h2=>by
    obtain ⟨x',hx,r⟩:=jq (P:=X.prog) (w:=X.w) (K:=X.K) E (j:=j) (u:=f.toArray[j]) Z8
    obtain ⟨y',hy,t⟩:=jq (P:=X.prog) (w:=X.w) (K:=X.K) G (j:=j) (u:=c.toArray[j]) Z8
    obtain ⟨N,g,v⟩:=p.iw hx
    obtain ⟨e',h,x⟩:=o.iw hy
    have q2:decide (l[j]?=m[j]?)=decide (N=e'):=by rw [g,h,Ms];simp
    show EqAt A.in1 s _ _<|decide<|l[j]?=m[j]?
    rw [q2]
    have y:N.cI<=40:=by
     have:=pT g
     simp only [D.cI] at hd
     omega
    exact wo I.az (tm H M) 40 y v x r t (oV B g h) Z4
   rw [q]
   exact ⟨RcAt.tuples O Q Z4 L,RcNeAt.tuples O Q Z4 L⟩
  |_=>exact absurd B (by simp [cn])
 |@lst _ U l Y p=>
  cases o with
  |@lst _ ws m hb o=>
   rw [cn] at B
   obtain ⟨_,f,k1,E,O⟩:=(show bX X.prog X.w H s.heap a (.lst U) from I.az a _ (ax Y).2)
   obtain ⟨_,c,k2,G,Q⟩:=(show bX X.prog X.w H s.heap b (.lst ws) from I.az b _ (ax hb).2)
   have i:s.heap.IsList a f.toArray:=⟨_,O,rfl,_,rfl⟩
   have k:s.heap.IsList b c.toArray:=⟨_,Q,rfl,_,rfl⟩
   have J:f.toArray.size=l.length:=by rw [LU,<-E.length,p.length]
   have T:c.toArray.size=m.length:=by rw [LU,<-G.length,o.length]
   by_cases n:l.length=m.length
   .have q:decide (D.lst l=D.lst m)=((List.range f.toArray.size).all λj=>decide<|l[j]?=m[j]?):=by
     have:=tR (l:=l) (m:=m)
     rw [J]
     have e1:min l.length m.length=l.length:=by omega
     rw [e1] at this
     have e2:(l.length==m.length)=true:=by simpa using n
     rw [e2,OW] at this
     rw [this,Ms];simp
    have L:∀j (h1:j<f.toArray.size) (h2:j<c.toArray.size),EqAt A.in1 s f.toArray[j] c.toArray[j] ((λj=>decide<|l[j]?=m[j]?) j):=λj h1 h2=>by
     obtain ⟨x',hx,r⟩:=jq (P:=X.prog) (w:=X.w) (K:=X.K) E (j:=j) (u:=f.toArray[j]) Z8
     obtain ⟨y',hy,t⟩:=jq (P:=X.prog) (w:=X.w) (K:=X.K) G (j:=j) (u:=c.toArray[j]) Z8
     obtain ⟨N,g,v⟩:=p.iw hx
     obtain ⟨e',h,x⟩:=o.iw hy
     have q2:decide (l[j]?=m[j]?)=decide (N=e'):=by rw [g,h,Ms];simp
     show EqAt A.in1 s _ _<|decide<|l[j]?=m[j]?
     rw [q2]
     have y:N.cI<=40:=by
      have:=pT g
      simp only [D.cI] at hd
      omega
     exact wo I.az (tm H M) 40 y v x r t (oV B g h) Z4
    rw [q]
    exact ⟨RcAt.lists i k Z4 Z4 L,RcNeAt.lists i k Z4 Z4 L⟩
   .have q:decide (D.lst l=D.lst m)=false:=by
     rw [P1]
     intro z;cases z;exact n rfl
    rw [q]
    exact ⟨RcAt.lists_lengths i k (by rw [J,T];simpa using n) Z4,RcNeAt.lists_lengths i k (by rw [J,T];simpa using n) Z4⟩
  |_=>exact absurd B (by simp [cn])
def Ae(g:al G x d)(f:al G y e)(c:cn d e=true):(d.sc=true/\e.sc=true)\/∃a b,x=.ref a/\y=.ref b:=by
 cases g with
 |int i=>cases f<;>first|exact .inl ⟨rfl,rfl⟩|exact absurd c (by simp [cn])
 |str i=>cases f<;>first|exact .inl ⟨rfl,rfl⟩|exact absurd c (by simp [cn])
 |tup _ _=>cases f<;>first|exact .inr ⟨_,_,rfl,rfl⟩|exact absurd c (by simp [cn])
 |lst _ _=>cases f<;>first|exact .inr ⟨_,_,rfl,rfl⟩|exact absurd c (by simp [cn])
 |_=>exact absurd c (by simp [cn])
def GJ (l:X.A.units+50<cLine):cK X (compareOp .Eq) sD:=by
 intro c s m H x y v u Q I i j h
 obtain ⟨d,e,⟨M,f,g,k,n⟩,q⟩:=h
 rcases Ae f g k with ⟨o,p⟩|⟨a,b,rfl,rfl⟩
 .obtain ⟨r,t⟩:=xH f g o p
  rw [<-t] at q
  exact Ai c s m H x y v u Q I i j ⟨r,q⟩
 .cases i;cases j
  exact (zn I f g k n l).1 _ _ _ _ ⟨.bl _,H,I,rfl,q⟩
def G6 (l:X.A.units+50<cLine):cK X (compareOp .NotEq) pf:=by
 intro c s m H x y v u Q I i j h
 obtain ⟨d,e,⟨M,f,g,k,n⟩,q⟩:=h
 rcases Ae f g k with ⟨o,p⟩|⟨a,b,rfl,rfl⟩
 .obtain ⟨r,t⟩:=xH f g o p
  rw [<-t] at q
  exact Bn c s m H x y v u Q I i j ⟨r,q⟩
 .cases i;cases j
  exact (zn I f g k n l).2 _ _ _ _ ⟨.bl _,H,I,rfl,q⟩
def sE (neg:Bool):R2:=λx y H Q=>∃M d es,al (but H M) x d/\(al (but H M) y (.lst es)\/al (but H M) y (.tup es))/\(∀e∈es,cn e d=true/\e.cI<=40)/\Q (.bl (if neg then !decide (d∈es) else decide (d∈es))) H
def rE{A:Around}(I:Inv X k T H s)(U:al (but H M) x d)(Y:RelV x u)(o:aC (but H M) Q n)(p:a9 Q a)(c:∀e∈n,cn e d=true/\e.cI<=40)(hu:A.units+50<cLine):
  ∃f:Value->Bool,(∀y,y∈a.toArray->EqAt A.in1 s y u (f y))/\a.toArray.any f=decide (d∈n):=by
 classical
 refine ⟨λy=>decide (∃v e,RelV v y/\al (but H M) v e/\e=d),λy r=>?_,?_⟩
 .have C:y∈a:=by simpa using r
  obtain ⟨j,t,E⟩:=List.getElem_of_mem C
  obtain ⟨v,l,b⟩:=jq (P:=X.prog) (w:=X.w) (K:=X.K) p (j:=j) (u:=y) (by rw [Ly t,E])
  obtain ⟨e,G,g⟩:=o.iw l
  have B:e∈n:=LD G
  have q:decide (∃v e,RelV v y/\al (but H M) v e/\e=d)=decide (e=d):=by
   rw [Ms,OE,OE]
   constructor
   .rintro ⟨v',e',J,L,N⟩
    rw [b.inj J] at g
    rw [al.inj g L];exact N
   .intro z;exact ⟨v,e,b,g,z⟩
  show EqAt A.in1 s y u<|decide (∃v e,RelV v y/\al (but H M) v e/\e=d)
  rw [q]
  exact wo I.az (tm H M) 40 (c e B).2 g U b Y (c e B).1 (by show A.units+1+40<cLine;omega)
 .rw [Ms,Array.any_eq_true,OE]
  constructor
  .rintro ⟨j,t,h⟩
   obtain ⟨v',e',J,L,N⟩:=LW h
   obtain ⟨v,l,b⟩:=jq (P:=X.prog) (w:=X.w) (K:=X.K) p (j:=j) (u:=a.toArray[j]) Z8
   obtain ⟨e,G,g⟩:=o.iw l
   rw [b.inj J] at g
   rw [<-N,<-al.inj g L]
   exact LD G
  .intro B
   obtain ⟨j,t,O⟩:=List.getElem_of_mem B
   have hl:=o.length
   have ac:=p.length
   obtain ⟨v,l,b⟩:=o.get (i:=j) (d:=d) (by rw [Ly t,O])
   obtain ⟨y,r,ry⟩:=p.get l
   have m:j<a.toArray.size:=by simp;omega
   refine ⟨j,m,LV ⟨v,d,?_,b,rfl⟩⟩
   have:a.toArray[j]=y:=by
    rw [Ly (by simpa using m)] at r
    simpa using r
   rw [this];exact ry
def Fk (o:X.A.units+50<cLine):cK X (compareOp .In) (sE false):=by
 intro r s C H x y v u Q I t z h
 obtain ⟨M,d,E,B,c,b,q⟩:=h
 rcases c with c|c
 .obtain ⟨a,e,rfl,g,i⟩:=c.d7
  cases z
  obtain ⟨_,j,n,k,p⟩:=(show bX X.prog X.w H s.heap a (.lst e) from I.az a _ (ax g).2)
  obtain ⟨f,l,m⟩:=rE I B t i k b o
  refine in_listAt f ⟨_,p,rfl,_,rfl⟩ l ?_
  rw [m]
  exact ⟨.bl _,H,I,rfl,q⟩
 .obtain ⟨a,e,rfl,g,i⟩:=c.fe
  cases z
  obtain ⟨_,j,k,p⟩:=(show bX X.prog X.w H s.heap a (.tup e) from I.az a _ (ax g).2)
  obtain ⟨f,l,m⟩:=rE I B t i k b o
  refine in_tupleAt f p l ?_
  rw [m]
  exact ⟨.bl _,H,I,rfl,q⟩
def xN (o:X.A.units+50<cLine):cK X (compareOp .NotIn) (sE true):=by
 intro r s C H x y v u Q I t z h
 obtain ⟨M,d,E,B,c,b,q⟩:=h
 rcases c with c|c
 .obtain ⟨a,e,rfl,g,i⟩:=c.d7
  cases z
  obtain ⟨_,j,n,k,p⟩:=(show bX X.prog X.w H s.heap a (.lst e) from I.az a _ (ax g).2)
  obtain ⟨f,l,m⟩:=rE I B t i k b o
  refine notIn_listAt f ⟨_,p,rfl,_,rfl⟩ l ?_
  rw [m]
  exact ⟨.bl _,H,I,rfl,q⟩
 .obtain ⟨a,e,rfl,g,i⟩:=c.fe
  cases z
  obtain ⟨_,j,k,p⟩:=(show bX X.prog X.w H s.heap a (.tup e) from I.az a _ (ax g).2)
  obtain ⟨f,l,m⟩:=rE I B t i k b o
  refine notIn_tupleAt f p l ?_
  rw [m]
  exact ⟨.bl _,H,I,rfl,q⟩
def Pairs (K:PySem.W.Frag)(H:Hp):List V->List (aK×V)->Prop:=Paired λv kv=>∃b,v=.ref b/\bq K H b [kV kv.1,kv.2]
theorem pairs_at(I:Inv X a l H s):∀{i:List V} {c:List (aK×V)} {d:List Value},Pairs X.K H i c->a9 i d->
  ∃cc:List (aK×Value),KV c cc/\∀(j:Nat) (p:aK×Value),cc[j]?=some p->∃u,d.toArray[j]?=some u/\xu (du X.prog X.w) s.heap u p
 |_,_,_,.nil,.nil=>⟨[],.nil,λj p h=>by simp at h⟩
 |_,_,_,.cons (b:=m) ⟨b,n,o⟩ t,.cons (b:=u) r q=>by
  subst n
  obtain rfl:u=Value.ref b:=r
  obtain ⟨cc,v,x⟩:=pairs_at I t q
  obtain ⟨k,y,p,_⟩:=I.tuple o
  obtain ⟨z,A,rfl,B,C⟩:=a9.two y
  refine ⟨(m.1,A)::cc,.cons ⟨rfl,C⟩ v,λj E e=>?_⟩
  cases j with
  |zero=>
   simp at e;subst e
   exact ⟨.ref b,by simp,b,z,rfl,p,kf B⟩
  |succ j=>
   obtain ⟨G,f,g⟩:=x j E (by simpa using e)
   exact ⟨G,by simpa using f,g⟩
def Lb (x:X.calm=true):il X (.type "dict") (λj H Q=>∃a d b,j=[.ref a]/\aP X.K H a d/\Pairs X.K H d b/\∀p,H p=none->Q (.ref p) (upd H p (.dK (ci [] b)))):=by
 intro k s N H j O Q I r h
 obtain ⟨a,d,b,rfl,y,l,q⟩:=h
 obtain ⟨u,rfl,z⟩:=PV r
 cases z
 obtain ⟨A,m,⟨o,n,B,e,f,c⟩,T⟩:=I.list y
 obtain ⟨cc,t,C⟩:=pairs_at I l m
 have v:b.length=cc.length:=Nr t
 have E:d.length=b.length:=Nr l
 have G:=m.length
 refine JE (knd:=du X.prog X.w) (I.ok.hd x) B e f c (by simp;omega) C Z4 λU J g L=>?_
 have M:=KV.merge (kvs:=[]) (vs:=[]) t .nil
 have i:=vw b []
 refine ⟨.ref s.heap.objs.size,_,I.laid (a:=s.heap.objs.size) (o:=.dK<|ci [] b) (t':=J) L (LF _)<|uh (by simp at i;omega) (ML.mpr<|MC<|Mf I.rM) M g,rfl,q _<|I.az.fresh<|LF _⟩
end
end FL
namespace FL
open PySem L2
def Walk (wi:TI)(G:Hp)(σ:St)(ds:List D):Prop:=∀M H,ab G (but H M)->ap M H->∀R:It->Hp->Prop,
 (∀J H1,ab H H1->(∀(j:Nat) d M' H',ds[j]?=some d->ab (but H1 M) (but H' M')->ap M' H'->J.go j H'/\∀x H'',J.on j H' x H''->ab H' H''/\al (but H'' M') x d)->(∀M' H',ab (but H1 M) (but H' M')->J.stop ds.length H')->R J H1)->wi σ H R
section
variable {G:Hp}{σ:St}{ta tb tl te:TE}{tt:TT}{t:TA}{d:D}{ds:List D}{K:PySem.W.Frag}{wi:TI}
def Cf (h:ae tl G σ (.lst ds)):Walk (kg K tl) G σ ds:=λM H s l R k=>h M H s l _ λx o p q=>by
 obtain ⟨a,b,rfl,g,i⟩:=q.d7
 refine ⟨a,rfl,⟨b,aP.of (ax g).2⟩,k _ o p (λj d r u w c C=>?_) λr u c=>?_⟩
 .have f:=(ax<|c _ _ g).2
  obtain ⟨v,m,y⟩:=i.get w
  refine ⟨⟨b,v,aP.of f,m⟩,λx z A=>?_⟩
  obtain ⟨e,B⟩:=A
  subst e
  have n:=B b<|aP.of f
  rw [m] at n;cases n
  exact ⟨ab.refl _,y.mono c⟩
 .have f:=(ax<|c _ _ g).2
  exact ⟨b,aP.of f,by rw [i.length];exact LF _⟩
def GZ (h:ae tl G σ (.tup ds)):Walk (lN K tl) G σ ds:=λM H s l R k=>h M H s l _ λx o p q=>by
 obtain ⟨a,b,rfl,g,i⟩:=q.fe
 refine ⟨a,rfl,⟨b,bq.of (ax g).2⟩,k _ o p (λj d r u w c C=>?_) λr u c=>?_⟩
 .have f:=(ax<|c _ _ g).2
  obtain ⟨v,m,y⟩:=i.get w
  refine ⟨⟨b,v,bq.of f,m⟩,λx z A=>?_⟩
  obtain ⟨e,B⟩:=A
  subst e
  have n:=B b<|bq.of f
  rw [m] at n;cases n
  exact ⟨ab.refl _,y.mono c⟩
 .have f:=(ax<|c _ _ g).2
  exact ⟨b,bq.of f,by rw [i.length];exact LF _⟩
def nE (lo:Int)(n j:Nat)(d:D)(h:((List.range n).map λ(k:Nat)=>D.int (lo+k))[j]?=some d):j<n/\d=.int (lo+j):=by
 rw [LO] at h
 cases e:(List.range n)[j]? with
 |none=>rw [e] at h;cases h
 |some q=>
  rw [e] at h
  obtain ⟨a,b⟩:=Lx.mp e
  simp at a b
  subst b
  exact ⟨a,(LQ h).symm⟩
def CN {n:Nat}(u:n<2^62)(h:d8 t G σ [.int n]):Walk (wJ t) G σ ((List.range n).map λ(k:Nat)=>D.int (0+k)):=λM H s l R k=>h M H s l _ λv a b c=>by
 obtain ⟨x,rfl,f⟩:=iu c
 refine ⟨(n:Int),by rw [f.eC],by omega,by omega,?_⟩
 refine k _ a b (λj d g i m o w=>?_) λg i o=>?_
 .obtain ⟨y,rfl⟩:=nE 0 n j d m
  refine ⟨by show j<((n:Int)).toNat;omega,λx p q=>?_⟩
  obtain ⟨e,r⟩:=q
  subst e;subst r
  exact ⟨ab.refl _,.int _⟩
 .show ((n:Int)).toNat<=_
  simp
def ir{H:Hp}{D:Addr}(h:H D=none)(s:ab H c):ab (but H M) (but c (D::M)):=λb o e=>by
 obtain ⟨f,a⟩:=ax e
 rw [bh]
 .exact s b o a
 .intro z
  rcases LK.mp z with rfl|z
  .rw [h] at a;cases a
  .exact f z
def gm{caps:St->St}{p:D->Bool}{f:D->D}(hw:Walk wi G σ ds)
  (ht:∀z v d,ab G z->d∈ds->al z v d->br tt z ((caps σ).set i (some v)) (p d))
  (he:∀z v d,ab G z->d∈ds->p d=true->al z v d->ae te z ((caps σ).set i (some v)) (f d)) (hz:ds.length<sizeLine):
  ae (iP wi caps (cv i) tt te) G σ (.lst ((ds.filter p).map f)):=λM H s l Q k=>hw M H s l _ λJ N O U A D T=>by
 have lf:D∉M:=(l.same O).fresh T
 have Y:ab G (but N M):=s.trans<|O.but M
 refine ⟨λj m τ q=>m=ds.length-j/\j<=ds.length/\(∀v,τ.set i (some v)=(caps σ).set i (some v))/\ab N q/\∃n,q D=some (.lst n)/\aC (but q (D::M)) n (((ds.take j).filter p).map f),
  ⟨ds.length,by simp,Mb _,λ_=>rfl,dr T _,[],aR,by simpa using aC.nil⟩,?_⟩
 rintro j m τ q ⟨rfl,hj,ac,C,n,r,E⟩
 have hs:ab (but N M) (but q (D::M)):=ir T C
 have hl:ap (D::M) q:=((l.same O).same C).cons r
 by_cases B:j<ds.length
 .have hd:ds[j]?=some ds[j]:=Ly B
  obtain ⟨go,gy⟩:=U j _ (D::M) q hd hs hl
  refine .inr ⟨go,λI g=>(∀v,I.set i (some v)=(caps σ).set i (some v))/\ab N g/\∃n,g D=some (.lst n)/\aC (but g (D::M)) n (((ds.take<|j+1).filter p).map f),
   λI g q0=>by obtain ⟨a,b,c⟩:=q0;exact ⟨ds.length-(j+1),by omega,rfl,B,a,b,c⟩,λx g hy=>?_⟩
  obtain ⟨w,rx⟩:=gy x g hy
  have hm:ds[j]∈ds:=NW B
  have sG:ab G (but g (D::M)):=Y.trans<|hs.trans<|w.but _
  have L:=hl.same w
  show tt (τ.set i<|some x) g _
  rw [ac x]
  have tk:(ds.take<|j+1).filter p=(ds.take j).filter p++(if p ds[j]=true then [ds[j]] else []):=by
   rw [Mm,hd,MX]
   congr 1
   by_cases y:p ds[j]=true
   .simp [y]
   .simp [y]
  refine ht _ x _ sG hm rx (D::M) g (ab.refl _) L _ λH4 u=>?_
  have h:∀v,((caps σ).set i<|some x).set i (some v)=(caps σ).set i (some v):=λv=>by rw [Qs]
  by_cases y:p ds[j]=true
  .rw [LJ y]
   refine he _ x _ (sG.trans<|u.but _) hm y (rx.mono<|u.but _) (D::M) H4 (ab.refl _) (L.same u) _ λv H5 s5 r5=>?_
   have af:H5 D=some (.lst n):=s5 _ _<|u _ _<|w _ _ r
   have aj:=E.length
   have am:(((ds.take j).filter p).map f).length<=j:=by
    rw [LA]
    have:=Ml p<|ds.take j
    rw [Mr] at this
    omega
   refine ⟨n,af,by omega,h,?_,n++[v],aR,?_⟩
   .intro b o e
    rw [aA<|da e T]
    exact s5 _ _<|u _ _<|w _ _<|C _ _ e
   .rw [dD Lz,tk,LJ y,Me]
    exact (E.mono<|((w.trans u).trans s5).but _).snoc r5
  .rw [LG y]
   refine ⟨h,C.trans<|w.trans u,n,u _ _<|w _ _ r,?_⟩
   rw [tk,LG y,Mi]
   exact E.mono<|(w.trans u).but _
 .have e:j=ds.length:=by omega
  subst e
  refine .inl ⟨A (D::M) q hs,k _ q (O.trans C)<|mC lf r ?_⟩
  rw [Mh<|LF _] at E
  exact E
def Hs {xs:List V}(k:Nat):gQ xs (some (k:Int)) none=xs.drop k:=by
 unfold gQ
 rw [HT.qt,HT.CC]
 by_cases h:k<=xs.length
 .rw [N8 h,Mh Z8]
 .rw [OU Z4,N4 (LF _),N4 Z4,Qq]
def C6 {xs:List V}(k:Nat):gQ xs none (some (k:Int))=xs.take k:=by
 unfold gQ
 rw [HT.qt,HT.CC,List.drop_zero,Qt]
 by_cases h:k<=xs.length
 .rw [N8 h]
 .rw [OU Z4,Mh (LF _),Mh Z4]
def tw {k:Nat}{l:ZZ}(hk:0<k)(hl:0<l.length)(ha:ae ta G σ (.tup l)):ae (ve (zN K) ta (qZ (tC (.int (k:Int)))) x6) G σ (.tup (l.drop k)):=
 λM H s lv Q q=>ha M H s lv _ λx H1 s1 rx=>⟨(k:Int),rfl,by
  obtain ⟨a,vs,rfl,h1,h2⟩:=rx.fe
  refine ⟨a,vs,rfl,bq.of (ax h1).2,?_,λp hp=>?_⟩
  .rw [HT.qt]
   have:=h2.length
   omega
  .rw [Hs]
   exact q _ _ (s1.trans (dr hp _)) (nu (lv.same s1) hp (h2.drop k))⟩
def IU {b:ZZ}(a:∀e∈b,cn e d=true/\e.cI<=40)(c:ae ta G σ d)(f:ae tb G σ (.tup b)):ae (bY (sE false) ta tb) G σ (.bl (decide (d∈b))):=
 jU (λM H x y l g h Q k=>⟨M,d,b,g,.inr h,a,k _ H (ab.refl _) (.bl _)⟩) c f
def zH {es:ZZ}(a:∀e∈es,cn e d=true/\e.cI<=40)(b:ae ta G σ d)(c:ae tb G σ (.lst es)):ae (bY (sE true) ta tb) G σ (.bl (!decide (d∈es))):=
 jU (λM H x y l f g Q k=>⟨M,d,es,f,.inl g,a,k _ H (ab.refl _) (.bl _)⟩) b c
end
def gJ{g:TG}{E:Ends}(z:Walk t (but H M) r ds)(l:ap M H)
  (k:∀i,ab H i->∃Pv:Nat->St->Hp->Prop,Pv 0 r i/\(∀j a b,Pv j a b->ab (but i M) (but b M)/\ap M b)/\
   (∀(j:Nat) d x a b c,ds[j]?=some d->Pv j a b->ab b c->al (but c M) x d->g x a c λn v=>u {E with nx:=Pv (j+1),ct:=Pv (j+1),bk:=E.nx} n v)/\∀a b,Pv ds.length a b->E.nx a b):
  mK t g u E r H:=z M H (ab.refl _) l _ λJ i A s f=>by
 obtain ⟨Pv,B,C,h,o⟩:=k i A
 refine ⟨λj m a b=>m=ds.length-j/\j<=ds.length/\Pv j a b,⟨ds.length,by simp,Mb _,B⟩,?_⟩
 rintro j m a b ⟨rfl,U,p⟩
 obtain ⟨w,G⟩:=C j a b p
 by_cases q:j<ds.length
 .have y:ds[j]?=some ds[j]:=Ly q
  obtain ⟨I,L⟩:=s j _ M b y w G
  refine .inr ⟨I,Pv<|j+1,λn v N=>⟨ds.length-(j+1),by omega,rfl,q,N⟩,λx c O=>?_⟩
  obtain ⟨Q,T⟩:=L x c O
  exact h j _ x a b c y p Q T
 .have e:j=ds.length:=by omega
  subst e
  exact .inl ⟨f M b w,o a b p⟩
def aY (idx:List Nat)(k:Nat):St->St:=λσ=>idx.map (λj=>(σ[j]?).join)++List.replicate k none
def nv (N N':List Str)(names:List (Str×NameKind)):List Nat->Nat->Bool
 |[],_=>true
 |j::r,i=>(match N'[i]?,N[j]? with|some x,some y=>decide (x=y)&&(names.lookup x==some .free)|_,_=>false)&&nv N N' names r (i+1)
theorem x8:∀{c:List Nat} {d:Nat},nv N f a c d=true->∀(i j:Nat),c[i]?=some j->∃x,f[d+i]?=some x/\N[j]?=some x/\a.lookup x=some .free
 |[],_,_,i,j,h=>by simp at h
 |q::r,d,g,i,j,h=>by
  rw [nv,MD] at g
  cases i with
  |zero=>
   simp at h;subst h
   have b:=g.1
   cases e:f[d]? with
   |none=>rw [e] at b;cases b
   |some x=>
    cases l:N[q]? with
    |none=>rw [e,l] at b;cases b
    |some y=>
     rw [e,l] at b
     simp only [MD,Nk,OC] at b
     obtain ⟨rfl,k⟩:=b
     exact ⟨x,by simpa using e,rfl,k⟩
  |succ i=>
   obtain ⟨x,b,k,m⟩:=x8 g.2 i j (by simpa using h)
   exact ⟨x,by rw [<-b];congr 1;omega,k,m⟩
def BG{f:ZY}{a:List Nat}(m:f.length=a.length+k)(n:nv N f b a 0=true):∀d:St,d.length=N.length->
  (aY a k d).length=f.length/\∀(i:Nat) (x:Str) (v:V),f[i]?=some x->(aY a k d)[i]?=some (some v)->b.lookup x=some .free/\∃j:Nat,N[j]?=some x/\d[j]?=some (some v):=by
 intro d o
 refine ⟨by simp [aY,m],λi x v p c=>?_⟩
 unfold aY at c
 by_cases g:i<a.length
 .rw [LZ (by simpa using g),LO,Ly g] at c
  obtain ⟨y,h,l,q⟩:=x8 n i a[i]<|Ly g
  rw [MY,p] at h
  cases h
  refine ⟨q,a[i],l,?_⟩
  simp only [Oy,Option.some.injEq] at c
  cases e:d[a[i]]? with
  |none=>rw [e] at c;cases c
  |some w=>rw [e] at c;simp at c;rw [c]
 .rw [Ma (by simpa using g)] at c
  obtain ⟨h,l⟩:=Lx.mp c
  simp at l
def sq (esc:Scope)(scope:Scope):Bool:=
 (scope.names.all λy=>decide (y.2≠.cell))&&(scope.names.all λy=> !(y.2==.local)||(scope.names.lookup y.1==some .local))&&(scope.names.all λy=> !(y.2==.free)||(esc.names.lookup y.1==some .cell)||(esc.names.lookup y.1==some .free))
def yJ(h:sq b a=true):(∀y∈a.names,y.2≠.cell)/\(∀y∈a.names,y.2=.local->a.names.lookup y.1=some .local)/\
  ∀n,(n,NameKind.free)∈a.names->b.names.lookup n=some .cell\/b.names.lookup n=some .free:=by
 rw [sq,MD,MD,NV,NV,NV] at h
 obtain ⟨⟨d,f⟩,g⟩:=h
 refine ⟨λy c=>LW<|d y c,λy c e=>?_,λn i=>?_⟩
 .have:=f y c
  rw [e] at this
  simpa using this
 .have:=g _ i
  simpa using this
section
variable {X:Cx}{tg iter elt:Expr}{ifs:List Expr}{scope:Scope}{pos:Pos}{wi:TI}{g:TG}{tt:TT}{te:TE}
def fM (c:ZY)(a:List Nat)(k:Nat)(m:PI X tg iter wi)(n:∀d C e s H,PG (bD X c scope d C e s H) tg g)(f:∀d C e s H,lU (bD X c scope d C e s H) ifs tt)(i:∀d C e s H,PE (bD X c scope d C e s H) elt te)
  (o:X.calm=true:=by rfl) (b:scope.kind=.function:=by rfl) (j:sq X.env.scope scope=true:=by rfl) (p:c.length=a.length+k:=by rfl) (l:nv X.N c scope.names a 0=true:=by rfl)
  (q:∀x,foldedSetIterable iter X.env x=pure x:=by intro _;rfl):PE X (.ListComp elt [⟨tg,iter,ifs,0⟩] scope pos) (iP wi (aY a k) g tt te):=
 let h:=yJ j
 ET o b h.1 h.2.1 h.2.2 (BG p l) m n f i q
def qI{a:Pos}{i:Nat}(d:ZY)(b:List Nat)(k:Nat)(r:X.N.Nodup)(j:X.N[i]?=some y)(t:Loc X.env.scope y)(u:PI X tg iter wi)(v:∀e C f s H,PG (bD X d scope e C f s H) tg g)(l:∀e C f s H,lU (bD X d scope e C f s H) ifs tt)(m:∀e C f s H,PE (bD X d scope e C f s H) elt te)
  (n:swapsWith (.ListComp elt [⟨tg,iter,ifs,0⟩] scope pos) (some (.Name y q)) a.line X.env=pure true:=by rfl)
  (w:X.calm=true:=by rfl) (c:scope.kind=.function:=by rfl) (o:sq X.env.scope scope=true:=by rfl) (z:d.length=b.length+k:=by rfl) (p:nv X.N d scope.names b 0=true:=by rfl)
  (A:∀x,foldedSetIterable iter X.env x=pure x:=by intro _;rfl) (B:X.fn y=true\/X.env.scope.names.lookup y=some .local:=by first|exact .inl rfl|exact .inr rfl|assumption):
  PS X (.Assign [.Name y q] (.ListComp elt [⟨tg,iter,ifs,0⟩] scope pos) a) (eY (iP wi (aY b k) g tt te) (cv i)):=
 let h:=yJ o
 HN n r j t w c h.1 h.2.1 h.2.2 (BG z p) u v l m A B
end
end FL
namespace FL
open PySem L2
def D.z0:D->String
 |.av=>"NoneType"|.bl _=>"bool"|.int _=>"int"|.str _=>"str"|.tup _=>"tuple"|.lst _=>"list"
def GW{K:W.Frag}(r:al (but H M) x d):gq K H x (.type d.z0):=by
 cases r with
 |av=>exact .av
 |bl b=>exact .bl b
 |int b=>exact .int b
 |str b=>exact .str b
 |tup h _=>exact .tup (ax h).2
 |lst h _=>exact .lst (ax h).2
def ji (K:PySem.W.Frag):List V->Hp->VK->Prop:=λxs H Q=>∃x n t b,xs=[x,.ty n]/\gq K H x t/\PySem.W.kitOne K t (.type n)=some b/\Q (.bl b) H
def Kp:il X (.builtin "isinstance") (ji X.K):=by
 intro c s g H i j Q I r h
 obtain ⟨x,n,t,b,rfl,d,e,q⟩:=h
 obtain ⟨u,w,rfl,f,a⟩:=vals2 r
 cases a
 exact IX I f d e λk=>⟨.bl b,H,I.tok _,rfl,q⟩
def JM (K:W.Frag)(a b:String):W.kitOne K (.type a) (.type b)=W.kitOne [] (.type a) (.type b):=rfl
section
variable {G:Hp}{σ:St}{ta:TE}{d:D}{K:PySem.W.Frag}
def lI(h:ae ta G σ d)(a:W.kitOne [] (.type d.z0) (.type n)=some b):ae (cD (ji K) (bo ta (bo (tC (.ty n)) bA))) G σ (.bl b):=
 λM H s l Q k=>h M H s l _ λx c e f=>⟨x,n,_,b,rfl,GW f,by rw [JM];exact a,k _ c e (.bl b)⟩
def yW:D->Bool
 |.int _=>true|.bl _=>true|_=>false
def Bq:D->Bool
 |.bl _=>true|_=>false
def tJ:D->Bool
 |.str _=>true|_=>false
def Ew:D->Bool
 |.tup _=>true|_=>false
def JY:D->Bool
 |.lst _=>true|_=>false
def oC (h:ae ta G σ d):ae (cD (ji K) (bo ta (bo (tC (.ty "int")) bA))) G σ (.bl (yW d)):=by
 cases d with
 |bl _=>exact lI h rfl
 |int _=>exact lI h rfl
 |_=>exact lI h rfl
def Ef (h:ae ta G σ d):ae (cD (ji K) (bo ta (bo (tC (.ty "bool")) bA))) G σ (.bl (Bq d)):=by
 cases d<;>exact lI h rfl
def jO (h:ae ta G σ d):ae (cD (ji K) (bo ta (bo (tC (.ty "str")) bA))) G σ (.bl (tJ d)):=by
 cases d<;>exact lI h rfl
def qa (h:ae ta G σ d):ae (cD (ji K) (bo ta (bo (tC (.ty "tuple")) bA))) G σ (.bl (Ew d)):=by
 cases d<;>exact lI h rfl
def Bm (h:ae ta G σ d):ae (cD (ji K) (bo ta (bo (tC (.ty "list")) bA))) G σ (.bl (JY d)):=by
 cases d<;>exact lI h rfl
end
end FL
namespace FL
open PySem L2
structure aV (P:Program)(w:World)(K:PySem.W.Frag)(mg:Str->Option Value)(base:Heap)(n:Nat)(x:Str)(ps:List Str)(sp:Sp):Prop where
 ex:∃f fd,bp P w K mg base bz n f fd ps sp/\Binds K fd ps []/\PySem.W.keepIn K (.ref f)=true/\mg x=some (.ref f)
def bG{X:Cx}(h:aV X.prog X.w X.K X.mg X.base n x l j)(o:cS m X.A)(q:PA X (e::a) t)(d:n<=m:=by decide)
  (r:Gl X x:=by rfl) (g:(x==("__debug__":Str))=false:=by decide) (s:starEach (e::a) X.env=(false,eval e X.env)::starEach a X.env:=by rfl) (i:(backTo c (starEach a X.env)).any (·.1)=false:=by rfl):
  PE X (.Call (.Name x p) (e::a) [] c) (iF j [] E0 t):=by
 obtain ⟨f,v,F,b,k,u⟩:=h.ex
 exact IL (F.mono d) o r u k b .nil rW q g s i
structure Bl (mg:Str->Option Value):Prop where
 len:mg "len"=none
 isinstance:mg "isinstance"=none
 range:mg "range"=none
 int:mg "int"=none
 str:mg "str"=none
 bool:mg "bool"=none
 list:mg "list"=none
 tuple:mg "tuple"=none
 dict:mg "dict"=none
 zip:mg "zip"=none
 enumerate:mg "enumerate"=none
 all:mg "all"=none
 reversed:mg "reversed"=none
section
variable {X:Cx}{e:Expr}{es:List Expr}{t:TA}{te:TE}{tg iter:Expr}{p pos:Pos}
def HQ(h:PI X tg iter c)(f:PI X tg iter d):PI X tg iter (λb H R=>c b H R\/d b H R):=by
 intro a s b H R I q
 rcases q with q|q
 .exact h a s b H R I q
 .exact f a s b H R I q
def cq (h:PE X iter te):PI X tg iter (λa H R=>kg X.K te a H R\/lN X.K te a H R):=HQ (KU h)<|J2 h
def cY (B:Bl X.mg)(h:PE X e te)(c:Gl X "len":=by rfl)(b:starEach [e] X.env=(false,eval e X.env)::starEach [] X.env:=by rfl):PE X (.Call (.Name "len" p) [e] [] pos) (cD (λd H Q=>∃p a,d=[.ref p]/\(aP X.K H p a\/bq X.K H p a)/\Q (.int a.length) H) (bo te bA)):=
 oM Gr c B.len PySem.boot_len (ai h aw b) (he:=b)
def gg(B:Bl X.mg)(h:PE X e te)(f:X.mg x=none)(g:bootBuiltins x=some (.type n))(i:Gl X "isinstance":=by rfl)(c:Gl X x:=by rfl)(j:x≠"__name__":=by decide)(k:(x==("__debug__":Str))=false:=by decide)
  (d:starEach [e,.Name x a] X.env=(false,eval e X.env)::starEach [.Name x a] X.env:=by rfl) (b:starEach [.Name x a] X.env=(false,eval (.Name x a) X.env)::starEach [] X.env:=by rfl):
  PE X (.Call (.Name "isinstance" p) [e,.Name x a] [] pos) (cD (ji X.K) (bo te (bo (tC (.ty n)) bA))):=
 oM Kp i B.isinstance PyProof.Rows.boot_isinstance (ai h (ai (EC (v:=.ty n) c f g rfl j k) aw b) d) (he:=d) (hpl:=by rw [b];rfl)
def sV (B:Bl X.mg)(h:PE X e te)(c:Gl X "tuple":=by rfl)(b:starEach [e] X.env=(false,eval e X.env)::starEach [] X.env:=by rfl):PE X (.Call (.Name "tuple" p) [e] [] pos)
  (cD (λd H Q=>∃p a,d=[.ref p]/\((aP X.K H p a/\∀l,H l=none->Q (.ref l) (upd H l (.tup a)))\/(bq X.K H p a/\Q (.ref p) H))) (bo te bA)):=
 qd DS c B.tuple M3 (ai h aw b) (he:=b)
def yB (B:Bl X.mg)(h:PE X e te)(c:Gl X "list":=by rfl)(b:starEach [e] X.env=(false,eval e X.env)::starEach [] X.env:=by rfl):PE X (.Call (.Name "list" p) [e] [] pos)
  (cD (λd H Q=>∃p a,d=[.ref p]/\(aP X.K H p a\/bq X.K H p a)/\∀l,H l=none->Q (.ref l) (upd H l (.lst a))) (bo te bA)):=
 qd Lp c B.list N5 (ai h aw b) (he:=b)
def vR (B:Bl X.mg)(h:PE X e te)(f:X.calm=true:=by rfl)(g:Gl X "dict":=by rfl)(c:starEach [e] X.env=(false,eval e X.env)::starEach [] X.env:=by rfl):PE X (.Call (.Name "dict" p) [e] [] pos)
  (cD (λi H Q=>∃a d b,i=[.ref a]/\aP X.K H a d/\Pairs X.K H d b/\∀p,H p=none->Q (.ref p) (upd H p (.dK (ci [] b)))) (bo te bA)):=
 qd (Lb f) g B.dict P9 (ai h aw c) (he:=c)
def bg(f:PE X a c)(g:PE X b d)(h:qT b:=by intro _ _;rfl):PE X (.Subscript a b pos) (bY (gf X.K) c d):=FY Lr f g h
def fC (a:X.A.units+50<cLine):cK X (compareOp .Eq) (λx y H Q=>sD x y H Q\/ua x y H Q):=(GJ a).or Ai
def ij (a:X.A.units+50<cLine):cK X (compareOp .NotEq) (λx y H Q=>pf x y H Q\/oY x y H Q):=(G6 a).or Bn
def jY{b d:Pos}(l:PE X o j)(h:PE X e te)(k:starEach [e] X.env=(false,eval e X.env)::starEach [] X.env:=by rfl)(f:attributeBase o "append" X.env (eval o X.env)=eval o X.env:=by rfl)
  (i:((backTo a (starEach [e] X.env)).all (λx=> !x.1)&&(backToKw a (keywordEach [] X.env)).all (λx=>x.1.isSome)&&decide ([e].length+([]:List Keyword).length+(if ([]:List Keyword).isEmpty then 0 else 1)<30))=true:=by rfl)
  (g:(b.endLine==a.line)=true:=by rfl) (c:(backTo a (starEach [] X.env)).any (·.1)=false:=by rfl) (m:swapsWith (.Call (.Attribute o "append" b) [e] [] a) none d.line X.env=pure false:=by rfl):
  PS X (.Expr (.Call (.Attribute o "append" b) [e] [] a) d) (ln (ny X.K "list" nI j (bo te bA))):=
 jv (vt NR PySem.F.slot_list_append PySem.F.type_list_append yF l (ai h aw k) f i g k c) m
end
section
variable {X:Cx}{N':List Str}{scope:Scope}{cl:List (Str×Addr)}{C:Addr}{fp:List Addr}{s:Shared}{H:Hp}{e a b:Expr}{te ta tb:TE}{p pos:Pos}
def nW (c:PE (bD X N' scope cl C fp s H) a ta)(d:PE (bD X N' scope cl C fp s H) b tb)(f:qT b:=by intro _ _;rfl):PE (bD X N' scope cl C fp s H) (.Subscript a b pos) (bY (gf X.K) ta tb):=bg c d f
def vO(f:X.calm=true)(h:p7 (bD X N' scope cl C fp s H) c t)(g:(assignEach c (bD X N' scope cl C fp s H).env).length=n:=by rfl)(d:(assignEach c (bD X N' scope cl C fp s H).env).findIdx? (·.1)=none:=by rfl):
  PG (bD X N' scope cl C fp s H) (.Tuple c k pos) (nK X.K n t):=mZ (X:=bD X N' scope cl C fp s H) f h g d
end
section
variable {G:Hp}{σ:St}{ta tb te:TE}{d:D}{ds:List D}{K:PySem.W.Frag}
def cN(h:dO ds i=some d)(e:ae ta G σ (.lst ds))(f:ae tb G σ (.int i)):ae (bY (gf K) ta tb) G σ d:=
 λM H s l Q k=>e M H s l _ λx g b j=>f M g (s.trans<|b.but M) (l.same b) _ λy m c n=>by
  obtain ⟨a,o,rfl,p,q⟩:=(j.mono<|c.but M).d7
  obtain ⟨v,r,t⟩:=BM q h
  exact .inl ⟨a,o,i,v,rfl,n.eC,aP.of (ax p).2,r,k v m (b.trans c) t⟩
def b9(h:dO ds i=some d)(e:ae ta G σ (.tup ds))(f:ae tb G σ (.int i)):ae (bY (gf K) ta tb) G σ d:=
 λM H s l Q k=>e M H s l _ λx g b j=>f M g (s.trans<|b.but M) (l.same b) _ λy m c n=>by
  obtain ⟨a,o,rfl,p,q⟩:=(j.mono<|c.but M).fe
  obtain ⟨v,r,t⟩:=BM q h
  exact .inr (.inl ⟨a,o,i,v,rfl,n.eC,bq.of (ax p).2,r,k v m (b.trans c) t⟩)
def lL(a:cn d1 d2=true)(b:d1.cI<=40)(c:ae ta G σ d1)(e:ae tb G σ d2):ae (bY (λx y H Q=>sD x y H Q\/ua x y H Q) ta tb) G σ (.bl (decide (d1=d2))):=
 jU (λM H x y l f g Q k=>.inl ⟨d1,d2,⟨M,f,g,a,b⟩,k _ H (ab.refl _) (.bl _)⟩) c e
def nl(a:cn d1 d2=true)(b:d1.cI<=40)(c:ae ta G σ d1)(e:ae tb G σ d2):ae (bY (λx y H Q=>pf x y H Q\/oY x y H Q) ta tb) G σ (.bl (!decide (d1=d2))):=
 jU (λM H x y l f g Q k=>.inl ⟨d1,d2,⟨M,f,g,a,b⟩,k _ H (ab.refl _) (.bl _)⟩) c e
def iL(a:ae ta G σ (.int i))(b:ae tb G σ (.int j)):ae (bY (λx y H Q=>sD x y H Q\/ua x y H Q) ta tb) G σ (.bl (decide (i=j))):=
 (lL rfl (Mb _) a b).eq Z8
def nC(a:ae ta G σ (.int i))(b:ae tb G σ (.int j)):ae (bY (λx y H Q=>pf x y H Q\/oY x y H Q) ta tb) G σ (.bl (!decide (i=j))):=
 (nl rfl (Mb _) a b).eq Z8
def dG (h:ae te G σ (.lst ds)):Walk (λσ H R=>kg K te σ H R\/lN K te σ H R) G σ ds:=λM H s l R k=>.inl<|Cf h M H s l R k
def jI (h:ae te G σ (.tup ds)):Walk (λσ H R=>kg K te σ H R\/lN K te σ H R) G σ ds:=λM H s l R k=>.inr<|GZ h M H s l R k
def EQ{E:Ends}{i:Nat}(l:ap M H)(e:σ[i]?=some (some (.ref a)))(f:H a=some (.lst b))(g:b.length<sizeLine)(h:ae te (but H M) σ d)
  (k:∀v c,ab H c->al (but c M) v d->E.nx σ (upd c a (.lst (b++[v])))):ln (ny K "list" nI (aW i) (bo te bA)) E σ H:=
 ⟨.ref a,e,(show gX K "list" (.ref a) H from .inl ⟨rfl,b,aP.of f⟩),h.at l λv c s r=>⟨a,b,v,rfl,rfl,s _ _ f,g,k v c s r⟩⟩
end
def ox(b:0<=i)(h:l[i.toNat]?=some x):dO l i=some x:=by
 have:i=((i.toNat:Nat):Int):=by omega
 rw [this]
 exact qK h
end FL
namespace FL
open PySem L2
abbrev Dn:=List (Option D)
structure ay (G:Hp)(σ:St)(δ:Dn):Prop where
 len:σ.length=δ.length
 get:∀(i:Nat) (d:D),δ[i]?=some (some d)->∃v,σ[i]?=some (some v)/\al G v d
theorem ay.mono(h:ay G f g)(e:ab G c):ay c f g:=⟨h.len,λi d q=>let ⟨v,a,b⟩:=h.get i d q;⟨v,a,b.mono e⟩⟩
def ay.same(h:ay (but H M) b c)(e:ab H a):ay (but a M) b c:=h.mono<|e.but M
theorem ay.set(h:ay G b a)(i:Nat)(r:al G v d):ay G (b.set i (some v)) (a.set i (some d)):=by
 refine ⟨by simp [h.len],λj e q=>?_⟩
 have g:=h.len
 by_cases c:i=j
 .subst c
  by_cases f:i<a.length
  .rw [LM f] at q
   cases q
   exact ⟨v,LM Z4,r⟩
  .rw [Mx (by simpa using Mp f)] at q;cases q
 .rw [LB c] at q⊢
  exact h.get j e q
def ay.off(h:ay G b a)(i:Nat)(o:Option V):ay G (b.set i o) (a.set i none):=by
 refine ⟨by simp [h.len],λj e q=>?_⟩
 by_cases c:i=j
 .subst c
  by_cases d:i<a.length
  .rw [LM d] at q;cases q
  .rw [Mx (by simpa using Mp d)] at q;cases q
 .rw [LB c] at q⊢
  exact h.get j e q
def ay.weak{a:Dn}(h:ay G c b)(e:a.length=b.length)(w:∀(i:Nat) (d:D),a[i]?=some (some d)->b[i]?=some (some d)):ay G c a:=
 ⟨h.len.trans e.symm,λi d q=>h.get i d<|w i d q⟩
section
variable {G:Hp}{σ:St}{δ:Dn}{d:D}{b:Bool}{M:List Addr}{H:Hp}{ta:TE}{tt:TT}{E:Ends}
def aG {i:Nat}(h:ay G σ δ)(e:δ[i]?=some (some d)):ae (aW i) G σ d:=let ⟨v,a,r⟩:=h.get i d e;cH a r
def za(l:ap M H)(e:ay (but H M) σ δ)(h:ae ta (but H M) σ d)(k:∀c a,ab H a->ap M a->ay (but a M) c (δ.set i (some d))->E.nx c a):eY ta (cv i) E σ H:=
 h.at l λv a s r=>k _ a s (l.same s)<|(e.same s).set i r
def eA (l:ap M H)(h:ae ta (but H M) σ d)(k:∀v a,ab H a->al (but a M) v d->E.rt v a):o0 ta E σ H:=h.at l k
def im {c f:TS}(l:ap M H)(g:ay (but H M) σ δ)(h:br tt (but H M) σ b)(i:b=true->∀a,ab H a->ap M a->ay (but a M) σ δ->c E σ a)(j:b=false->∀a,ab H a->ap M a->ay (but a M) σ δ->f E σ a):lQ tt c f E σ H:=
 Bf l h (λe a s=>i e a s (l.same s)<|g.same s) (λe a s=>j e a s (l.same s)<|g.same s)
end
def ay.drop(h:ay G b a)(i:Nat):ay G b (a.set i none):=
 h.weak Z8 λj d q=>by
  by_cases c:i=j
  .subst c
   by_cases e:i<a.length
   .rw [LM e] at q;cases q
   .rw [Mx (by simpa using Mp e)] at q;cases q
  .rw [LB c] at q;exact q
theorem nx{E:Ends}(h:E.nx a H):sv E a H:=h
def gH {G:Hp}{vs:List V}{ds:ZZ}(h:aC G vs ds)(N:ZY):ay G (L2.start N vs) (ds.map some++List.replicate (N.length-ds.length) none):=by
 refine ⟨by simp [L2.start,h.length],λi d q=>?_⟩
 have hl:=h.length
 unfold L2.start
 by_cases hi:i<ds.length
 .rw [LZ (by simpa using hi),LO] at q
  cases e:ds[i]? with
  |none=>rw [e] at q;cases q
  |some d'=>
   rw [e] at q
   cases q
   obtain ⟨v,h1,h2⟩:=h.get e
   exact ⟨v,by rw [LZ (by simpa using (by omega:i<vs.length)),LO,h1];rfl,h2⟩
 .rw [Ma (by simpa using Mp hi)] at q
  obtain ⟨h1,h2⟩:=Lx.mp q
  simp at h2
def dR(a:cS k A):A.units+50<cLine:=by have:=a.units;omega
def fu {a b:D}(d:a.sc=true)(c:b.sc=true):cn a b=true/\a.cI<=40:=by
 cases a with
 |int i=>cases b<;>first|exact ⟨rfl,Mb _⟩|exact absurd c (by simp [D.sc])
 |str i=>cases b<;>first|exact ⟨rfl,Mb _⟩|exact absurd c (by simp [D.sc])
 |_=>exact absurd d (by simp [D.sc])
def tL (K:PySem.W.Frag):Sp:=λvs H Q _=>∃(a:Addr) (ns:List Int),vs=[.ref a]/\aP K H a (ns.map V.int)/\ns.length<=63/\∀H',Q (.bl true) H'
def Hy {a:List Int}(h:a.length<=63):gQ (a.map V.int) none (some 500)=a.map V.int:=by
 have:=C6 (xs:=a.map V.int) 500
 rw [Mh (by simp;omega)] at this
 exact this
def Hj {H:Hp}{p:Addr}{ns:List Int}(N:ZY)(a:Addr)(n:Nat)(hN:N.length=n+1):ay (but (upd H p (.lst (ns.map V.int))) []) ((L2.start N [.ref a]).set 0 (some (.ref p))) (some (.lst (ns.map D.int))::List.replicate n none):=by
 have h0:ay (but (upd H p (.lst (ns.map V.int))) []) (L2.start N [.ref a]) (none::List.replicate n none):=by
  refine ⟨by simp [L2.start,hN],λi d q=>?_⟩
  obtain ⟨h1,h2⟩:=Lx.mp q
  have:(none::List.replicate n none:Dn)=List.replicate (n+1) none:=rfl
  rw [List.getElem_of_eq this] at h2
  simp at h2
 have r:al (but (upd H p (.lst (ns.map V.int))) []) (.ref p) (.lst (ns.map D.int)):=.lst (by rw [Ft];exact aR) (aC.ints ns)
 exact h0.set 0 r
def lJ (l:List D)(k:Int):D:=if k<l.length then l.getD k.toNat .av else .int 0
def JV (a:List Int)(k:Nat):lJ (a.map D.int) k=.int (a.getD k 0):=by
 unfold lJ
 by_cases h:k<a.length
 .rw [LJ (by simpa using h)]
  simp [List.getD,h]
 .rw [LG (by simpa using h)]
  have:a.getD k 0=0:=by simp [List.getD,Mx<|Mp h]
  rw [this]
end FL
namespace PySem
structure lK (prog:Program)(w:World)(i l:Addr)(St:Nat->Heap->Prop)(item:Nat->Option Value):Prop where
 here:∀k h,St k h->∃o vs,h.get? i=some o/\o.data=.fields vs
 keep:∀k h h',St k h->(∀o,h.get? i=some o->h'.get? i=some o)->(∀o,h.get? l=some o->h'.get? l=some o)->St k h'
 one:∀(A:Around) (E:Value->Shared->Prop) (k:Nat) (s:Shared) (x:Value) (Q:Value->Shared->Prop),St k s.heap->item k=some x->(∀h',St (k+1) h'->Heap.SameBut i s.heap h'->Q x {s with heap:=h'})->wpAny (model prog w) A (Builtin.SmallTypes.nextOf (.ref i)) Q E s
 over:∀(A:Around) (E:Value->Shared->Prop) (k:Nat) (s:Shared) (Q:Value->Shared->Prop),A.handled=none->St k s.heap->item k=none->(∀h' e,Heap.ExtBut i s.heap h'->(∃o,h'.get? e=some o/\o.cls=.type "StopIteration")->E (.ref e) {s with heap:=h'})->wpAny (model prog w) A (Builtin.SmallTypes.nextOf (.ref i)) Q E s
section
variable {prog:Program}{w:World}{A:Around}{E:Value->Shared->Prop}{s:Shared}
def Kq{Q:ZT}(b:s.heap.IsTupleIter c l i)(j:s.heap.IsTuple l a)(k:a[i]?=some x)
  (m:∀f,f.IsTupleIter c l (i+1)->Heap.SameBut c s.heap f->Q x {s with heap:=f}):wpAny (model prog w) A (Builtin.SmallTypes.nextOf (.ref c)) Q E s:=by
 obtain ⟨o,e,n,d⟩:=id b
 obtain ⟨p,g,_,q,h⟩:=j
 unfold Builtin.SmallTypes.nextOf
 refine Lw<|MN (name:=Str.ofString "__next__") b.typeIs Nw<|NP Nw b.typeIs Ph ?_ (Pa _)
 show wpAny _ _ (field (.ref c) 0>>=_) _ _ s
 refine Lw<|MH e d (x:=.ref l) rfl ?_
 show wpAny _ _ (if (Value.ref l==Value.none)=true then _ else _) _ _ s
 rw [LG (show¬((Value.ref l==Value.none)=true) from LI)]
 show wpAny _ _ (field (.ref c) 1>>=_) _ _ s
 refine Lw<|MH e d (x:=.int i 0) rfl ?_
 show wpAny _ _ (seqItems? (.ref l)>>=_) _ _ s
 refine Lw<|MJ g h ?_
 simp only [NC,k]
 refine Lw<|wpAny_setField e d Z8<|LN ⟨x,rfl,LN<|m _ ⟨_,Oa _ e<|Obj.isFreed_of_fields<|Obj.data_mapFields d _,(Obj.cls_mapFields ..).trans n,?_⟩<|NN ..⟩
 rw [Obj.data_mapFields d]
 simp [rawInt]
def Jj(n:A.handled=none)(c:s.heap.IsTupleIter d l i)(p:s.heap.IsTuple l b)(q:b[i]?=none)
  (r:∀f e,Heap.ExtBut d s.heap f->(∃o,f.get? e=some o/\o.cls=.type "StopIteration")->E (.ref e) {s with heap:=f}):wpAny (model prog w) A (Builtin.SmallTypes.nextOf (.ref d)) Q E s:=by
 obtain ⟨o,g,t,h⟩:=id c
 obtain ⟨u,j,_,v,k⟩:=p
 unfold Builtin.SmallTypes.nextOf
 refine Lw<|MN (name:=Str.ofString "__next__") c.typeIs Nw<|NP Nw c.typeIs Ph ?_ (Pa _)
 show wpAny _ _ (field (.ref d) 0>>=_) _ _ s
 refine Lw<|MH g h (x:=.ref l) rfl ?_
 show wpAny _ _ (if (Value.ref l==Value.none)=true then _ else _) _ _ s
 rw [LG (show¬((Value.ref l==Value.none)=true) from LI)]
 show wpAny _ _ (field (.ref d) 1>>=_) _ _ s
 refine Lw<|MH g h (x:=.int i 0) rfl ?_
 show wpAny _ _ (seqItems? (.ref l)>>=_) _ _ s
 refine Lw<|MJ j k ?_
 simp only [NC,q]
 refine Lw<|OD<|Lw<|wpAny_setField g h Z8 ?_
 show wpAny _ _ (newExc (.type "StopIteration") []>>=_) _ _ _
 refine Lw ?_
 simp only [newExc,newTuple]
 refine Lw<|M6 ?_ (by size_fits)
 refine Lw (m:=firstArgMember _ _)<|Qj (a:=Value.none) (by first|rfl|(simp only [firstArgMember];rfl)) ?_
 refine M6 ?_ (by size_fits)
 simp only [raiseNew]
 refine Lw<|wpAny_handled ?_
 first|rw [show A.in1.handled=none from n]|rw [n]
 exact Lw<|LN<|wpAny_throw<|r _ _ (((NN ..).extBut.push _).push _) ⟨_,L0 _ rfl,rfl⟩
def uM {i l:Addr}{xs:Array Value}:lK prog w i l (λk h=>h.IsTupleIter i l k/\h.IsTuple l xs/\l≠i) (λk=>xs[k]?) where
 here:=λk h q0=>by obtain ⟨⟨o,e,_,d⟩,_⟩:=q0;exact ⟨o,_,e,d⟩
 keep:=λk h h' q1 k1 k2=>by obtain ⟨⟨o,e,r⟩,⟨o2,e2,r2⟩,n⟩:=q1;exact ⟨⟨o,k1 _ e,r⟩,⟨o2,k2 _ e2,r2⟩,n⟩
 one:=λA E k s x Q q2 hx hq=>by obtain ⟨h1,h2,n⟩:=q2;exact Kq h1 h2 hx λh' a b=>hq h' ⟨a,h2.extBut b.extBut n,n⟩ b
 over:=λA E k s Q hh q3 hx hq=>by obtain ⟨h1,h2,n⟩:=q3;exact Jj hh h1 h2 hx λh' e a b=>hq h' e a b
variable {z TI TO i1 i2 l1 l2:Addr}{S1 S2:Nat->Heap->Prop}{it1 it2:Nat->Option Value}
structure lu (prog:Program)(w:World)(S1 S2:Nat->Heap->Prop)(z TI TO i1 i2 l1 l2:Addr)(f0:Value)(k:Nat)(h:Heap):Prop where
 zip:IsZip h z TI TO f0
 ins:IsPair h TI (.ref i1) (.ref i2)
 out:∃a b,IsPair h TO a b
 one:S1 k h
 two:S2 k h
def Dq{Q:ZT}(M:lK prog w i1 l1 S1 it1)(N:lK prog w i2 l2 S2 it2)(D:ZipApart z TI TO i1 i2 l1 l2)(Z:lu prog w S1 S2 z TI TO i1 i2 l1 l2 .none k s.heap)(hx:it1 k=some x)(hy:it2 k=some y)
  (hQ:∀O,lu prog w S1 S2 z TI TO i1 i2 l1 l2 (rawInt s.heap.objs.size) (k+1) O->IsPair O s.heap.objs.size x y->(∀c o,c≠z->c≠TO->c≠i1->c≠i2->s.heap.get? c=some o->O.get? c=some o)->Q (.ref s.heap.objs.size) {s with heap:=O}):
  wpAny (model prog w) A (Builtin.«zip.__next__» ⟨[.ref z],[]⟩) (λY s'=>∃v,Y=.done (.ret v)/\Q v s') E s:=by
 obtain ⟨C,G,⟨a,b,ac⟩,h1,h2⟩:=Z
 show wpAny _ _ (field (.ref z) 2>>=_) _ _ _
 refine Lw<|MH C rfl (x:=.bool false) rfl ?_
 show wpAny _ _ (field (.ref z) 3>>=_) _ _ _
 refine Lw<|MH C rfl (x:=.ref TI) rfl<|Lw<|MJ G rfl ?_
 show wpAny _ _ (Builtin.SmallTypes.ownedTupleIsFree (.ref z)>>=_) _ _ _
 unfold Builtin.SmallTypes.ownedTupleIsFree
 refine Lw<|Lw<|MH C rfl (x:=.none) rfl<|LN ?_
 simp only [Ox]
 refine Lw<|OD<|Lw<|MH C rfl (x:=.ref TO) rfl<|Lw<|N6 C Z8 λha l m=>?_
 replace l:IsZip ha z TI TO .ellipsis:=l
 refine Lw ?_
 simp only [Qk,List.zipIdx_nil,O7,List.forIn_nil]
 refine Lw<|Lw<|wpAny_onRaise ?_
 show wpAny _ _ (Builtin.SmallTypes.nextOf (.ref i1)>>=_) _ _ _
 have af:S1 k ha:=M.keep _ _ _ h1 (λo e=>m.extBut _ _ D.i1z e) λo e=>m.extBut _ _ D.l1z e
 refine Lw<|M.one _ _ k {s with heap:=ha} x _ af hx λhb aj u=>LN ?_
 have i:IsPair hb TO a b:=u.extBut _ _ D.TOi1<|m.extBut _ _ D.TOz ac
 refine Lw<|MJ i rfl<|Lw<|wpAny_updateSeq_pair i λhc g n=>?_
 replace g:IsPair hc TO x b:=g
 refine Lw<|Od<|LN<|Lw<|Lw<|wpAny_onRaise ?_
 show wpAny _ _ (Builtin.SmallTypes.nextOf (.ref i2)>>=_) _ _ _
 have am:S2 k hc:=N.keep _ _ _ h2 (λo e=>n.extBut _ _ D.TOi2.symm<|u.extBut _ _ D.i12.symm<|m.extBut _ _ D.i2z e) λo e=>n.extBut _ _ D.l2TO<|u.extBut _ _ D.l2i1<|m.extBut _ _ D.l2z e
 refine Lw<|N.one _ _ k {s with heap:=hc} y _ am hy λhd an B=>LN ?_
 have j:IsPair hd TO x b:=B.extBut _ _ D.TOi2 g
 refine Lw<|MJ j rfl<|Lw<|wpAny_updateSeq_pair j λd f p=>?_
 replace f:IsPair d TO x y:=f
 refine Lw<|Od<|LN<|LN<|Lw<|MJ f rfl<|Lw<|wpAny_newTuple ?_
 have H:d.objs.size=s.heap.objs.size:=by rw [p.1,B.1,n.1,u.1,m.1]
 have I:IsZip d z TI TO .ellipsis:=p.extBut _ _ D.TOz.symm<|B.extBut _ _ D.i2z.symm<|n.extBut _ _ D.TOz.symm<|u.extBut _ _ D.i1z.symm l
 have J:∀c o,c≠z->c≠TO->c≠i1->c≠i2->s.heap.get? c=some o->d.get? c=some o:=λc o q T c3 c4 e=>p.extBut _ _ T<|B.extBut _ _ c4<|n.extBut _ _ T<|u.extBut _ _ c3<|m.extBut _ _ q e
 have ao:S1 (k+1) d:=M.keep _ _ _ aj (λo e=>p.extBut _ _ D.TOi1.symm<|B.extBut _ _ D.i12<|n.extBut _ _ D.TOi1.symm e) λo e=>p.extBut _ _ D.l1TO<|B.extBut _ _ D.l1i2<|n.extBut _ _ D.l1TO e
 have as:S2 (k+1) d:=N.keep _ _ _ an (λo e=>p.extBut _ _ D.TOi2.symm e) λo e=>p.extBut _ _ D.l2TO e
 show wpAny _ _ (Builtin.SmallTypes.ownedTupleHandOut (.ref z) (.ref d.objs.size)>>=_) _ _ _
 unfold Builtin.SmallTypes.ownedTupleHandOut
 have a0:IsZip (d.push {cls:=.type "tuple",data:=.seq #[x,y]}) z TI TO .ellipsis:=LC _ I
 refine Lw<|Lw<|N6 a0 Z8 λhg r sg=>?_
 replace r:IsZip hg z TI TO (rawInt d.objs.size):=r
 refine N6 r Z8 λU h si=>?_
 replace h:IsZip U z TI TO (rawInt d.objs.size):=h
 have t:∀c o,c≠z->d.get? c=some o->U.get? c=some o:=λc o q e=>si.extBut _ _ q<|sg.extBut _ _ q<|LC _ e
 have L:d.objs.size≠z:=NY<|L1 I
 have hT:IsPair U d.objs.size x y:=si.extBut _ _ L<|sg.extBut _ _ L<|L0 _ rfl
 rw [H] at h hT
 refine LN ⟨_,rfl,?_⟩
 show Q (.ref d.objs.size) _
 rw [H]
 exact hQ U ⟨h,t _ _ D.TIz<|J _ _ D.TIz D.TITO D.TIi1 D.TIi2 G,⟨_,_,t _ _ D.TOz f⟩,M.keep _ _ _ ao (λo e=>t _ o D.i1z e) λo e=>t _ o D.l1z e,N.keep _ _ _ as (λo e=>t _ o D.i2z e) λo e=>t _ o D.l2z e⟩ hT λc o q T c3 c4 e=>t c o q<|J c o q T c3 c4 e
def IB(B:A.handled=none)(t:lK prog w i1 l1 S1 it1)(D:ZipApart z TI TO i1 i2 l1 l2)(Z:lu prog w S1 S2 z TI TO i1 i2 l1 l2 .none k s.heap)(C:it1 k=none)
  (G:∀j e,(∀c o,c≠z->c≠i1->s.heap.get? c=some o->j.get? c=some o)->(∃o,j.get? e=some o/\o.cls=.type "StopIteration")->E (.ref e) {s with heap:=j}):
  wpAny (model prog w) A (Builtin.«zip.__next__» ⟨[.ref z],[]⟩) Q E s:=by
 obtain ⟨g,l,⟨a,b,H⟩,I,T⟩:=Z
 show wpAny _ _ (field (.ref z) 2>>=_) _ _ _
 refine Lw<|MH g rfl (x:=.bool false) rfl ?_
 show wpAny _ _ (field (.ref z) 3>>=_) _ _ _
 refine Lw<|MH g rfl (x:=.ref TI) rfl<|Lw<|MJ l rfl ?_
 show wpAny _ _ (Builtin.SmallTypes.ownedTupleIsFree (.ref z)>>=_) _ _ _
 unfold Builtin.SmallTypes.ownedTupleIsFree
 refine Lw<|Lw<|MH g rfl (x:=.none) rfl<|LN ?_
 simp only [Ox]
 refine Lw<|OD<|Lw<|MH g rfl (x:=.ref TO) rfl<|Lw<|N6 g Z8 λm d n=>?_
 replace d:IsZip m z TI TO .ellipsis:=d
 refine Lw ?_
 simp only [Qk,List.zipIdx_nil,O7,List.forIn_nil]
 refine Lw<|Lw<|wpAny_onRaise ?_
 show wpAny _ _ (Builtin.SmallTypes.nextOf (.ref i1)>>=_) _ _ _
 have p:S1 k m:=t.keep _ _ _ I (λo e=>n.extBut _ _ D.i1z e) λo e=>n.extBut _ _ D.l1z e
 refine Lw<|t.over _ _ k {s with heap:=m} _ B p C λJ e u L=>?_
 obtain ⟨M,f,h⟩:=L
 have i:IsZip J z TI TO .ellipsis:=u _ _ D.i1z.symm d
 have r:e≠z:=λq=>by subst q;rw [i] at f;cases f;simp at h
 exact N6 i Z8 λN _ v=>G N e (λc o y O q=>v.extBut _ _ y<|u _ _ O<|n.extBut _ _ y q) ⟨M,v.extBut _ _ r f,h⟩
def KS{Q:Option Value->Shared->Prop}(f:lK prog w i1 l1 S1 it1)(g:lK prog w i2 l2 S2 it2)(D:ZipApart z TI TO i1 i2 l1 l2)(Z:lu prog w S1 S2 z TI TO i1 i2 l1 l2 .none k s.heap)(h:it1 k=some x)(i:it2 k=some y)
  (j:∀d,lu prog w S1 S2 z TI TO i1 i2 l1 l2 (rawInt s.heap.objs.size) (k+1) d->IsPair d s.heap.objs.size x y->(∀c o,c≠z->c≠TO->c≠i1->c≠i2->s.heap.get? c=some o->d.get? c=some o)->Q (some (.ref s.heap.objs.size)) {s with heap:=d}):
  wpAny (model prog w) A (pyNext (.ref z)) Q E s:=by
 have e:s.TypeIs (.ref z) "zip":=⟨_,Z.zip,rfl⟩
 unfold pyNext
 exact Lw<|wpAny_attempt<|MN (name:=Str.ofString "__next__") e Pb<|NP Pb e F.entry_zip_next (Dq f g D Z h i λd a b c=>LN<|j d a b c)<|F.args_zip_next_1 _
def KQ{Q:Option Value->Shared->Prop}(f:A.handled=none)(g:lK prog w i1 l1 S1 it1)(D:ZipApart z TI TO i1 i2 l1 l2)(Z:lu prog w S1 S2 z TI TO i1 i2 l1 l2 .none k s.heap)(h:it1 k=none)
  (i:∀a,(∀c o,c≠z->c≠i1->s.heap.get? c=some o->a.get? c=some o)->Q none {s with heap:=a}):wpAny (model prog w) A (pyNext (.ref z)) Q E s:=by
 have d:s.TypeIs (.ref z) "zip":=⟨_,Z.zip,rfl⟩
 unfold pyNext
 refine Lw<|wpAny_attempt<|MN (name:=Str.ofString "__next__") d Pb<|NP Pb d F.entry_zip_next (IB f g D Z h λa e j ⟨o,l,m⟩=>?_)<|F.args_zip_next_1 _
 exact Lw<|wpAny_isInstance (T:="StopIteration") (b:=true) ⟨o,l,m⟩ isSubtype_stop<|LN<|i _ j
end
abbrev qX (h:Heap)(a:Addr):Heap:=h.push {cls:=.type "tuple_iterator",data:=.fields #[.ref a,.int 0 0]}
abbrev ub (h:Heap)(a b:Addr):Heap:=(qX h a).push {cls:=.type "tuple_iterator",data:=.fields #[.ref b,.int 0 0]}
abbrev t0 (h:Heap)(a b:Addr):Heap:=(ub h a b).push {cls:=.type "tuple",data:=.seq #[.ref h.objs.size,.ref (qX h a).objs.size]}
abbrev uq (h:Heap)(a b:Addr):Heap:=(t0 h a b).push {cls:=.type "tuple",data:=.seq #[.none,.none]}
abbrev oB (h:Heap)(a b:Addr):Heap:=(uq h a b).push {cls:=.type "zip",data:=.fields #[.none,.bool false,.bool false,.ref (ub h a b).objs.size,.ref (t0 h a b).objs.size]}
def FH (a b:Addr)(c e:Array Value):Meets (Builtin.«zip.__new__» ⟨[.type "zip",.ref a,.ref b],[]⟩) (λ_ R s=>s.heap.IsTuple a c/\s.heap.IsTuple b e/\R (.ok (.ret (.ref (uq s.heap a b).objs.size))) {s with heap:=oB s.heap a b}):=
 .of_wp λf w A R s h=>by
  obtain ⟨i,g,d,j,os⟩:=s
  obtain ⟨l,m,h⟩:=h
  have k:=sub_zip
  have n:Heap.IsTuple (Shared.heap ⟨i,g,d,j,os⟩) a c:=l
  have o:Heap.IsTuple (Shared.heap ⟨i.push {cls:=.type "tuple_iterator",data:=.fields #[.ref a,.int 0 0]},g,d,j,os⟩) b e:=Heap.IsTuple.push m _
  wp_walk using OA n,OA o
  exact ⟨_,rfl,h⟩
def Lo{s:Shared}{Q:ZT}(u:s.heap.IsTuple a l)(v:s.heap.IsTuple b m)
  (h:∀d n,n=s.heap.objs.size->IsZip d (n+4) (n+2) (n+3) .none->IsPair d (n+2) (.ref n) (.ref (n+1))->IsPair d (n+3) .none .none->d.IsTupleIter n a 0->d.IsTupleIter (n+1) b 0->(∀c o,s.heap.get? c=some o->d.get? c=some o)->Q (.ref (n+4)) {s with heap:=d}):
  wpAny (model e w) A (call (.type "zip") [.ref a,.ref b]) Q E s:=by
 refine callType_new F.called_zip Z1 (F.typeCall_zip_2 _ _) (F.newCall_zip_2 _ _) (λf=>F.args_object_init_3 f _ _) F.entry_zip_new (FH a b l m) ⟨u,v,?_⟩
 have g:(qX s.heap a).objs.size=s.heap.objs.size+1:=MW ..
 have i:(ub s.heap a b).objs.size=s.heap.objs.size+2:=by rw [MW,g]
 have j:(t0 s.heap a b).objs.size=s.heap.objs.size+3:=by rw [MW,i]
 have zD:(uq s.heap a b).objs.size=s.heap.objs.size+4:=by rw [MW,j]
 have k:(oB s.heap a b).get? (uq s.heap a b).objs.size=some _:=L0 _ rfl
 have p:(oB s.heap a b).get? (t0 s.heap a b).objs.size=some _:=LC _<|L0 _ rfl
 have r:(oB s.heap a b).get? (ub s.heap a b).objs.size=some _:=LC _<|LC _<|L0 _ rfl
 have t:(oB s.heap a b).get? (qX s.heap a).objs.size=some _:=LC _<|LC _<|LC _<|L0 _ rfl
 have x:(oB s.heap a b).get? s.heap.objs.size=some _:=LC _<|LC _<|LC _<|LC _<|L0 _ rfl
 show _/\_
 rw [i,j,zD] at k
 rw [g,i] at r
 rw [j] at p
 rw [g] at t
 rw [zD]
 exact ⟨⟨_,k,rfl⟩,h _ _ rfl k r p ⟨_,x,rfl,rfl⟩ ⟨_,t,rfl,rfl⟩ λc o q=>LC _<|LC _<|LC _<|LC _<|LC _ q⟩
end PySem
namespace L2
open PySem PySem.Spec PyProof.Rows
section
variable {X:Cx}{pins:List (Addr×Obj)}{σ:St}{H:Hp}{s:Shared}
def Inv.uO{j:ZX}{p:Heap}(I:Inv X pins σ H s)(t:∀b∈j,iE X pins H b)(y:s.heap.objs.size<=T)(k:∀b u,b∉j->s.heap.get? b=some u->p.get? b=some u)
  (x:bX X.prog X.w (upd H T o) p T o):Inv X pins σ (upd H T o) {s with heap:=p,toks:=t'}:=by
 have h:H T=none:=I.az.fresh y
 have l:=I.hZ y h
 have a:∀b u,H b=some u->b≠T:=λb u e=>da e h
 have i:∀b u,H b=some u->b∉j:=λb u e g=>by have:=(t b g).1;rw [e] at this;cases this
 refine I.step (g':=s.gens) (d':=s.drawn) (ch:=T::j) (λb g=>?_) (λb u _ _ d e _=>k b u (λz=>d<|Lv _ z) e) (λb u _ _ d e _=>⟨u.slots,k b u (λz=>d<|Lv _ z) e⟩) (λb u d e n=>?_)
  (λb u d e=>⟨u,k b u (λz=>d<|Lv _ z) e⟩) (λb A e=>by rw [aA<|a b _ e];exact e) (λb q A e=>by rw [aA<|a b _ e];exact e) (λb L e=>⟨#[],by rw [aA<|a b _ e,e];simp⟩) (λm C=>?_) (λb u e=>?_) I.bare
 .rcases LK.mp g with rfl|g
  .exact ⟨l.2.2.2.1,l.2.1,l.2.2.2.2.1,l.2.2.2.2.2⟩
  .have f:=t b g
   exact ⟨f.2.2.2.1,f.2.1,f.2.2.2.2.1,f.2.2.2.2.2⟩
 .rw [aA λz=>d (by rw [z];exact Lz)];exact n
 .obtain ⟨B,E,G,J,r⟩:=C
  exact ⟨B,E,G,k _ B (λz=>(t _ z).2.1 rfl) J,r⟩
 .by_cases g:b=T
  .subst g;rw [aR] at e;cases e;exact x
  .rw [aA g] at e
   refine (I.az b u e).kB (λc v d q=>k c v ?_ q) (λc q=>by rw [aA<|a c _ q];exact q) λc A q=>by rw [aA<|a c _ q];exact q
   rcases d with rfl|d
   .exact i _ _ e
   .exact i _ _ d
def Inv.vg{g:ZX}{j:Heap}(I:Inv X pins σ H s)(h:∀b∈g,iE X pins H b)(k:∀b u,b∉g->s.heap.get? b=some u->j.get? b=some u):Inv X pins σ H {s with heap:=j,toks:=t'}:=by
 have d:∀b u,H b=some u->b∉g:=λb u e i=>by have:=(h b i).1;rw [e] at this;cases this
 refine I.step (g':=s.gens) (d':=s.drawn) (ch:=g) (λb i=>?_) (λb u _ _ a e _=>k b u a e) (λb u _ _ a e _=>⟨u.slots,k b u a e⟩) (λb u a e n=>n)
  (λb u a e=>⟨u,k b u a e⟩) (λb l e=>e) (λb q l e=>e) (λb y e=>⟨#[],by rw [e];simp⟩) (λm p=>?_) (λb u e=>?_) I.bare
 .have f:=h b i
  exact ⟨f.2.2.2.1,f.2.1,f.2.2.2.2.1,f.2.2.2.2.2⟩
 .obtain ⟨o,t,w,x,r⟩:=p
  exact ⟨o,t,w,k _ o (λz=>(h _ z).2.1 rfl) x,r⟩
 .refine (I.az b u e).kB (λc v a q=>k c v ?_ q) (λc q=>q) λc l q=>q
  rcases a with rfl|a
  .exact d _ _ e
  .exact d _ _ a
end
def yP (K:PySem.W.Frag)(a b:Addr):It:=
 ⟨λi H=>∃xs ys x y,bq K H a xs/\bq K H b ys/\xs[i]?=some x/\ys[i]?=some y,
  λi H v H'=>∃T x y,H T=none/\v=.ref T/\H'=upd H T (.tup [x,y])/\∀xs ys,bq K H a xs->bq K H b ys->xs[i]?=some x/\ys[i]?=some y,
  λi H=>∃xs ys,bq K H a xs/\bq K H b ys/\xs.length<=i⟩
def Ji (z TI TO i1 i2 a b:Addr)(f0:Value)(i:Nat)(h:Heap):Prop:=IsZip h z TI TO f0/\IsPair h TI (.ref i1) (.ref i2)/\(∃u v,IsPair h TO u v)/\h.IsTupleIter i1 a i/\h.IsTupleIter i2 b i
def JA {P:Program}{w:World}{K:W.Frag}{es:List Expr}{kk:Nat}{tp:Pos}{z TI TO i1 i2 a b:Addr}(D:ZipApart z TI TO i1 i2 a b)(D1:TI≠a)(D2:TI≠b):
  jd P w K (.Tuple es kk tp) (yP K a b) [z,TI,TO,i1,i2] z (λi h=>Ji z TI TO i1 i2 a b .none i h) where
 mem:=by simp
 obj:=λi h q0 q hq=>by
  obtain ⟨hz,hTI,⟨u,v,hTO⟩,⟨o1,e1,_,d1⟩,⟨o2,e2,_,d2⟩⟩:=q0
  simp only [LK,Mj,ME] at hq
  rcases hq with rfl|rfl|rfl|rfl|rfl
  .exact ⟨_,hz,λv z=>nomatch z⟩
  .exact ⟨_,hTI,λv z=>nomatch z⟩
  .exact ⟨_,hTO,λv z=>nomatch z⟩
  .exact ⟨_,e1,λv z=>by rw [d1] at z;cases z⟩
  .exact ⟨_,e2,λv z=>by rw [d2] at z;cases z⟩
 keep:=λi h h' q3 k=>by obtain ⟨hz,hTI,⟨u,v,hTO⟩,⟨o1,e1,r1⟩,⟨o2,e2,r2⟩⟩:=q3;exact ⟨k _ Z8 _ hz,k _ Z8 _ hTI,⟨u,v,k _ Z8 _ hTO⟩,⟨o1,k _ Z8 _ e1,r1⟩,⟨o2,k _ Z8 _ e2,r2⟩⟩
 item:=by
  intro X hP hw hK hc i pins s σ H E I hf st hg
  subst hP hw hK
  obtain ⟨xs,ys,x,y,hq1,hq2,hx,hy⟩:=hg
  obtain ⟨its,rv,p1,hz1⟩:=I.tuple hq1
  obtain ⟨its2,rv2,p2,hz2⟩:=I.tuple hq2
  obtain ⟨u,hu,ru⟩:=rv.get hx
  obtain ⟨v,hv,rv'⟩:=rv2.get hy
  obtain ⟨hz,hTI,hTO,h1,h2⟩:=st
  have Z:lu X.prog X.w (λk h=>h.IsTupleIter i1 a k/\h.IsTuple a its.toArray/\a≠i1) (λk h=>h.IsTupleIter i2 b k/\h.IsTuple b its2.toArray/\b≠i2) z TI TO i1 i2 a b .none i s.heap:=⟨hz,hTI,hTO,⟨h1,p1,D.l1i1⟩,⟨h2,p2,D.l2i2⟩⟩
  refine KS uM uM D Z (x:=u) (y:=v) (by simpa using hu) (by simpa using hv) λh' Z' hT kp=>?_
  refine ⟨_,rfl,?_⟩
  refine wpAny_letOwnedTupleGo_zip (s:={s with heap:=h'}) Z'.zip λh2' hz2' sb=>?_
  have hTz:s.heap.objs.size≠z:=NY<|L1 hz
  have hT2:IsPair h2' s.heap.objs.size u v:=(sb.2 _ hTz).trans hT
  have kp2:∀c o,c∉[z,TI,TO,i1,i2]->s.heap.get? c=some o->h2'.get? c=some o:=λc o hc e=>(sb.2 c λq=>hc (by simp [q])).trans<|kp c o (λq=>hc (by simp [q])) (λq=>hc (by simp [q])) (λq=>hc (by simp [q])) (λq=>hc (by simp [q])) e
  have hTn:H s.heap.objs.size=none:=I.az.fresh<|LF _
  refine ⟨.ref s.heap.objs.size,upd H s.heap.objs.size (.tup [x,y]),I.uO (t':=s.toks) hf (LF _) kp2 ⟨by show 2<=sizeLine;decide,[u,v],.cons ru (.cons rv' .nil),⟨_,hT2,rfl,_,rfl⟩⟩,rfl,⟨_,x,y,hTn,rfl,rfl,λxs' ys' q1 q2=>?_⟩,?_,λb' hb=>?_⟩
  .rw [I.xc q1 hq1,I.xc q2 hq2];exact ⟨hx,hy⟩
  .obtain ⟨u',v',hTO'⟩:=Z'.out
   have ii1:=Z'.one.1
   have ii2:=Z'.two.1
   exact ⟨hz2',(sb.2 _ D.TIz).trans Z'.ins,⟨u',v',(sb.2 _ D.TOz).trans hTO'⟩,ii1.extBut sb.extBut D.i1z,ii2.extBut sb.extBut D.i2z⟩
  .obtain ⟨ob,e,_⟩:∃ob,s.heap.get? b'=some ob/\True:=by
    simp only [LK,Mj,ME] at hb
    obtain ⟨u',v',hTO'⟩:=hTO
    obtain ⟨o1,e1,_⟩:=h1
    obtain ⟨o2,e2,_⟩:=h2
    rcases hb with rfl|rfl|rfl|rfl|rfl
    .exact ⟨_,hz,trivial⟩
    .exact ⟨_,hTI,trivial⟩
    .exact ⟨_,hTO',trivial⟩
    .exact ⟨_,e1,trivial⟩
    .exact ⟨_,e2,trivial⟩
   rw [aA<|Mf<|L1 e]
   exact (hf b' hb).1
 done:=by
  intro X hP hw hK hc i pins s σ H E I hf st hg
  subst hP hw hK
  obtain ⟨xs,ys,hq1,hq2,hx⟩:=hg
  obtain ⟨its,rv,p1,hz1⟩:=I.tuple hq1
  obtain ⟨its2,rv2,p2,hz2⟩:=I.tuple hq2
  obtain ⟨hz,hTI,hTO,h1,h2⟩:=st
  have Z:lu X.prog X.w (λk h=>h.IsTupleIter i1 a k/\h.IsTuple a its.toArray/\a≠i1) (λk h=>h.IsTupleIter i2 b k/\h.IsTuple b its2.toArray/\b≠i2) z TI TO i1 i2 a b .none i s.heap:=⟨hz,hTI,hTO,⟨h1,p1,D.l1i1⟩,⟨h2,p2,D.l2i2⟩⟩
  have hl:=rv.length
  exact KQ (I.ok.hd hc) uM D Z (by simp;omega) λh' kp=>⟨rfl,I.vg (t':=s.toks) hf λc o hcc e=>kp c o (λq=>hcc (by simp [q])) (λq=>hcc (by simp [q])) e⟩
 self:=λA i s Q E st h=>wpAny_pyIter_zip st.1 h
section
variable {X:Cx}
def Aw (K:PySem.W.Frag)(t:TA):TI:=λσ H R=>t σ H λvs H1=>∃a b,vs=[.ref a,.ref b]/\(∃xs,bq K H1 a xs)/\(∃ys,bq K H1 b ys)/\R (yP K a b) H1
def DJ(M:X.mg "zip"=none)(j:PA X [a,b] t)(N:Gl X "zip":=by rfl)(O:starEach [a,b] X.env=[(false,eval a X.env),(false,eval b X.env)]:=by rfl)(f:starEach [b] X.env=[(false,eval b X.env)]:=by rfl):
  PI X (.Tuple G J L) (.Call (.Name "zip" p) [a,b] [] e) (Aw X.K t):=by
 intro d s v H R I h
 refine Call_<|jX I N M PyProof.Rows.boot_zip<|M5 (aS (j e d s v H _ I h) λus k ⟨vs,w,g,Q,T⟩=>?_) (by rw [O,f]) (by rw [f];rfl)
 obtain ⟨a,b,rfl,⟨xs,l⟩,⟨ys,m⟩,q⟩:=T
 obtain ⟨u1,u2,rfl,o,r⟩:=a9.two Q
 cases o;cases r
 obtain ⟨U,rv,x,Y⟩:=g.tuple l
 obtain ⟨y,ac,z,af⟩:=g.tuple m
 refine Lo x z λA n u B g2 g3 g4 g5 kp=>?_
 have j:a<n:=by rw [u];exact x.lt
 have C:b<n:=by rw [u];exact z.lt
 have I2:Inv X d v w {k with heap:=A}:=g.kept (t':=k.toks) kp
 have D:ZipApart (n+4) (n+2) (n+3) n (n+1) a b:=zipApart_new j C
 refine wpAny_pyIter_zip (s:={k with heap:=A}) B ?_
 refine ⟨n+4,[n+4,n+2,n+3,n,n+1],_,_,w,rfl,I2,JA D (NY<|Mo j<|MF _ _)<|NY<|Mo C<|MF _ _,⟨B,g2,⟨_,_,g3⟩,g4,g5⟩,λc E=>?_,q⟩
 have i:k.heap.objs.size<=c:=by
  simp only [LK,Mj,ME] at E
  rw [<-u]
  rcases E with rfl|rfl|rfl|rfl|rfl
  .exact MF _ _
  .exact MF _ _
  .exact MF _ _
  .exact LF _
  .exact MF _ _
 exact g.hZ i<|g.az.fresh i
end
end L2
namespace FL
open PySem L2
def lh (xs ys:List D):List D:=List.zipWith (λx y=>.tup [x,y]) xs ys
def Ko{g i:ZZ}{K:W.Frag}(U:g.length=i.length)(h:d8 t G E [.tup g,.tup i]):Walk (Aw K t) G E (lh g i):=λM H s l R k=>h M H s l _ λvs Y s1 rs=>by
 obtain ⟨v1,v2,rfl,r1,r2⟩:=sL rs
 obtain ⟨a,m,rfl,r,I⟩:=r1.fe
 obtain ⟨b,n,rfl,z,h4⟩:=r2.fe
 refine ⟨a,b,rfl,⟨m,bq.of (ax r).2⟩,⟨n,bq.of (ax z).2⟩,k _ Y s1 (λj d M' H' c f A=>?_) λM' H' f=>?_⟩
 .have o:=(ax<|f _ _ r).2
  have p:=(ax<|f _ _ z).2
  unfold lh at c
  rw [OR] at c
  cases q:g[j]? with
  |none=>rw [q] at c;cases c
  |some x=>
   cases B:i[j]? with
   |none=>rw [q,B] at c;cases c
   |some y=>
    rw [q,B] at c
    cases c
    obtain ⟨u,J,ru⟩:=I.get q
    obtain ⟨w,L,C⟩:=h4.get B
    refine ⟨⟨m,n,u,w,bq.of o,bq.of p,J,L⟩,λv ac q0=>?_⟩
    obtain ⟨T,x',y',N,e,eH,hy⟩:=q0
    obtain ⟨O,Q⟩:=hy m n (bq.of o)<|bq.of p
    rw [J] at O;rw [L] at Q
    cases O;cases Q
    subst e eH
    refine ⟨dr N _,?_⟩
    exact nu A N (.cons (ru.mono f) (.cons (C.mono f) .nil))
 .have o:=(ax<|f _ _ r).2
  have p:=(ax<|f _ _ z).2
  refine ⟨m,n,bq.of o,bq.of p,?_⟩
  rw [I.length]
  simp [lh,U]
end FL
namespace L2
open PySem PySem.Spec PyProof.Rows
def AN (K:PySem.W.Frag)(a:Addr):It:=
 ⟨λi H=>∃xs x,aP K H a xs/\xs[i]?=some x,
  λi H v H'=>∃T x,H T=none/\v=.ref T/\H'=upd H T (.tup [.int i,x])/\∀xs,aP K H a xs->xs[i]?=some x,
  λi H=>∃xs,aP K H a xs/\xs.length<=i⟩
def FD {P:Program}{w:World}{K:W.Frag}{es:List Expr}{kk:Nat}{tp:Pos}{e it a:Addr}(hne:e≠it):
  jd P w K (.Tuple es kk tp) (AN K a) [e,it] e (λi h=>(∃old,IsEnum h e it ((i:Nat):Int) old)/\h.IsListIter it a i) where
 mem:=by simp
 obj:=λi h q0 q hq=>by
  obtain ⟨⟨old,he⟩,⟨o1,e1,_,d1⟩⟩:=q0
  simp only [LK,Mj,ME] at hq
  rcases hq with rfl|rfl
  .exact ⟨_,he,λv z=>nomatch z⟩
  .exact ⟨_,e1,λv z=>by rw [d1] at z;cases z⟩
 keep:=λi h h' q1 k=>by obtain ⟨⟨old,he⟩,⟨o1,e1,r1⟩⟩:=q1;exact ⟨⟨old,k _ Z8 _ he⟩,⟨o1,k _ Z8 _ e1,r1⟩⟩
 item:=by
  intro X hP hw hK hc i pins s σ H E I hf st hg
  subst hP hw hK
  obtain ⟨xs,x,hq,hx⟩:=hg
  obtain ⟨its,rv,p,hz⟩:=I.list hq
  obtain ⟨u,hu,ru⟩:=rv.get hx
  obtain ⟨⟨old,he⟩,hit⟩:=st
  refine wpAny_pyNext_enum_item he hit p.isList (x:=u) (by simpa using hu) hne λh' heo hit' hT hzz kp=>?_
  refine ⟨_,rfl,?_⟩
  refine Ps (s:={s with heap:=h',toks:=s.toks+1}) heo λh2' he2 sb=>?_
  have hTe:s.heap.objs.size≠e:=NY<|L1 he
  have hT2:h2'.get? s.heap.objs.size=some {cls:=.type "tuple",data:=.seq #[.int i s.toks,u]}:=(sb.2 _ hTe).trans hT
  have kp2:∀c o,c∉[e,it]->s.heap.get? c=some o->h2'.get? c=some o:=λc o hc e'=>(sb.2 c λq=>hc (by simp [q])).trans<|kp c o (λq=>hc (by simp [q])) (λq=>hc (by simp [q])) e'
  have hTn:H s.heap.objs.size=none:=I.az.fresh<|LF _
  refine ⟨.ref s.heap.objs.size,upd H s.heap.objs.size (.tup [.int i,x]),I.uO (t':=s.toks+1) hf (LF _) kp2 ⟨by show 2<=sizeLine;decide,[.int i s.toks,u],.cons ⟨_,rfl⟩ (.cons ru .nil),⟨_,hT2,rfl,_,rfl⟩⟩,rfl,⟨_,x,hTn,rfl,rfl,λys hy=>by rw [I.tF hy hq];exact hx⟩,⟨⟨u,he2⟩,hit'.extBut sb.extBut<|MC hne⟩,λb' hb=>?_⟩
  obtain ⟨ob,e',_⟩:∃ob,s.heap.get? b'=some ob/\True:=by
   simp only [LK,Mj,ME] at hb
   obtain ⟨o1,e1,_⟩:=hit
   rcases hb with rfl|rfl
   .exact ⟨_,he,trivial⟩
   .exact ⟨_,e1,trivial⟩
  rw [aA<|Mf<|L1 e']
  exact (hf b' hb).1
 done:=by
  intro X hP hw hK hc i pins s σ H E I hf st hg
  subst hP hw hK
  obtain ⟨xs,hq,hx⟩:=hg
  obtain ⟨its,rv,p,hz⟩:=I.list hq
  obtain ⟨⟨old,he⟩,hit⟩:=st
  have hl:=rv.length
  exact wpAny_pyNext_enum_end (I.ok.hd hc) he hit p.isList (by simp;omega) λh' eb=>⟨rfl,I.vg (t':=s.toks) hf λc o hcc e=>eb c o (λq=>hcc (by simp [q])) e⟩
 self:=λA i s Q E st h=>let ⟨⟨_,he⟩,_⟩:=st;OO he h
def xW (K:PySem.W.Frag)(a:Addr)(n:Nat):It:=
 ⟨λi H=>i<n/\∃xs x,aP K H a xs/\xs.length=n/\xs[n-1-i]?=some x,λi H x H'=>H'=H/\∀xs,aP K H a xs->xs[n-1-i]?=some x,λi H=>n<=i⟩
def GB {P:Program}{w:World}{K:W.Frag}{tg:Expr}(a it:Addr)(n:Nat):jd P w K tg (xW K a n) [it] it (λi h=>i<=n/\h.IsRevIter it a ((n:Int)-1-(i:Int))) where
 mem:=by simp
 obj:=λi h st b hb=>by
  have e:b=it:=by simpa using hb
  subst e
  obtain ⟨_,o,e,c,d⟩:=st
  exact ⟨o,e,λv z=>by rw [d] at z;cases z⟩
 keep:=λi h h' st k=>⟨st.1,st.2.at λo e=>k it Z8 o e⟩
 item:=by
  intro X hP hw hK hc i pins s σ H E I hf st hg
  subst hP hw hK
  obtain ⟨hin,xs,x,hq,hn,hx⟩:=hg
  obtain ⟨its,rv,p,hz⟩:=I.list hq
  obtain ⟨u,hu,ru⟩:=rv.get hx
  obtain ⟨f0,f1,f2,f3,f4,f5⟩:=hf it Z8
  have e1:(n:Int)-1-(i:Int)=((n-1-i:Nat):Int):=by omega
  have hit:=st.2
  rw [e1] at hit
  refine wpAny_pyNext_rev_item hit p.isList (x:=u) (by simpa using hu) λh' st' sb=>?_
  have I1:Inv X pins σ H {s with heap:=h'}:=I.turned (t':=s.toks) (λb o hb e=>(sb.2 b hb).trans e) f0 f1 f3 f4 f5
  have e2:((n-1-i:Nat):Int)-1=(n:Int)-1-((i+1:Nat):Int):=by omega
  rw [e2] at st'
  obtain ⟨o,e,c,d⟩:=id st'
  exact ⟨u,rfl,qu (s:={s with heap:=h'}) e c d Z1 ⟨x,H,I1,ru,⟨rfl,λys hy=>by rw [I.tF hy hq];exact hx⟩,⟨hin,st'⟩,λb hb=>(hf b hb).1⟩⟩
 done:=by
  intro X hP hw hK hc i pins s σ H E I hf st hg
  subst hP hw hK
  obtain ⟨f0,f1,f2,f3,f4,f5⟩:=hf it Z8
  have hg:n<=i:=hg
  have e:(n:Int)-1-(i:Int)=-1:=by have:=st.1;omega
  have hit:=st.2
  rw [e] at hit
  exact wpAny_pyNext_rev_end (I.ok.hd hc) hit λh' eb=>⟨rfl,I.turned (t':=s.toks) (λb o hb e=>eb b o hb e) f0 f1 f3 f4 f5⟩
 self:=λ_ _ _ _ _ st h=>wpAny_pyIter_revIter st.2 h
section
variable {X:Cx}
def xJ (K:PySem.W.Frag)(t:TA):TI:=λσ H R=>t σ H λvs H1=>∃a,vs=[.ref a]/\(∃xs,aP K H1 a xs)/\R (AN K a) H1
def z6{a:Expr}(w:X.mg "enumerate"=none)(x:PA X [a] t)(y:Gl X "enumerate":=by rfl)(z:starEach [a] X.env=[(false,eval a X.env)]:=by rfl)(f:starEach [] X.env=[]:=by rfl):
  PI X (.Tuple r u v) (.Call (.Name "enumerate" p) [a] [] e) (xJ X.K t):=by
 intro b s k H R I h
 refine Call_<|jX I y w Pj<|M5 (aS (x e b s k H _ I h) λO d ⟨Q,l,i,A,B⟩=>?_) (by rw [z,f]) (by rw [f];rfl)
 obtain ⟨a,rfl,⟨T,C⟩,q⟩:=B
 obtain ⟨U,rfl,j⟩:=a9.one A
 cases j
 obtain ⟨E,Y,G,J⟩:=i.list C
 refine call_enumerate_list G.isList λm n L hz M=>?_
 have N:Inv X b k l {d with heap:=m}:=i.kept (t':=d.toks) M
 refine OO (s:={d with heap:=m}) n ?_
 refine ⟨d.heap.objs.size+1,[d.heap.objs.size+1,d.heap.objs.size],_,_,l,rfl,N,FD<|Nat.succ_ne_self _,⟨⟨_,n⟩,L⟩,λc o=>?_,q⟩
 have g:d.heap.objs.size<=c:=by
  simp only [LK,Mj,ME] at o
  rcases o with rfl|rfl
  .exact MF _ _
  .exact LF _
 exact i.hZ g<|i.az.fresh g
def yS (K:PySem.W.Frag)(t:TA):TI:=λσ H R=>t σ H λvs H1=>∃a xs,vs=[.ref a]/\aP K H1 a xs/\R (xW K a xs.length) H1
def Is{a:Expr}(v:X.mg "reversed"=none)(w:PA X [a] t)(x:Gl X "reversed":=by rfl)(y:starEach [a] X.env=[(false,eval a X.env)]:=by rfl)(j:starEach [] X.env=[]:=by rfl):
  PI X u (.Call (.Name "reversed" p) [a] [] i) (yS X.K t):=by
 intro f s n H R I h
 refine Call_<|jX I x v PyProof.Rows.boot_reversed<|M5 (aS (w i f s n H _ I h) λM c ⟨N,r,k,z,A⟩=>?_) (by rw [y,j]) (by rw [j];rfl)
 obtain ⟨a,l,rfl,B,q⟩:=A
 obtain ⟨O,rfl,m⟩:=a9.one z
 cases m
 obtain ⟨d,C,E,G⟩:=k.list B
 have Q:=C.length
 refine call_reversed_list E.isList ?_
 have J:Inv X f n r {c with heap:=c.heap.push (revObj a<|(d.toArray.size:Int)-1)}:=k.kept (t':=c.toks) λb o e=>LC _ e
 have g:(c.heap.push<|revObj a<|(d.toArray.size:Int)-1).IsRevIter c.heap.objs.size a ((l.length:Int)-1-((0:Nat):Int)):=by
  refine ⟨_,L0 _ rfl,rfl,?_⟩
  have:((d.toArray.size:Nat):Int)-1=(l.length:Int)-1-((0:Nat):Int):=by simp;omega
  rw [<-this]
  rfl
 refine wpAny_pyIter_revIter (s:={c with heap:=c.heap.push (revObj a<|(d.toArray.size:Int)-1)}) g ?_
 refine ⟨c.heap.objs.size,[c.heap.objs.size],_,_,r,rfl,J,GB a _ l.length,⟨Mb _,g⟩,λb L=>?_,q⟩
 have e:b=c.heap.objs.size:=by simpa using L
 subst e
 exact k.hZ (LF _)<|k.az.fresh<|LF _
end
end L2
namespace FL
open PySem L2
def Kv{K:W.Frag}(h:d8 t G n [.lst e]):Walk (yS K t) G n e.reverse:=λM H s l R k=>h M H s l _ λO w x y=>by
 obtain ⟨Q,rfl,z⟩:=iu y
 obtain ⟨a,c,rfl,o,f⟩:=z.d7
 refine ⟨a,c,rfl,aP.of (ax o).2,k _ w x (λj d A B g i C=>?_) λA B i=>?_⟩
 .have p:=(ax<|i _ _ o).2
  have b:=f.length
  have m:j<e.length:=by have:=(Lx.mp g).1;simpa using this
  rw [List.getElem?_reverse m,<-b] at g
  obtain ⟨u,q,E⟩:=f.get g
  refine ⟨⟨by omega,c,u,aP.of p,rfl,q⟩,λv I J=>?_⟩
  obtain ⟨L,N⟩:=J
  have r:=N c<|aP.of p
  rw [q] at r
  cases r
  subst L
  exact ⟨ab.refl _,E.mono i⟩
 .show c.length<=_
  rw [f.length,Pe]
  exact LF _
end FL
namespace PySem
section
variable {prog:Program}{w:World}{K:Type} [DecidableEq K] {knd:HeapKind prog w K}{A:Around}{E:Value->Shared->Prop}{s:Shared}
def Le{dflt:Value}{Q:ZT}(u:knd.room A)(c:knd.is s.heap k a)(C:s.heap.DictOfH knd d h)
  (G:∀v,(atKey h k).map (·.2)=some v->Q v {s with toks:=s.toks+knd.draws k})
  (H:(atKey h k).map (·.2)=none->∀r,r.DictOfH knd d (storedH h k a dflt)->Heap.SameBut d s.heap r->Q dflt {s with heap:=r,toks:=s.toks+knd.draws k})
  (hsz:h.length<=sizeLine:=by size_fits):wpAny (model prog w) A (dictSetDefault d (.ref a) dflt) Q E s:=by
 obtain ⟨o,L,I,i,J,g,q,l,t⟩:=C
 unfold dictSetDefault
 try with_reducible refine Nd ?_
 refine Lw<|knd.pyHash u c ?_
 refine Lw<|wpAny_dictFind_heap (s:={s with toks:=s.toks+knd.draws k}) u c i g q l t ?_ ?_
 .intro m
  have n:k∉h.map (·.1):=not_mem_keys_of_get m
  have b:=atKey_none_of_get m
  refine Lw (OD (Lw (wpAny_updateDictKeys (hz:=by have e:=size_of_entries q;omega) (s:={s with toks:=s.toks+knd.draws k}) i g (LN (H (by rw [b];rfl) _ ⟨_,_,I+1,Oa _ i<|Obj.isFreed_of_dict<|Obj.data_mapDictKeys g _,
   J.mapDictKeys _,Obj.data_mapDictKeys g _,?_,?_,?_⟩<|NN ..)))))
  .rw [storedH_new b]
   simp [q,entryOfKey]
  .rw [storedH_new b]
   intro x f
   rcases LY.mp f with f|f
   .exact knd.keeps (l x f) i g<|NN ..
   .simp only [L4] at f
    subst f
    exact knd.keeps c i g<|NN ..
  .rw [storedH_new b]
   rw [Me,Np]
   refine ⟨t,by simp,?_⟩
   intro x f y z
   simp only [Mu,Oj,L4] at z
   subst z
   exact λe=>n<|e▸f
 .intro j p B
  refine Lw<|wpAny_dictEntries (s:={s with toks:=s.toks+knd.draws k}) i g ?_
  rw [entry_at q j,B]
  exact Lw<|OD<|LN<|G _ (by rw [atKey_of_get t B];rfl)
def BK (knd:HeapKind prog w K)(d a:Addr)(i:(d==sysModules)=false)(dflt:Value):
  MeetsIn prog w (Builtin.«dict.setdefault» ⟨[.ref d,.ref a,dflt],[]⟩) (λA R s=>knd.room A.in1/\∃k b,knd.is s.heap k a/\s.heap.DictOfH knd d b/\b.length<=sizeLine/\
   (∀v,(atKey b k).map (·.2)=some v->R (.ok (.ret v)) {s with toks:=s.toks+knd.draws k})/\
   ((atKey b k).map (·.2)=none->∀c,c.DictOfH knd d (storedH b k a dflt)->Heap.SameBut d s.heap c->R (.ok (.ret dflt)) {s with heap:=c,toks:=s.toks+knd.draws k})):=
 .of_wp λA R s j=>by
  obtain ⟨l,k,b,e,h,m,n,o⟩:=j
  unfold Builtin.«dict.setdefault»
  refine Lw ?_
  unfold Builtin.Dict.keyAndDefault
  refine Lw<|wpAny_notOrdered_dict h.typeIs ?_
  show wpAny _ _ (pure (d,Value.ref a,some dflt)) _ _ s
  refine LN ?_
  show wpAny _ _ (if (d==sysModules)=true then _ else (dictSetDefault d (.ref a) dflt>>=_)) _ _ s
  rw [LG (by rw [i];exact LI)]
  exact Lw<|Le (hsz:=m) l e h (λv p=>LN ⟨v,rfl,n v p⟩) λq c f g=>LN ⟨dflt,rfl,o q c f g⟩
end
end PySem
namespace L2
open PySem PySem.Spec PyProof.Rows
def A4 (H:Hp)(a:Addr)(y z r:V)(H':Hp):Prop:=(cR H a y (some r)/\H'=H/\∃o,H a=some o)\/(cR H a y none/\r=z/\gt H a y z H')
section
variable {X:Cx}{pins:List (Addr×Obj)}{σ:St}{H:Hp}{s:Shared}{a:Addr}{y z v:V}{u r:Value}{A:Around}{E:Value->Shared->Prop}
def EL{Q:ZT}(hu:A.units+1<cLine)(I:Inv X pins σ H s)(g:A4 H a y z v H')(ry:RelV y u)(rz:RelV z r)(h:∀w' s',Inv X pins σ H' s'->RelV v w'->Q w' s'):
  wpAny (model X.prog X.w) A (call (.builtin "dict.setdefault") [.ref a,u,r]) Q E s:=by
 rcases g with ⟨g,rfl,ho⟩|⟨g,rfl,p⟩
 .rcases g with ⟨f,k,e,J,l⟩|⟨f,k,b,e,J,T,l⟩
  .subst J
   obtain ⟨L,x,U,bB,m⟩:=ic I.az e
   obtain ⟨w',Y,M⟩:=eo.some_of (v:=v) (o:=valueAt U k) (by rw [l];exact bB.val k)
   refine N0 MZ m.typeIs Ng (Nb _ _ _) (kt_meets_setdefault (du X.prog X.w) a (kf ry) x r) ⟨U,m,by rw [<-bB.length];exact L,λv' d=>?_,λB=>by rw [Y] at B;cases B⟩
   rw [Y] at d
   cases d
   exact h _ _ (I.tok _) M
  .subst J
   cases (show u=Value.ref b from ry)
   obtain ⟨L,x,O,bB,m⟩:=kl I.az e
   obtain ⟨w',Y,M⟩:=eo.some_of (v:=v) (o:=(atKey O k).map (·.2)) (by rw [l];exact bB.val k)
   refine N0 MZ m.typeIs Ng (Nb _ _ _) (BK (tupleKind<|du X.prog X.w) a b x r) ⟨Na hu,k,O,lz I.az T,m,by rw [<-Nr bB];exact L,λv' d=>?_,λB=>by rw [Y] at B;cases B⟩
   rw [Y] at d
   cases d
   exact h _ _ (I.tok _) M
 .rcases p with ⟨f,k,e,J,l,eH⟩|⟨f,k,b,e,J,T,l,eH⟩
  .subst J eH
   obtain ⟨L,x,U,bB,m⟩:=C2 I.az e
   have hg:bm f k=none:=by
    rcases g with ⟨n,C,i,j,l'⟩|⟨n,C,b',i,j,N,l'⟩
    .have e1:kV k=kV C:=j
     have:k=C:=by
      cases k<;>cases C<;>simp [kV] at e1<;>rw [e1]
     subst this
     rcases i with i|i
     .rw [e] at i;cases i;exact l'.symm
     .rw [e] at i;simp at i
    .cases k<;>cases j
   have B:valueAt U k=none:=eo.none_of (by rw [<-hg];exact bB.val k)
   have hl:(cg f k v).length<=sizeLine:=by have:=nk f k v;omega
   refine N0 MZ m.typeIs Ng (Nb _ _ _) (kt_meets_setdefault (du X.prog X.w) a (kf ry) x r) ⟨U,m,by rw [<-bB.length];exact L,λv' d=>(by rw [B] at d;cases d),λ_ h' G hs=>h _ _ ?_ rz⟩
   have he:∃q,h'.get? a=some q:=let ⟨q,_,_,hq,_⟩:=G;⟨q,hq⟩
   exact rK I (by rw [e];exact True.intro) hs he<|uh hl x (bB.put k rz) G
  .subst J eH
   cases (show u=Value.ref b from ry)
   obtain ⟨L,x,O,bB,m⟩:=yg I.az e
   have hg:bm f k=none:=by
    rcases g with ⟨n,C,i,j,l'⟩|⟨n,C,b',i,j,N,l'⟩
    .cases C<;>cases j
    .cases j
     rw [T] at N
     have e1:k.map kV=C.map kV:=by injection N with e2;injection e2
     have ac:∀(p q:List aK),p.map kV=q.map kV->p=q:=by
      intro p
      induction p with
      |nil=>intro q h;cases q<;>first|rfl|cases h
      |cons c t ih=>
       intro q h
       cases q with
       |nil=>cases h
       |cons c' t'=>
        obtain ⟨h1,h2⟩:=NJ h
        have:c=c':=by cases c<;>cases c'<;>simp [kV] at h1<;>rw [h1]
        rw [this,ih t' h2]
     have:k=C:=ac _ _ e1
     subst this
     rcases i with i|i
     .rw [e] at i;cases i;exact l'.symm
     .rw [e] at i;simp at i
   have B:(atKey O k).map (·.2)=none:=eo.none_of (by rw [<-hg];exact bB.val k)
   have hz:O.length<=sizeLine:=by rw [<-Nr bB];exact L
   have hl:(cg f k v).length<=sizeLine:=by have:=nk f k v;omega
   refine N0 MZ m.typeIs Ng (Nb _ _ _) (BK (tupleKind<|du X.prog X.w) a b x r) ⟨Na hu,k,O,lz I.az T,m,hz,λv' d=>(by rw [B] at d;cases d),λ_ h' G hs=>h _ _ ?_ rz⟩
   obtain ⟨q,es,ep,hq,h2,h3,h4,_,h5⟩:=G
   refine rK I (by rw [e];exact True.intro) hs ⟨q,hq⟩ ⟨hl,x,_,(bB.put k T rz).keeps λc ys ec=>?_,q,es,ep,hq,h2,h3,h4,h5⟩
   rw [aA<|A7 ec e λz=>nomatch z]
   exact ec
end
def u6 (td ty tx:TE):TE:=λσ H Q=>td σ H λx H1=>∃a,x=.ref a/\rQ H1 a/\ty σ H1 λy H2=>tx σ H2 λz H3=>∃r H4,A4 H3 a y z r H4/\Q r H4
def yp{X:Cx}(t:X.A.units+1<cLine)(v:PE X o l)(w:PE X e n)(B:PE X f p)(m:M2 X o "setdefault" c e f i):PE X (.Call (.Attribute o "setdefault" c) [e,f] [] i) (u6 l n p):=by
 intro b s j H Q I h
 refine wpAny_Call_method m.base m.dH m.line OJ MZ PySem.F.type_dict_setdefault<|aS (v b s j H _ I h) λu C E=>?_
 obtain ⟨x,G,q,J,a,L,d,M⟩:=E
 subst L
 obtain rfl:u=Value.ref a:=J
 obtain ⟨N,O,_⟩:=wq q d
 refine ⟨N,O,?_⟩
 rw [m.trees]
 refine No rfl (OZ (NZ (aS (w b C j G _ q M) λiv T ⟨y,U,Y,ry,q2⟩=>
  NZ (aS (B b T j U _ Y q2) λfv s3 ⟨z,H3,I3,rz,r,H4,g,q3⟩=>PH ?_))))
 exact EL t I3 g ry rz λw' s4 I4 k=>⟨r,H4,I4,k,q3⟩
end L2
namespace FL
open PySem L2
def bw (R:List D->D->Prop):Sp:=λvs H Q _=>∃M ds d,ap M H/\aC (but H M) vs ds/\R ds d/\∀v H',ab H H'->al (but H' M) v d->Q v H'
def bN{R:ZZ->D->Prop}(c:R ds d)(h:d8 t G a ds):ae (iF (bw R) [] E t) G a d:=
 λM H s l Q k=>h M H s l _ λj m b e=>⟨M,ds,d,l.same b,by rw [Mi];exact e,c,λv f g i=>k v f (b.trans g) i⟩
def eP{R:ZZ->D->Prop}(c:∀a d,R a d->a.length=n):∀b H Q E,bw R b H Q E->b.length=n:=λb H Q E f=>by obtain ⟨M,a,d,l,r,e,k⟩:=f;rw [r.length];exact c a d e
def gZ:dO (h::r) 0=some h:=ox Z1 rfl
def f6 (d:D):Bool:=yW d&& !Bq d
def CV (d:D):Bool:=tJ d||f6 d
def qH:List D->D->Prop:=λds d=>∃l k,ds=[.lst l,.int k]/\0<=k/\d=lJ l k
def sI:List D->D->Prop:=λds d=>∃x,ds=[x]/\d=.bl (f6 x)
def lP (ns:List Int):List Int:=(List.range ns.length).map λ(k:Nat)=>(ns.getD k 0+7919*(k:Int))*48271%1000003
def Au:List D->D->Prop:=λds d=>∃ns:List Int,ds=[.lst (ns.map D.int)]/\ns.length<=63/\d=.lst ((lP ns).map D.int)
def Fb (a:List Int):(lP a).length=a.length:=by simp [lP]
def mi (a:List Int)(k:Nat):qH [.lst (a.map D.int),.int (k:Int)] (.int (a.getD k 0)):=⟨_,_,rfl,by omega,(JV a k).symm⟩
def KP {d:D}(h:d.sc=true):CV d=true:=by
 cases d with
 |int i=>rfl
 |str i=>rfl
 |_=>exact absurd h (by simp [D.sc])
def fG{l:ZZ}(x:Int)(c:0<n)(e:l.length=n):∃d,dO l (x%(n:Int))=some d/\d∈l/\d=l.getD (x%(n:Int)).toNat .av:=by
 have b:=Qb x (show (n:Int)≠0 by omega)
 have f:=Int.emod_lt_of_pos x (show (0:Int)<n by omega)
 have a:(x%(n:Int)).toNat<l.length:=by omega
 refine ⟨l[(x%(n:Int)).toNat],ox b<|Ly a,NW a,?_⟩
 simp [List.getD,Ly a]
section
variable {σ:St}{δ:Dn}{d:D}{M:List Addr}{H:Hp}{ta te:TE}{t:TA}{E:Ends}{ds:List D}{K:PySem.W.Frag}
def f7(l:ap M H)(c:ay (but H M) σ δ)(h:ae ta (but H M) σ d)(k:∀a b,(∀j:Nat,j≠i->a[j]?=σ[j]?)->ab H b->ap M b->ay (but b M) a (δ.set i (some d))->E.nx a b):eY ta (cv i) E σ H:=
 h.at l λv b s r=>k _ b (λj e=>LB<|MC e) s (l.same s)<|(c.same s).set i r
def m4(l:ap M H)(r:ay (but H M) σ δ)(B:i<δ.length)(h:d8 t (but H M) σ ds)(x:ds.length<=sizeLine)
  (k:∀p g c f,(∀j:Nat,j≠i->c[j]?=σ[j]?)->c[i]?=some (some (.ref p))->p∉M->f p=some (.lst g)->aC (but f (p::M)) g ds->ap (p::M) f->(∀b o,H b=some o->b≠p/\f b=some o)->ay (but f (p::M)) c (δ.set i none)->E.nx c f):eY (jF t) (cv i) E σ H:=
 h M H (ab.refl _) l _ λg y m s=>⟨by rw [s.length];exact x,λp n=>by
  have C:=r.len
  refine k p g _ _ (λj z=>LB<|MC z) (LM Z4) ((l.same m).fresh n) aR (sk n s) ((l.same m).upd.cons aR) (λb o e=>?_) ?_
  .have u:=m b o e
   have w:b≠p:=da u n
   exact ⟨w,by rw [aA w];exact u⟩
  .have A:ay (but (upd y p (.lst g)) (p::M)) σ δ:=⟨r.len,λj d q=>let ⟨v,a,b⟩:=(r.same m).get j d q;⟨v,a,qJ n b⟩⟩
   exact A.off i _⟩
def El{k:Nat}(l:ap M H)(m:ay (but H M) σ δ)(z:i<δ.length)(e:σ[k]?=some (some (.ref a)))(u:H a=some (.lst f))(r:aC (but H M) f ds)
  (q:∀p c g,(∀j:Nat,j≠i->c[j]?=σ[j]?)->c[i]?=some (some (.ref p))->p∉M->g p=some (.lst f)->aC (but g (p::M)) f ds->ap (p::M) g->(∀b o,H b=some o->b≠p/\g b=some o)->ay (but g (p::M)) c (δ.set i none)->E.nx c g):
  eY (cD (λw H Q=>∃p n,w=[.ref p]/\(aP K H p n\/bq K H p n)/\∀l,H l=none->Q (.ref l) (upd H l (.lst n))) (bo (aW k) bA)) (cv i) E σ H:=
 ⟨.ref a,e,a,f,rfl,.inl<|aP.of u,λp h=>by
  have A:=m.len
  refine q p _ _ (λj x=>LB<|MC x) (LM Z4) (l.fresh h) aR (sk h r) (l.upd.cons aR) (λb o e=>?_) ?_
  .have s:b≠p:=da e h
   exact ⟨s,by rw [aA s];exact e⟩
  .have y:ay (but (upd H p (.lst f)) (p::M)) σ δ:=⟨m.len,λj d q=>let ⟨v,a,b⟩:=m.get j d q;⟨v,a,qJ h b⟩⟩
   exact y.off i _⟩
def sF{i:Nat}(l:ap M H)(m:ay (but H M) σ δ)(g:a∈M)(e:σ[i]?=some (some (.ref a)))(n:H a=some (.lst f))(r:aC (but H M) f ds)(p:ds.length<sizeLine)(h:ae te (but H M) σ d)
  (k:∀v c,(∀b o,b≠a->H b=some o->c b=some o)->ap M c->c a=some (.lst (f++[v]))->aC (but c M) (f++[v]) (ds++[d])->ay (but c M) σ δ->E.nx σ c):ln (ny K "list" nI (aW i) (bo te bA)) E σ H:=
 EQ l e n (by rw [r.length];exact p) h λv c s u=>by
  have j:but (upd c a (.lst<|f++[v])) M=but c M:=dD g
  refine k v _ (λb o w q=>by rw [aA w];exact s b o q) (l.same s).upd aR ?_ ?_
  .rw [j];exact (r.mono<|s.but M).snoc u
  .rw [j];exact m.same s
def mh{H c:Hp}{M:ZX}(g:a∈M)(k:∀b o,b≠a->H b=some o->c b=some o):ab (but H M) (but c M):=λb o e=>by
 obtain ⟨f,h⟩:=ax e
 rw [bh f]
 exact k b o (λz=>f (by rw [z];exact g)) h
def oG{Q:St->Hp->Prop}(g:al (but H M) x (.tup [e,f]))(k:∀c b,al (but H M) c e->al (but H M) b f->Q ((σ.set i (some c)).set j (some b)) H):nK K 2 (j7 (cv i) (j7 (cv j) pc)) x σ H Q:=by
 obtain ⟨a,o,rfl,h,l⟩:=g.fe
 obtain ⟨c,b,rfl,m,n⟩:=sL l
 exact ⟨a,_,rfl,bq.of (ax h).2,rfl,c,[b],rfl,b,[],rfl,rfl,k c b m n⟩
end
def D.toV:D->V
 |.int i=>.int i
 |.str x=>.str x
 |.bl b=>.bl b
 |_=>.av
def D.key:D->aK
 |.int i=>.inl i
 |.str x=>.inr x
 |_=>.inl 0
def AY{d:D}(h:d.sc=true):al H d.toV d:=by
 cases d with
 |int i=>exact .int i
 |str x=>exact .str x
 |_=>exact absurd h (by simp [D.sc])
def fP{d:D}(h:d.sc=true)(r:al H v d):v=d.toV/\v=kV d.key:=by
 cases r with
 |int i=>exact ⟨rfl,rfl⟩
 |str x=>exact ⟨rfl,rfl⟩
 |_=>exact absurd h (by simp [D.sc])
def wZ {a b:D}(d:a.sc=true)(c:b.sc=true):a.key=b.key↔a=b:=by
 cases a with
 |int i=>cases b<;>first|(exfalso;simp [D.sc] at c;done)|simp [D.key]
 |str i=>cases b<;>first|(exfalso;simp [D.sc] at c;done)|simp [D.key]
 |_=>exact absurd d (by simp [D.sc])
theorem wt (j:aK):∀(b a:List (aK×V)),bm (ci a b) j=b.foldl (λo p=>if j=p.1 then some p.2 else o) (bm a j)
 |[],a=>rfl
 |p::r,a=>by
  show bm (ci (cg a p.1 p.2) r) j=_
  rw [wt j r,uX]
  rfl
abbrev aO:=List (Str×D)
def pairD (ps:aO):List D:=ps.map λp=>.tup [.str p.1,p.2]
def bL (ps:aO):List (aK×V):=ps.map λp=>(Sum.inr p.1,p.2.toV)
def cb (ps:aO)(x:D):D:=ps.foldl (λacc p=>if D.str p.1=x then p.2 else acc) x
theorem qV{K:W.Frag}:∀{b:aO} {c:List V},(∀p∈b,p.2.sc=true)->aC (but H M) c (pairD b)->Pairs K H c (bL b)
 |[],_,_,.nil=>.nil
 |p::r,_,d,.cons (v:=v) h t=>by
  obtain ⟨a,m,rfl,e,f⟩:=h.fe
  obtain ⟨n,o,rfl,g,i⟩:=sL f
  refine .cons ⟨a,rfl,?_⟩<|qV (λq j=>d q<|Lv _ j) t
  have k:=(fP (d p Lz) i).1
  have l:=g.vP
  subst l k
  exact bq.of (ax e).2
theorem wu (x:D)(f:x.sc=true):∀(d:aO) (o:Option V) (c:D),(∀p∈d,p.2.sc=true)->o.getD x.toV=c.toV->c.sc=true->
  (((bL d).foldl (λo p=>if x.key=p.1 then some p.2 else o) o).getD x.toV=(d.foldl (λc p=>if D.str p.1=x then p.2 else c) c).toV/\(d.foldl (λc p=>if D.str p.1=x then p.2 else c) c).sc=true)
 |[],o,c,_,h,g=>⟨h,g⟩
 |p::r,o,c,j,h,g=>by
  have k:∀q∈r,q.2.sc=true:=λq l=>j q<|Lv _ l
  show ((bL r).foldl _<|if x.key=Sum.inr p.1 then some p.2.toV else o).getD x.toV=(r.foldl _<|if D.str p.1=x then p.2 else c).toV/\_
  by_cases e:D.str p.1=x
  .have i:x.key=Sum.inr p.1:=by rw [<-e];rfl
   rw [LJ e,LJ i]
   have:=wu x f r (some p.2.toV) p.2 k rfl<|j p Lz
   refine ⟨this.1,?_⟩
   show (r.foldl _<|if D.str p.1=x then p.2 else c).sc=true
   rw [LJ e];exact this.2
  .have i:¬x.key=Sum.inr p.1:=λz=>e ((wZ (a:=D.str p.1) (b:=x) rfl f).mp z.symm)
   rw [LG e,LG i]
   have:=wu x f r o c k h g
   refine ⟨this.1,?_⟩
   show (r.foldl _<|if D.str p.1=x then p.2 else c).sc=true
   rw [LG e];exact this.2
def ly {ps:aO}{x:D}(a:x.sc=true)(b:∀p∈ps,p.2.sc=true):(bm (ci [] (bL ps)) x.key).getD x.toV=(cb ps x).toV/\(cb ps x).sc=true:=by
 rw [wt]
 exact wu x a ps none x b rfl a
def Cq{G:Hp}{i:Nat}{x:D}(e:f[i]?=some (some (.ref a)))(q:G a=some (.dK (ci [] (bL b))))(c:x.sc=true)(m:∀p∈b,p.2.sc=true)(h:ae (aW j) G f x):ae (pE (aW i) (aW j) (aW j)) G f (cb b x):=
 λM H s l Q k=>by
  have n:=(ax<|s _ _ q).2
  refine ⟨.ref a,e,a,rfl,.inl ⟨_,.inl n⟩,h M H s l _ λy r d t=>h M r (s.trans<|d.but M) (l.same d) _ λz u o v=>?_⟩
  obtain ⟨B,w⟩:=fP c t
  obtain ⟨A,_⟩:=fP c v
  have g:=o _ _<|d _ _ n
  refine ⟨bm (ci []<|bL b) x.key,?_,?_⟩
  .rw [w];exact cR.k g
  .rw [A,(ly c m).1]
   exact k _ u (d.trans o)<|AY (ly c m).2
end FL
namespace FL
open PySem L2
def D.name:D->Str
 |.str s=>s
 |_=>Str.empty
def aJ:D->Bool
 |.str s=>Txt.isupper ⟨#[s.cps.getD 0 0]⟩
 |_=>false
def eZ (F:aO)(x:D):Bool:=F.any λp=>decide (D.str p.1=x)
def fS (F:aO)(x y:D):Option aO:=if (aJ x&& !eZ F x)=true then some (F++[(x.name,y)]) else if cb F x=y then some F else none
def fN:aO->List (D×D)->Option aO
 |F,[]=>some F
 |F,p::r=>(fS F p.1 p.2).bind λF'=>fN F' r
def Ks:eZ F (.str s)=true↔s∈F.map (·.1):=by
 unfold eZ
 rw [NX]
 constructor
 .rintro ⟨p,a,e⟩
  have:=LW e
  injection this with this
  exact LS.mpr ⟨p,a,this⟩
 .intro h
  obtain ⟨p,a,e⟩:=LS.mp h
  exact ⟨p,a,LV (by rw [e])⟩
def yy (P:aO):Prop:=∀p∈P,∀q∈P,p.1=q.1->p.2=q.2
def J1(f:yy F)(c:p∈F):cb F (.str p.1)=p.2:=by
 have b:∀(Q:aO) (a:D),(∀q∈Q,q∈F)->(a=p.2\/p∈Q)->Q.foldl (λa q=>if D.str q.1=D.str p.1 then q.2 else a) a=p.2:=by
  intro Q
  induction Q with
  |nil=>intro a _ h;rcases h with h|h;exact h;cases h
  |cons q r g=>
   intro a d h
   show r.foldl _ (if D.str q.1=D.str p.1 then q.2 else a)=p.2
   refine g _ (λt i=>d t<|Lv _ i) ?_
   by_cases e:D.str q.1=D.str p.1
   .rw [LJ e]
    injection e with e
    exact .inl<|f q (d q Lz) p c e
   .rw [LG e]
    rcases h with h|h
    .exact .inl h
    .rcases LK.mp h with rfl|h
     .exact absurd rfl e
     .exact .inr h
 exact b F _ (λq h=>h) (.inr c)
def jE(h:eZ F x=false):cb F x=x:=by
 have c:∀(Q:aO) (a:D),eZ Q x=false->Q.foldl (λa q=>if D.str q.1=x then q.2 else a) a=a:=by
  intro Q
  induction Q with
  |nil=>intro a _;rfl
  |cons q r d=>
   intro a e
   have b:(decide (D.str q.1=x)||eZ r x)=false:=e
   rw [NF] at b
   show r.foldl _ (if D.str q.1=x then q.2 else a)=a
   rw [LG<|MB b.1]
   exact d a b.2
 exact c F x h
end FL
namespace FL
open PySem L2
section
variable {X:Cx}{a:Expr}{ta:TE}{apos cpos:Pos}
def uB:V->List V->Hp->VK->Prop:=λx xs H Q=>∃z,x=.str z/\xs=[]/\Q (.bl (Txt.isupper z)) H
def J7:sK X "str.isupper" uB:=by
 intro b s e H x f v g Q I c d h
 obtain ⟨z,rfl,rfl,q⟩:=h
 obtain ⟨t,rfl⟩:=c
 cases d
 exact SC.isupper ⟨.bl _,H,I,rfl,q⟩
def Fa (h:PE X a ta)(b:attributeBase a "isupper" X.env (eval a X.env)=eval a X.env:=by rfl)(c:(apos.endLine==cpos.line)=true:=by rfl):PE X (.Call (.Attribute a "isupper" apos) [] [] cpos) (xv X.K "str" uB ta):=
 y3 PySem.F.plainAttrs_str PySem.F.slot_str_isupper PySem.F.type_str_isupper J7 h b c
end
section
variable {G:Hp}{σ:St}{ta tb te:TE}{d:D}{K:PySem.W.Frag}
def Dk(h:ae ta G σ (.str x)):ae (xv K "str" uB ta) G σ (.bl (Txt.isupper x)):=
 λM H s l Q k=>h M H s l _ λv a b c=>by
  rw [c.vP]
  exact ⟨rfl,x,rfl,rfl,k _ a b (.bl _)⟩
def IV{x:Str}(a:x.length<=sizeLine)(b:dO x.cps.toList i=some c)(e:ae ta G σ (.str x))(f:ae tb G σ (.int i)):ae (bY (gf K) ta tb) G σ (.str ⟨#[c]⟩):=
 jU (λM H v y l g h Q k=>.inr (.inr ⟨x,i,c,g.vP,h.eC,a,b,k _ H (ab.refl _) (.str _)⟩)) e f
def GH{d:D}(r:al H v d):decide (v=.av)=decide (d=.av):=by cases r<;>simp
end
def TV (tt:TT)(σ:St)(H:Hp)(b:Bool):Prop:=∀H1,ab H H1->∀Q:Bool->Hp->Prop,(∀H',ab H1 H'->Q b H')->tt σ H1 Q
section
variable {σ:St}{δ:Dn}{M:List Addr}{H:Hp}{tt tu:TT}{ta ty te:TE}{E:Ends}{b c:Bool}{d:D}{K:PySem.W.Frag}
def TV.of (l:ap M H)(h:br tt (but H M) σ b):TV tt σ H b:=λe a Q k=>h M e (a.but M) (l.same a) Q k
def Dd (h:TV tt σ H b)(g:b=true->TV tu σ H c):TV (w9 tt tu) σ H (b&&c):=λi e Q k=>h i e _ λf a=>by
 cases b with
 |true=>rw [LJ rfl];exact g rfl f (e.trans a) _ λj l=>k j<|a.trans l
 |false=>rw [LG LI];exact k f a
def vq {e f:TS}(l:ap M H)(g:ay (but H M) σ δ)(h:TV tt σ H b)(i:b=true->∀a,ab H a->ap M a->ay (but a M) σ δ->e E σ a)(j:b=false->∀a,ab H a->ap M a->ay (but a M) σ δ->f E σ a):lQ tt e f E σ H:=
 h H (ab.refl _) _ λa s=>by
  cases b with
  |true=>rw [LJ rfl];exact i rfl a s (l.same s)<|g.same s
  |false=>rw [LG LI];exact j rfl a s (l.same s)<|g.same s
def Io (F:aO)(n:Str)(y:D):ci [] (bL (F++[(n,y)]))=cg (ci [] (bL F)) (Sum.inr n) y.toV:=by
 simp [ci,bL,MS]
def Ex{x:D}(h:x.sc=true):(bm (ci [] (bL F)) x.key).isSome=eZ F x:=by
 rw [wt]
 have f:∀(Q:aO) (o:Option V),((bL Q).foldl (λo p=>if x.key=p.1 then some p.2 else o) o).isSome=(o.isSome||eZ Q x):=by
  intro Q
  induction Q with
  |nil=>intro o;simp [bL,eZ]
  |cons p r i=>
   intro o
   show ((bL r).foldl _<|if x.key=Sum.inr p.1 then some p.2.toV else o).isSome=_
   rw [i]
   show _=(o.isSome||(decide (D.str p.1=x)||eZ r x))
   by_cases e:D.str p.1=x
   .have g:x.key=Sum.inr p.1:=by rw [<-e];rfl
    rw [LJ g,LV e]
    simp
   .have g:¬x.key=Sum.inr p.1:=λz=>e ((wZ (a:=D.str p.1) (b:=x) rfl h).mp z.symm)
    rw [LG g,Mc e]
    simp
 have:=f F none
 simpa [bm] using this
def Hz{i:Nat}{x:D}(e:σ[i]?=some (some (.ref p)))(j:H p=some (.dK (ci [] (bL F))))(f:x.sc=true)(l:ap M H)(h:ae ty (but H M) σ x):TV (tB (nZ ty (aW i))) σ H (!eZ F x):=
 λm a Q k=>h M m (a.but M) (l.same a) _ λy n g o=>⟨.ref p,e,p,bm (ci []<|bL F) x.key,rfl,by rw [(fP f o).2];exact cR.k<|g _ _<|a _ _ j,_,rfl,by rw [Ex f];exact k n g⟩
def Jn{i:Nat}{x y:D}(e:σ[i]?=some (some (.ref p)))(w:H p=some (.dK (ci [] (bL F))))(o:x.sc=true)(A:y.sc=true)(s:∀q∈F,q.2.sc=true)(l:ap M H)(h:ae (aW j) (but H M) σ x)(B:ae (aW m) (but H M) σ y):
  TV (sM (bY (λx y H Q=>pf x y H Q\/oY x y H Q) (pE (aW i) (aW j) (aW j)) (aW m))) σ H (!decide (cb F x=y)):=
 λC a Q k=>by
  have g:=a _ _ w
  refine ⟨.ref p,e,p,rfl,.inl ⟨_,.inl g⟩,h M C (a.but M) (l.same a) _ λv G f I=>h M G ((a.trans f).but M) (l.same<|a.trans f) _ λz J r L=>?_⟩
  obtain ⟨e1,N⟩:=fP o I
  obtain ⟨O,_⟩:=fP o L
  refine ⟨bm (ci []<|bL F) x.key,by rw [N];exact cR.k<|r _ _<|f _ _ g,?_⟩
  rw [O,(ly o s).1]
  refine B M J ((a.trans<|f.trans r).but M) (l.same<|a.trans<|f.trans r) _ λu T U Y=>?_
  have t:=(ly (ps:=F) o s).2
  have n:=fu t A
  exact .inl ⟨cb F x,y,⟨M,AY t,Y,n.1,n.2⟩,_,rfl,k T<|f.trans<|r.trans U⟩
end
end FL
namespace FL
open PySem L2
def mU{d:Hp}(s:ab c H)(h:c a=none)(k:∀b o,b≠a->H b=some o->d b=some o):ab c d:=λb o e=>k b o (λz=>by rw [z,h] at e;cases e)<|s b o e
def none_of{c:Hp}(s:ab a H)(k:∀b o,H b=some o->b≠p/\c b=some o):a p=none:=by
 cases e:a p with
 |none=>rfl
 |some o=>exact absurd rfl (k p o<|s p o e).1
def GY (a:aO)(n:Str)(t:D):pairD (a++[(n,t)])=pairD a++[.tup [.str n,t]]:=by simp [pairD]
def wX{a:aO}{t:D}(h:∀p∈a,p.2.sc=true)(b:t.sc=true):∀p∈a++[(n,t)],p.2.sc=true:=λp c=>by
 rcases LY.mp c with q|q
 .exact h p q
 .rw [L4.mp q];exact b
section
variable {σ:St}{δ:Dn}{M:List Addr}{H:Hp}{tt tu:TT}{ta ty tz te:TE}{E:Ends}{b c:Bool}{d:D}{ds:List D}{K:PySem.W.Frag}
def va(e:ay (but H M) σ δ)(f:H p=none):ay (but (upd H p o) (p::M)) (σ.set i (some (.ref p))) (δ.set i none):=by
 have g:ay (but (upd H p o) (p::M)) σ δ:=⟨e.len,λj d q=>let ⟨v,a,b⟩:=e.get j d q;⟨v,a,qJ f b⟩⟩
 exact g.off i _
def IK{k:Nat}(l:ap M H)(n:ay (but H M) σ δ)(I:i<δ.length)(u:δ[k]?=some (some (.lst (pairD m))))(w:∀p∈m,p.2.sc=true)
  (q:∀p f g,(∀j:Nat,j≠i->f[j]?=σ[j]?)->f[i]?=some (some (.ref p))->p∉M->g p=some (.dK (ci [] (bL m)))->ap (p::M) g->(∀b o,H b=some o->b≠p/\g b=some o)->ay (but g (p::M)) f (δ.set i none)->E.nx f g):
  eY (cD (λx H Q=>∃a s h,x=[.ref a]/\aP K H a s/\Pairs K H s h/\∀p,H p=none->Q (.ref p) (upd H p (.dK (ci [] h)))) (bo (aW k) bA)) (cv i) E σ H:=by
 obtain ⟨v,y,z⟩:=n.get k _ u
 obtain ⟨a,A,rfl,B,C⟩:=z.d7
 refine ⟨.ref a,y,a,A,bL m,rfl,aP.of (ax B).2,qV w C,λp r=>?_⟩
 have J:=n.len
 refine q p _ _ (λj G=>LB<|MC G) (LM Z4) (l.fresh r) aR (l.upd.cons aR) (λb o e=>?_)<|va n r
 have t:b≠p:=da e r
 exact ⟨t,by rw [aA t];exact e⟩
def HB{k:Nat}(l:ap M H)(s:ay (but H M) σ δ)(u:i<δ.length)(w:δ[k]?=some (some (.lst ds)))
  (q:∀p t m n,(∀j:Nat,j≠i->m[j]?=σ[j]?)->m[i]?=some (some (.ref p))->p∉M->n p=some (.lst t)->aC (but n (p::M)) t ds->ap (p::M) n->(∀b o,H b=some o->b≠p/\n b=some o)->ay (but n (p::M)) m (δ.set i none)->E.nx m n):
  eY (cD (λx H Q=>∃p r,x=[.ref p]/\(aP K H p r\/bq K H p r)/\∀l,H l=none->Q (.ref l) (upd H l (.lst r))) (bo (aW k) bA)) (cv i) E σ H:=by
 obtain ⟨v,y,z⟩:=s.get k _ w
 obtain ⟨a,A,rfl,B,C⟩:=z.d7
 exact El l s u y (ax B).2 C λp m n a b c d e f g h=>q p A m n a b c d e f g h
def zK{i:Nat}{y:D}(l:ap M H)(t:ay (but H M) σ δ)(m:p∈M)(e:σ[i]?=some (some (.ref p)))(w:H p=some (.dK (ci [] (bL F))))(x:y.sc=true)(N:F.length<1000)(h:ae ty (but H M) σ (.str n))(z:ae tz (but H M) σ y)
  (k:∀f,(∀b o,b≠p->H b=some o->f b=some o)->ap M f->f p=some (.dK (ci [] (bL (F++[(n,y)]))))->ay (but f M) σ δ->E.nx σ f):tW (aW i) ty tz E σ H:=by
 refine z M H (ab.refl _) l _ λv A a B=>⟨.ref p,e,h M A (a.but M) (l.same a) _ λu s j C=>?_⟩
 have r:=j _ _<|a _ _ w
 have G:=(fP (d:=.str n) rfl C).2
 have I:=(fP x B).1
 have g:(ci []<|bL F).length<sizeLine:=by
  have:=vw (bL F) []
  simp only [bL,LA,NI,MY] at this
  exact cy (by unfold bL;omega)
 refine ⟨p,_,rfl,by rw [G];exact gt.k (k:=Sum.inr n) r g,?_⟩
 have J:but (upd s p (.dK<|cg (ci []<|bL F) (Sum.inr n) v)) M=but s M:=dD m
 refine k _ (λb o L q=>by rw [aA L];exact j _ _<|a _ _ q) (l.same<|a.trans j).upd ?_ ?_
 .rw [aR,I]
  show some (HO.dK<|cg _ _ _)=some (HO.dK<|ci []<|bL<|F++[(n,y)])
  rw [Io]
 .rw [J];exact t.same<|a.trans j
end
end FL
namespace L2
open PySem PySem.Spec PyProof.Rows
section
variable {X:Cx}
def II(h:(du P w).is k u=true):RelV (kV k) u:=by
 rw [IA] at h
 rcases jg h with ⟨i,t,rfl,rfl⟩|⟨x,t,rfl,rfl⟩
 .exact ⟨t,rfl⟩
 .exact ⟨t,rfl⟩
def Jr (L:X.calm=true):il X (.type "list") (λE H Q=>∃a b,E=[.ref a]/\Rd H a (.dK b)/\∀l,H l=none->Q (.ref l) (upd H l (.lst (b.map λg=>kV g.1)))):=by
 intro G s σ H E us Q I r h
 obtain ⟨a,b,rfl,e,q⟩:=h
 obtain ⟨u,rfl,M⟩:=PV r
 cases M
 obtain ⟨z,N,J,bB,O⟩:=ic I.az e
 obtain ⟨T,o⟩:=O.dictAt
 have i:=bB.length
 refine W.kdl_call (W.kdl_dict (knd:=du X.prog X.w) (kvs:=J) (ep:=T) N) (I.ok.hd L) o (by rw [<-i];exact z) λU Y c c' hk hS f=>?_
 have rv:a9 (b.map λg=>kV g.1) c.toList:=by
  have y:∀(A:List (aK×V)) (m:List (aK×Value)) (d:List Value),KV A m->d.length=m.length->(∀(j:Nat) v,d[j]?=some v->∃k x,m[j]?=some (k,x)/\(du X.prog X.w).is k v=true)->a9 (A.map λg=>kV g.1) d:=by
   intro A m d rk
   induction rk generalizing d with
   |nil=>intro i _;cases d with
    |nil=>exact .nil
    |cons _ _=>cases i
   |@cons p q ps qs B t ih=>
    intro i n
    cases d with
    |nil=>cases i
    |cons v d=>
     obtain ⟨k,x,C,h2⟩:=n 0 v rfl
     have C:q=(k,x):=LQ C
     refine .cons ?_ (ih d (Nat.succ.inj i) λj u hu=>n (j+1) u hu)
     have e1:p.1=k:=by rw [B.1,C]
     show RelV (kV p.1) v
     rw [e1]
     exact II h2
  exact y b J c.toList bB (by rw [Oo];exact f.1) λj v n=>f.2 j v (by rw [<-Qf];exact n)
 exact ⟨.ref s.heap.objs.size,_,I.laid (t':=Y) hk (LF _) (show bX X.prog X.w _ U _ (.lst<|b.map λg=>kV g.1) from ⟨by rw [LA];exact z,c.toList,c',rv,by rw [Array.toArray_toList];exact hS⟩),rfl,q _<|I.az.fresh<|LF _⟩
def GN (C:X.calm=true):il X (.builtin "all") (λn H Q=>∃(a:Addr) (d:List Bool),n=[.ref a]/\aP X.K H a (d.map V.bl)/\Q (.bl (d.all id)) H):=by
 intro t s T H n U Q I r h
 obtain ⟨a,d,rfl,x,q⟩:=h
 obtain ⟨u,rfl,E⟩:=PV r
 cases E
 obtain ⟨c,j,p,G⟩:=I.list x
 refine call_all_walk<|Nj p.isList ?_
 have k:a≠s.heap.objs.size:=by
  obtain ⟨o,J,_⟩:=p.isList
  exact Mf<|L1 J
 have f:c.length=d.length:=by have:=j.length;rw [LA] at this;exact this.symm
 refine ⟨s.heap.objs.size,_,_,c.toArray.size,_,_,λi=>d.getD i true,rfl,Walks.list (A:=X.A.in1) (prog:=X.prog) (w:=X.w) (show X.A.in1.handled=none from I.ok.hd C) s.heap.objs.size a k c.toArray,⟨⟨_,L0 _ rfl,rfl,rfl⟩,p.isList.push _⟩,λi v Y Q' E' g l=>?_,λh' L M=>?_⟩
 .have g:c[i]?=some v:=by simpa using g
  have hi:i<c.length:=(Lx.mp g).1
  have N:(d.map V.bl)[i]?=some (.bl<|d.getD i true):=by
   rw [LO,Ly Z4,List.getD,Ly Z4]
   rfl
  obtain ⟨w',y,m⟩:=j.get N
  rw [g] at y
  cases y
  obtain rfl:v=Value.bool (d.getD i true):=m
  exact MT l
 .have e:(List.range c.toArray.size).all (λi=>d.getD i true)=d.all id:=by
   rw [LU,f]
   clear f j G x q
   induction d with
   |nil=>rfl
   |cons b r O=>
    rw [Mq,List.range_succ_eq_map,Og,Pk]
    show (b&&(List.range r.length).all λi=>r.getD i true)=(b&&r.all id)
    rw [O]
  refine ⟨.bl<|d.all id,H,I.kept (t':=L) λb o B=>M b o (λz=>?_)<|LC _ B,MA Value.bool e,q⟩
  have:b=s.heap.objs.size:=by simpa using z
  exact absurd (L1 B) (by rw [this];exact MV _)
end
end L2
namespace L2
open PySem PySem.Spec PyProof.Rows
section
variable {X:Cx}
def Bk (K:PySem.W.Frag):R2:=λx y H Q=>∃a b xs ys,x=.ref a/\y=.ref b/\bq K H a xs/\bq K H b ys/\xs.length+ys.length<=sizeLine/\
 (xs=[]->Q (.ref b) H)/\(xs≠[]->ys=[]->Q (.ref a) H)/\(xs≠[]->ys≠[]->∀p,H p=none->Q (.ref p) (upd H p (.tup (xs++ys))))
def yi:cK X (binaryOp .Add) (Bk X.K):=by
 intro c s B H x y v u Q I l m h
 obtain ⟨a,b,o,C,rfl,rfl,p,q,E,G,J,L⟩:=h
 by_cases d:o=[]
 .cases l
  cases m
  obtain ⟨e,M,N,_⟩:=I.tuple p
  obtain ⟨f,r2,O,_⟩:=I.tuple q
  have T:e=[]:=M.qU.mpr d
  obtain ⟨⟨U,Y,r,sl⟩,t,w,n,z⟩:=id N
  obtain ⟨⟨A,j,data2,k⟩,g,i,n2,dw⟩:=id O
  simp only at w z i dw
  subst w z i dw
  exact concat_meets ⟨_,t,rfl⟩ ⟨_,g,rfl⟩ PX seq_tuple_add OL OH (Oq _ _)
   (tuple_addW0 a b e.toArray f.toArray n n2 Y j sl k (by simp [T])) ⟨t,g,⟨.ref b,H,I,rfl,G d⟩⟩
 .exact JH c s B H _ _ v u Q I l m ⟨a,b,o,C,rfl,rfl,p,q,d,E,J d,L d⟩
end
end L2
namespace FL
open PySem L2
section
variable {G:Hp}{σ:St}{ta tb:TE}{K:PySem.W.Frag}{xs ys:List D}
def B9 (u:xs.length+ys.length<=1000)(j:ae ta G σ (.tup xs))(m:ae tb G σ (.tup ys)):ae (bY (Bk K) ta tb) G σ (.tup (xs++ys)):=
 jU (λM H v y l n o Q k=>by
  obtain ⟨a,q,rfl,f,c⟩:=n.fe
  obtain ⟨b,r,rfl,g,d⟩:=o.fe
  have s:=c.length
  have t:=d.length
  refine ⟨a,b,q,r,rfl,rfl,bq.of (ax f).2,bq.of (ax g).2,Nc<|cy Z4,λe=>?_,λe h=>?_,λe h p i=>?_⟩
  .have:xs=[]:=MU (by rw [<-s,e];rfl)
   rw [this,NK] at k
   exact k _ H (ab.refl _) (.tup g d)
  .have:ys=[]:=MU (by rw [<-t,h];rfl)
   rw [this,Mi] at k
   exact k _ H (ab.refl _) (.tup f c)
  .exact k _ _ (dr i _)<|nu l i<|c.append d) j m
def pr (q:xs.length+ys.length<=1000)(f:ae ta G σ (.lst xs))(g:ae tb G σ (.lst ys)):ae (bY Cn ta tb) G σ (.lst (xs++ys)):=
 jU (λM H v y l h i Q k=>by
  obtain ⟨a,j,rfl,m,c⟩:=h.d7
  obtain ⟨b,n,rfl,o,d⟩:=i.d7
  have r:=c.length
  have s:=d.length
  exact ⟨a,b,j,n,rfl,rfl,(ax m).2,(ax o).2,Nc<|cy Z4,λp e=>k _ _ (dr e _)<|qC l e<|c.append d⟩) f g
end
section
variable {X:Cx}{N':List Str}{scope:Scope}{cl:List (Str×Addr)}{C:Addr}{fp:List Addr}{s:Shared}{H:Hp}
def kA(h:aV X.prog X.w X.K X.mg X.base n x i g)(j:cS m X.A)(k:PA (bD X N' scope cl C fp s H) (e::a) t)(c:n<=m:=by decide)
  (l:Gl (bD X N' scope cl C fp s H) x:=by rfl) (d:(x==("__debug__":Str))=false:=by decide) (o:starEach (e::a) (bD X N' scope cl C fp s H).env=(false,eval e (bD X N' scope cl C fp s H).env)::starEach a (bD X N' scope cl C fp s H).env:=by rfl) (f:(backTo b (starEach a (bD X N' scope cl C fp s H).env)).any (·.1)=false:=by rfl):
  PE (bD X N' scope cl C fp s H) (.Call (.Name x p) (e::a) [] b) (iF g [] E0 t):=bG (X:=bD X N' scope cl C fp s H) h j k c l d o f
end
structure ee (P:Program)(w:World)(K:PySem.W.Frag)(mg:Str->Option Value)(base:Heap)(n:Nat)(C:Addr)(m:Str)(ps:List Str)(sp:Sp):Prop where
 ex:∃f fd,bp P w K mg base bz n f fd ps sp/\Binds K fd ps []/\c8 K C m f
structure jo (P:Program)(w:World)(K:PySem.W.Frag)(mg:Str->Option Value)(base:Heap)(n:Nat)(C:Addr)(x:Str)(ps:List Str)(sp:Sp):Prop where
 ex:∃f fd,bp P w K mg base bz n f fd ps sp/\Binds K fd ps []/\Mk K C f/\mg x=some (.ref C)
section
variable {X:Cx}{C:Addr}
def jP(v:PE X o r)(c:dm X.K C)(h:ee X.prog X.w X.K X.mg X.base n C m u q)(x:cS k X.A)(y:PA X (e::g) t)(i:n<=k:=by decide)
  (j:starEach (e::g) X.env=(false,eval e X.env)::starEach g X.env:=by rfl) (l:(backTo a (starEach g X.env)).any (·.1)=false:=by rfl)
  (z:eval (.Call (.Attribute o m d) (e::g) [] a) X.env=(do
   let s<-eval o X.env
   standAt d.atName
   let (f,first)<-holding [s] (getMethod s m p)
   callWith a f first (backTo a (starEach (e::g) X.env)) (backToKw a (keywordEach [] X.env))):=by rfl):
  PE X (.Call (.Attribute o m d) (e::g) [] a) (lq C m q [] E0 r t):=by
 obtain ⟨f,B,F,b,M⟩:=h.ex
 exact GS (pl:=p) v c M (F.mono i) x b .nil rW y j l z
def wf(h:jo X.prog X.w X.K X.mg X.base n C x l j)(m:cS (k+1) X.A)(o:PA X (e::a) t)(d:n<=k:=by decide)
  (q:Gl X x:=by rfl) (g:(x==("__debug__":Str))=false:=by decide) (r:starEach (e::a) X.env=(false,eval e X.env)::starEach a X.env:=by rfl) (i:(backTo c (starEach a X.env)).any (·.1)=false:=by rfl):
  PE X (.Call (.Name x p) (e::a) [] c) (sn C j [] E0 t):=by
 obtain ⟨f,u,F,b,M,s⟩:=h.ex
 exact Jt M (F.mono d) m q s b .nil rW o g r i
end
section
variable {X:Cx}{e:Expr}{te:TE}{p pos:Pos}
def IJ (B:Bl X.mg)(h:PE X e te)(d:X.calm=true:=by rfl)(f:Gl X "list":=by rfl)(c:starEach [e] X.env=(false,eval e X.env)::starEach [] X.env:=by rfl):PE X (.Call (.Name "list" p) [e] [] pos)
  (cD (λg H Q=>∃a b,g=[.ref a]/\Rd H a (.dK b)/\∀l,H l=none->Q (.ref l) (upd H l (.lst (b.map λi=>kV i.1)))) (bo te bA)):=
 qd (Jr d) f B.list N5 (ai h aw c) (he:=c)
def xS (B:Bl X.mg)(h:PE X e te)(d:X.calm=true:=by rfl)(f:Gl X "all":=by rfl)(b:starEach [e] X.env=(false,eval e X.env)::starEach [] X.env:=by rfl):PE X (.Call (.Name "all" p) [e] [] pos)
  (cD (λg H Q=>∃(a:Addr) (c:List Bool),g=[.ref a]/\aP X.K H a (c.map V.bl)/\Q (.bl (c.all id)) H) (bo te bA)):=
 oM (GN d) f B.all PyProof.Rows.boot_all (ai h aw b) (he:=b)
end
section
variable {G:Hp}{σ:St}{ta:TE}{t:TA}{K:PySem.W.Frag}
theorem Ak:∀{a:List V} {c:List Bool},aC H a (c.map D.bl)->a=c.map V.bl
 |_,[],.nil=>rfl
 |_,b::r,.cons h t=>by rw [h.jA,Ak t];rfl
def yu {bs:List Bool}(h:d8 t G σ [.lst (bs.map D.bl)]):ae (cD (λb H Q=>∃(a:Addr) (bs:List Bool),b=[.ref a]/\aP K H a (bs.map V.bl)/\Q (.bl (bs.all id)) H) t) G σ (.bl (bs.all id)):=
 ql (λM H b l c Q k=>by
  obtain ⟨v,rfl,r⟩:=iu c
  obtain ⟨a,f,rfl,d,e⟩:=r.d7
  refine ⟨a,bs,rfl,?_,k _ H (ab.refl _) (.bl _)⟩
  rw [<-Ak e]
  exact aP.of (ax d).2) h
def AT(h:ae ta G σ (.lst b)):br (λσ H Q=>ta σ H λx c=>∃k,ri K x c k/\Q k c) G σ (!b.isEmpty):=λM H s l Q k=>h M H s l _ λv d e f=>by
 obtain ⟨a,g,rfl,i,j⟩:=f.d7
 refine ⟨!b.isEmpty,.inl ⟨g,aP.of (ax i).2,?_⟩,k d e⟩
 cases j<;>rfl
end
end FL
namespace PySem
section
variable {prog:Program}{w:World}{K:Type} [DecidableEq K] {knd:HeapKind prog w K}{A:Around}{E:Value->Shared->Prop}{s:Shared}
def Kh (knd:HeapKind prog w K)(d:Addr)(c:(d==sysModules)=false):
  MeetsIn prog w (Builtin.«dict.__len__» ⟨[.ref d],[]⟩) (λ_ R s=>∃b,s.heap.DictOfH knd d b/\R (.ok (.ret (.int b.length s.toks))) {s with toks:=s.toks+1}):=
 .of_wp λA R s e=>by
  obtain ⟨b,f,h⟩:=e
  obtain ⟨o,g,l,i,m,a,j,k,n⟩:=f
  show wpAny _ _ (dictSize d>>=_) _ _ s
  unfold dictSize
  refine Lw<|Lw<|wpAny_dictEntries i a<|LN ?_
  show wpAny _ _ (Builtin.Dict.pendingCount d>>=_) _ _ s
  refine Lw<|wpAny_pendingCount_other c ?_
  refine wpAny_ret_mkInt ?_
  have:g.size=b.length:=size_of_entries j
  rw [Nat.add_zero,this];exact h
def C4{Q:ZT}(e:(d==sysModules)=false)(b:s.heap.DictOfH knd d a)(c:(a.length:Int)<2^63)
  (h:Q (.int a.length (s.toks+1)) {s with toks:=s.toks+1+1}):wpAny (model prog w) A (call (.builtin "len") [.ref d]) Q E s:=by
 refine Calls.call_function_entry kind_len plain_len entry_len (args_len1 _) ?_
 unfold Builtin.«len»
 refine Lw (m:=oneArg "len" _)<|LN ?_
 refine Lw (m:=callSpecial? (.ref d)<|Str.ofString "__len__") (MN (name:=Str.ofString "__len__") b.typeIs F.slot_dict_len
  (N0 F.slot_dict_len b.typeIs F.entry_dict_len (F.args_dict_len_1 _) (Kh knd d e) ⟨a,b,?_⟩))
 show wpAny _ _ _ _ _ {s with toks:=s.toks+1}
 refine Lw<|Nd<|LN ?_
 refine Lw<|Od ?_
 show wpAny _ _ (if ((a.length:Nat):Int)<0 then _ else _) _ _ _
 rw [LG Z4]
 show wpAny _ _ (if ((a.length:Nat):Int)≥2^63 then _ else _) _ _ _
 rw [LG Z4]
 exact Lw<|wpAny_mkInt<|LN ⟨_,rfl,h⟩
end
end PySem
namespace L2
open PySem PySem.Spec PyProof.Rows
section
variable {X:Cx}
def pQ:List V->Hp->VK->Prop:=λxs H Q=>(∃a kvs,xs=[.ref a]/\Rd H a (.dK kvs)/\Q (.int kvs.length) H)\/∃a kvs,xs=[.ref a]/\Rd H a (.dT kvs)/\Q (.int kvs.length) H
def DF:il X (.builtin "len") pQ:=by
 intro d s l H g m Q I r h
 rcases h with ⟨a,b,rfl,e,q⟩|⟨a,b,rfl,e,q⟩
 .obtain ⟨u,rfl,c⟩:=PV r
  cases c
  exact Dl I e λt n i=>⟨.int b.length,H,i,⟨t,rfl⟩,q⟩
 .obtain ⟨u,rfl,c⟩:=PV r
  cases c
  obtain ⟨z,j,g,bB,k⟩:=kl I.az e
  have f:=Nr bB
  refine C4 j k (by rw [<-f];rw [PF] at z;omega) ?_
  rw [<-f]
  exact ⟨.int b.length,H,I.tok _,⟨_,rfl⟩,q⟩
end
end L2
namespace FL
open PySem L2
section
variable {X:Cx}{e:Expr}{te:TE}{p pos:Pos}
def vx (B:Bl X.mg)(h:PE X e te)(b:Gl X "len":=by rfl)(a:starEach [e] X.env=(false,eval e X.env)::starEach [] X.env:=by rfl):PE X (.Call (.Name "len" p) [e] [] pos) (cD pQ (bo te bA)):=
 oM DF b B.len PySem.boot_len (ai h aw a) (he:=a)
end
section
variable {X:Cx}{N':List Str}{scope:Scope}{cl:List (Str×Addr)}{C:Addr}{fp:List Addr}{s:Shared}{H:Hp}{e:Expr}{te:TE}{p pos:Pos}
end
end FL
namespace FL
open PySem L2
section
variable {X:Cx}{N':List Str}{scope:Scope}{cl:List (Str×Addr)}{C:Addr}{fp:List Addr}{s:Shared}{H:Hp}{e:Expr}{te:TE}{p pos:Pos}{f:Str}
def qg (a:PE (bD X N' scope cl C fp s H) e te)(b:attributeBase e f (bD X N' scope cl C fp s H).env (eval e (bD X N' scope cl C fp s H).env)=eval e (bD X N' scope cl C fp s H).env):PE (bD X N' scope cl C fp s H) (.Attribute e f pos) (kW X.K te f):=dC (X:=bD X N' scope cl C fp s H) a b
def yw (b:PE (bD X N' scope cl C fp s H) e te)(c:∀f6,isTrue e (bD X N' scope cl C fp s H).env f6=(do let v<-f6;standAt e.pos;holding [v] (truthy v))):
  PT (bD X N' scope cl C fp s H) e (λd H Q=>te d H λx a=>∃k,ri X.K x a k/\Q k a):=vA (X:=bD X N' scope cl C fp s H) b c
end
end FL
namespace FL
open PySem L2
def ar (V:Str->D)(B:List Str):aO:=B.map λb=>(b,V b)
def bb (V:Str->D)(x:D):D:=if aJ x=true then V x.name else x
def cm (B:List Str)(x:D):List Str:=if (aJ x&& !decide (x.name∈B))=true then B++[x.name] else B
def ak (B:List Str)(l:List D):List Str:=l.foldl cm B
def cr (B:List Str):Prop:=∀b∈B,aJ (.str b)=true
def jl(h:aJ x=true):x=.str x.name:=by
 cases x with
 |str s=>rfl
 |_=>cases h
def cr.add(h:cr B)(x:D):cr (cm B x):=λb a=>by
 unfold cm at a
 by_cases e:(aJ x&& !decide (x.name∈B))=true
 .rw [LJ e] at a
  rcases LY.mp a with z|z
  .exact h b z
  .rw [L4.mp z]
   rw [MD] at e
   rw [<-jl e.1];exact e.1
 .rw [LG e] at a;exact h b a
def ya{B:ZY}(h:b∈B):b∈cm B x:=by
 unfold cm
 by_cases e:(aJ x&& !decide (x.name∈B))=true
 .rw [LJ e];exact LL _ h
 .rw [LG e];exact h
def BY(h:aJ x=true):x.name∈cm B x:=by
 unfold cm
 by_cases e:x.name∈B
 .rw [LG (by simp [e])];exact e
 .rw [LJ (by simp [e,h])];exact LH _<|L4.mpr rfl
def EM(h:b∈cm B x):b∈B\/(aJ x=true/\b=x.name):=by
 unfold cm at h
 by_cases e:(aJ x&& !decide (x.name∈B))=true
 .rw [LJ e] at h
  rw [MD] at e
  rcases LY.mp h with z|z
  .exact .inl z
  .exact .inr ⟨e.1,L4.mp z⟩
 .rw [LG e] at h;exact .inl h
def Gg{B:ZY}(h:B.Nodup):(cm B x).Nodup:=by
 unfold cm
 by_cases e:(aJ x&& !decide (x.name∈B))=true
 .rw [LJ e]
  rw [MD] at e
  have c:x.name∉B:=by simpa using e.2
  rw [Np]
  refine ⟨h,by simp,?_⟩
  intro a d b f
  rw [L4.mp f]
  exact λz=>c<|z▸d
 .rw [LG e];exact h
def ud:∀{B:ZY} {b:Str},b∈B->b∈ak B l:=by
 induction l with
 |nil=>exact λh=>h
 |cons x r a=>exact λh=>a<|ya h
def iS:∀{B:ZY},cr B->cr (ak B l):=by
 induction l with
 |nil=>exact λh=>h
 |cons x r a=>exact λh=>a<|h.add x
def zV:∀{B:ZY},B.Nodup->(ak B l).Nodup:=by
 induction l with
 |nil=>exact λh=>h
 |cons x r a=>exact λh=>a<|Gg h
def ma{l:ZZ}(a:x∈l)(h:aJ x=true):∀{B:ZY},x.name∈ak B l:=by
 induction l with
 |nil=>cases a
 |cons y r b=>
  intro B
  rcases LK.mp a with rfl|a
  .exact ud (l:=r) (B:=cm B x)<|BY h
  .exact b a
def vT:∀{B:ZY},b∈ak B l->b∈B\/∃x∈l,aJ x=true/\b=x.name:=by
 induction l with
 |nil=>exact λh=>.inl h
 |cons y r a=>
  intro B h
  rcases a h with z|⟨x,c,z⟩
  .rcases EM z with z|⟨d,e⟩
   .exact .inl z
   .exact .inr ⟨y,Lz,d,e⟩
  .exact .inr ⟨x,Lv _ c,z⟩
def HI (V:Str->D)(B:ZY):yy (ar V B):=λp a q d e=>by
 obtain ⟨b,_,rfl⟩:=LS.mp a
 obtain ⟨c,_,rfl⟩:=LS.mp d
 have e:b=c:=e
 rw [e]
def yz {V a:Str->D}{B:ZY}(h:∀b∈B,a b=V b):ar a B=ar V B:=Md λb c=>by rw [h b c]
def uS{V:Str->D}(a:aJ x=true):eZ (ar V B) x=decide (x.name∈B):=by
 rw [jl a]
 have h:=Ks (F:=ar V B) (s:=x.name)
 have e:(ar V B).map (·.1)=B:=by simp [ar,Mn,Function.comp_def]
 rw [e] at h
 show eZ (ar V B) (.str x.name)=decide (x.name∈B)
 by_cases z:x.name∈B
 .rw [h.mpr z,LV z]
 .rw [Mc z]
  cases q:eZ (ar V B) (.str x.name) with
  |false=>rfl
  |true=>exact absurd (h.mp q) z
def n9{V:Str->D}(a:cr B)(c:aJ x=false):eZ (ar V B) x=false:=by
 cases q:eZ (ar V B) x with
 |false=>rfl
 |true=>
  obtain ⟨p,d,e⟩:=NX.mp q
  obtain ⟨b,f,rfl⟩:=LS.mp d
  have e:D.str b=x:=LW e
  have:=a b f
  rw [e,c] at this;cases this
def ou{V:Str->D}{B:ZY}(a:b∈B):cb (ar V B) (.str b)=V b:=J1 (HI V B) (p:=(b,V b))<|LS.mpr ⟨b,a,rfl⟩
def kL{V:Str->D}(a:cr B)(b:aJ x=true->x.name∈B):cb (ar V B) x=bb V x:=by
 unfold bb
 by_cases e:aJ x=true
 .rw [LJ e]
  have:=ou (V:=V)<|b e
  rw [<-jl e] at this
  exact this
 .rw [LG e]
  exact jE<|n9 a (by simpa using e)
def GO{V:Str->D}(a:cr B)(x:D):fS (ar V B) x (bb V x)=some (ar V (cm B x)):=by
 unfold fS cm
 by_cases e:aJ x=true
 .rw [uS e]
  by_cases z:x.name∈B
  .rw [LG (by simp [z]),kL a λ_=>z,LJ rfl,LG (by simp [z])]
  .rw [LJ (by simp [z,e]),LJ (by simp [z,e])]
   unfold bb ar
   rw [LJ e,Me]
   rfl
 .have b:aJ x=false:=by simpa using e
  rw [LG (by simp [b]),kL a λz=>absurd z e,LJ rfl,LG (by simp [b])]
def IT{V a:Str->D}(h:∀b∈cm B x,a b=V b):bb a x=bb V x:=by
 unfold bb
 by_cases e:aJ x=true
 .rw [LJ e,LJ e,h _<|BY e]
 .rw [LG e,LG e]
def EA{V:Str->D}(d:cr B)(h:fS (ar V B) x y=some f):∃a,(∀b∈B,a b=V b)/\f=ar a (cm B x)/\y=bb a x:=by
 unfold fS at h
 by_cases e:aJ x=true
 .rw [uS e] at h
  by_cases z:x.name∈B
  .rw [LG (by simp [z]),kL d λ_=>z] at h
   by_cases q:bb V x=y
   .rw [LJ q] at h
    refine ⟨V,λ_ _=>rfl,?_,q.symm⟩
    unfold cm
    rw [LG (by simp [z])]
    exact (LQ h).symm
   .rw [LG q] at h;cases h
  .rw [LJ (by simp [z,e])] at h
   refine ⟨λb=>if b=x.name then y else V b,λb c=>LG λw=>z (by rw [<-w];exact c),?_,?_⟩
   .have i:=LQ h
    rw [<-i]
    unfold cm
    rw [LJ (by simp [z,e])]
    unfold ar
    rw [Me]
    congr 1
    .exact Md λb c=>by
      have:b≠x.name:=λw=>z (by rw [<-w];exact c)
      simp [this]
    .simp
   .unfold bb
    rw [LJ e]
    simp
 .have g:aJ x=false:=by simpa using e
  rw [LG (by simp [g]),kL d λz=>absurd z e] at h
  by_cases q:bb V x=y
  .rw [LJ q] at h
   refine ⟨V,λ_ _=>rfl,?_,q.symm⟩
   unfold cm
   rw [LG (by simp [g])]
   exact (LQ h).symm
  .rw [LG q] at h;cases h
theorem Bz {V:Str->D}:∀(l:ZZ) {B:ZY},cr B->fN (ar V B) (l.zip (l.map (bb V)))=some (ar V (ak B l))
 |[],B,_=>rfl
 |x::r,B,a=>by
  show (fS (ar V B) x<|bb V x).bind (λb=>fN b<|r.zip<|r.map<|bb V)=_
  rw [GO a]
  exact Bz r<|a.add x
theorem B6:∀(l f:ZZ) {V:Str->D} {B:ZY} {a:aO},cr B->l.length=f.length->fN (ar V B) (l.zip f)=some a->∃d,(∀b∈B,d b=V b)/\a=ar d (ak B l)/\f=l.map (bb d)
 |[],[],V,B,a,_,_,h=>⟨V,λ_ _=>rfl,(LQ h).symm,rfl⟩
 |[],_::_,_,_,_,_,c,_=>by cases c
 |_::_,[],_,_,_,_,c,_=>by cases c
 |x::r,y::t,V,B,a,g,c,h=>by
  have h:(fS (ar V B) x y).bind (λa=>fN a<|r.zip t)=some a:=h
  cases e:fS (ar V B) x y with
  |none=>rw [e] at h;cases h
  |some n=>
   rw [e] at h
   obtain ⟨o,j,rfl,k⟩:=EA g e
   obtain ⟨m,b1,b2,b3⟩:=B6 r t (g.add x) (Nat.succ.inj c) h
   refine ⟨m,λb i=>(b1 b<|ya i).trans<|j b i,b2,?_⟩
   rw [Mu,<-b3,k,IT b1]
def bE (A f:List D)(S:aO):Option aO:=if A.headD .av=f.headD .av/\A.length=f.length then fN S (A.zip f) else none
def CP{V:Str->D}(b:A≠[])(a:aJ (A.headD .av)=false):A.headD .av=(A.map (bb V)).headD .av:=by
 cases A with
 |nil=>exact absurd rfl b
 |cons x r=>
  show x=bb V x
  unfold bb
  have a:aJ x=false:=a
  rw [LG (by rw [a];exact LI)]
def wK{V:Str->D}(a:cr B)(b:A≠[])(c:aJ (A.headD .av)=false):bE A (A.map (bb V)) (ar V B)=some (ar V (ak B A)):=by
 unfold bE
 rw [LJ ⟨CP b c,by rw [LA]⟩]
 exact Bz A a
def iB{V:Str->D}(d:cr B)(h:bE A f (ar V B)=some c):∃a,(∀b∈B,a b=V b)/\c=ar a (ak B A)/\f=A.map (bb a):=by
 unfold bE at h
 by_cases z:A.headD .av=f.headD .av/\A.length=f.length
 .rw [LJ z] at h;exact B6 A f d z.2 h
 .rw [LG z] at h;cases h
end FL
namespace FL
open PySem L2
abbrev aH:=aO×List Nat
def ext (facts:List (List D))(a:List D)(w:aH):List aH:=facts.zipIdx.filterMap λp=>(bE a p.1 w.1).map λS=>(S,w.2++[p.2])
def fA (facts:List (List D)):List (List D)->List aH->List aH
 |[],ws=>ws
 |a::r,ws=>fA facts r (ws.flatMap (ext facts a))
def aT (B:List Str)(as:List (List D)):List Str:=as.foldl ak B
def eG (facts:List (List D))(V:Str->D)(as:List (List D))(pl:List Nat):Prop:=pl.map (λi=>facts[i]?)=as.map λa=>some (a.map (bb V))
def jt (a:List D):Prop:=a≠[]/\aJ (a.headD .av)=false
def nn:(S,c)∈ext b a w↔∃i f,b[i]?=some f/\bE a f w.1=some S/\c=w.2++[i]:=by
 unfold ext
 rw [OB]
 constructor
 .rintro ⟨⟨f,i⟩,g,e⟩
  have d:b[i]?=some f:=by
   have:=N9.mp g
   exact this
  have e:(bE a f w.1).map (λS=>(S,w.2++[i]))=some (S,c):=e
  cases q:bE a f w.1 with
  |none=>rw [q] at e;cases e
  |some j=>
   rw [q] at e
   have e:=LQ e
   exact ⟨i,f,d,by rw [q];exact MA some<|MA Prod.fst e,(MA Prod.snd e).symm⟩
 .rintro ⟨i,f,d,h,rfl⟩
  exact ⟨(f,i),N9.mpr d,by show (bE a f w.1).map _=_;rw [h];rfl⟩
def Ku{V f:Str->D}{d:ZW}{B:ZY}(i:∀a∈d,∀x∈a,aJ x=true->x.name∈B)(h:∀b∈B,f b=V b)(j:eG c V d g):eG c f d g:=by
 unfold eG at*
 rw [j]
 refine Md λa k=>?_
 congr 1
 refine Md λx l=>?_
 unfold bb
 by_cases e:aJ x=true
 .rw [LJ e,LJ e,h _<|i a k x l e]
 .rw [LG e,LG e]
def FI:∀{B:ZY} {b:Str},b∈B->b∈aT B as:=by
 induction as with
 |nil=>exact λh=>h
 |cons a r c=>exact λh=>c<|ud h
def jz:∀{B:ZY},cr B->cr (aT B b):=by
 induction b with
 |nil=>exact λh=>h
 |cons a r c=>exact λh=>c<|iS h
def xi:∀{B:ZY},B.Nodup->(aT B as).Nodup:=by
 induction as with
 |nil=>exact λh=>h
 |cons a r b=>exact λh=>b<|zV h
def pG{d:ZW}(b:a∈d)(e:x∈a)(h:aJ x=true):∀{B:ZY},x.name∈aT B d:=by
 induction d with
 |nil=>cases b
 |cons c r f=>
  intro B
  rcases LK.mp b with rfl|b
  .exact FI (as:=r) (B:=ak B a)<|ma e h
  .exact f b
def tM:∀{B:ZY},b∈aT B as->b∈B\/∃a∈as,∃x∈a,aJ x=true/\b=x.name:=by
 induction as with
 |nil=>exact λh=>.inl h
 |cons c r d=>
  intro B h
  rcases d h with z|⟨a,e,z⟩
  .rcases vT z with z|⟨x,f,z⟩
   .exact .inl z
   .exact .inr ⟨c,Lz,x,f,z⟩
  .exact .inr ⟨a,Lv _ e,z⟩
theorem C3:∀(m:ZW) (done:ZW) (B:ZY) (j:List aH),cr B->(∀a∈done,∀x∈a,aJ x=true->x.name∈B)->(∀a∈m,jt a)->
  (∀S d,(S,d)∈j↔∃V,S=ar V B/\eG b V done d)->∀S d,(S,d)∈fA b m j↔∃V,S=ar V (aT B m)/\eG b V (done++m) d
 |[],done,B,j,_,_,_,h,S,d=>by
  rw [Mi];exact h S d
 |a::r,done,B,j,o,u,v,h,S,d=>by
  have k:=C3 r (done++[a]) (ak B a) (j.flatMap<|ext b a) (iS o) (λc p x q e=>by
    rcases LY.mp p with z|z
    .exact ud (u c z x q e)
    .rw [L4.mp z] at q;exact ma q e) (λc p=>v c<|Lv _ p) (λS d=>by
   rw [M4]
   constructor
   .rintro ⟨⟨A,s⟩,C,E⟩
    obtain ⟨i,f,G,H,rfl⟩:=nn.mp E
    obtain ⟨V,rfl,l⟩:=(h A s).mp C
    obtain ⟨w,I,J,L⟩:=iB o H
    refine ⟨w,J,?_⟩
    have M:=Ku u I l
    unfold eG at*
    rw [Me,Me,M]
    show _++[b[i]?]=_++[some<|a.map<|bb w]
    rw [G,L]
   .rintro ⟨V,rfl,l⟩
    unfold eG at l
    rw [Me] at l
    obtain ⟨N,y,rfl,O,n⟩:=List.map_eq_append_iff.mp l
    obtain ⟨i,rfl,Q⟩:∃i,y=[i]/\b[i]?=some (a.map<|bb V):=by
     cases y with
     |nil=>cases n
     |cons i t=>
      have n:b[i]?::t.map (λi=>b[i]?)=[some<|a.map<|bb V]:=n
      obtain ⟨T,U⟩:=NJ n
      have:t=[]:=List.map_eq_nil_iff.mp U
      exact ⟨i,by rw [this],T⟩
    refine ⟨(ar V B,N),(h _ _).mpr ⟨V,rfl,O⟩,nn.mpr ⟨i,_,Q,?_,rfl⟩⟩
    have g:=v a Lz
    exact wK o g.1 g.2) S d
  rw [Mw] at k
  exact k
def pZ{d:ZW}(g:∀a∈d,jt a):(S,f)∈fA c d [([],[])]↔∃V,S=ar V (aT [] d)/\eG c V d f:=by
 refine C3 d [] [] [([],[])] (λb i=>nomatch i) (λa j=>nomatch j) g (λS f=>?_) S f
 rw [L4]
 constructor
 .intro e
  obtain ⟨rfl,rfl⟩:=Qz e
  exact ⟨λ_=>.av,rfl,rfl⟩
 .rintro ⟨V,rfl,h⟩
  have:f=[]:=List.map_eq_nil_iff.mp h
  rw [this];rfl
theorem lp  [DecidableEq c]:∀{l m:List c},l.Nodup->(∀x∈l,x∈m)->l.length<=m.length
 |[],m,_,_=>Mb _
 |x::r,m,h,d=>by
  obtain ⟨g,i⟩:=NH.mp h
  have e:=d x Lz
  have a:=lp (l:=r) (m:=m.erase x) i (λy f=>by
   have b:y≠x:=λz=>g (z▸f)
   exact (List.mem_erase_of_ne b).mpr<|d y<|Lv _ f)
  rw [List.length_erase_of_mem e] at a
  have:0<m.length:=List.length_pos_of_mem e
  rw [Mq]
  omega
def Lf{f:d->g}{l:List d}(h:l.Nodup)(i:∀x∈l,∀y∈l,f x=f y->x=y):(l.map f).Nodup:=by
 unfold List.Nodup at*
 rw [List.pairwise_map]
 exact h.imp_of_mem λ{a b} j k c e=>c<|i a j b k e
def cM (pool:List D):List Str->List aO->List aO
 |[],ms=>ms
 |b::r,ms=>cM pool r (ms.flatMap λc=>pool.map λt=>c++[(b,t)])
theorem CH {a:ZZ}:∀(B:ZY) (done:ZY) (d:List aO),(done++B).Nodup->(∀c,c∈d↔∃V,c=ar V done/\∀b∈done,V b∈a)->∀c,c∈cM a B d↔∃V,c=ar V (done++B)/\∀b∈done++B,V b∈a
 |[],done,d,_,h,c=>by rw [Mi];exact h c
 |b::r,done,d,j,h,c=>by
  have k:((done++[b])++r).Nodup:=by rw [Mw];exact j
  have l:b∉done:=by
   rw [Np] at j
   exact λz=>j.2.2 b z b Lz rfl
  have f:=CH r (done++[b]) (d.flatMap λc=>a.map λt=>c++[(b,t)]) k (λc=>by
   rw [M4]
   constructor
   .rintro ⟨m,n,o⟩
    obtain ⟨t,p,rfl⟩:=LS.mp o
    obtain ⟨V,rfl,i⟩:=(h m).mp n
    refine ⟨λx=>if x=b then t else V x,?_,λx g=>?_⟩
    .unfold ar
     rw [Me]
     congr 1
     .exact Md λx g=>by
       have:x≠b:=λz=>l (z▸g)
       simp [this]
     .simp
    .show (if x=b then t else V x)∈a
     by_cases e:x=b
     .rw [LJ e];exact p
     .rw [LG e]
      rcases LY.mp g with z|z
      .exact i x z
      .exact absurd (L4.mp z) e
   .rintro ⟨V,rfl,i⟩
    refine ⟨ar V done,(h _).mpr ⟨V,rfl,λx g=>i x<|LL _ g⟩,LS.mpr ⟨V b,i b<|LH _<|L4.mpr rfl,?_⟩⟩
    unfold ar
    rw [Me]
    rfl) c
  rw [Mw] at f
  exact f
def B3{B:ZY}(d:B.Nodup):c∈cM a B [[]]↔∃V,c=ar V B/\∀b∈B,V b∈a:=
 CH B [] [[]] d (λc=>by
  rw [L4]
  constructor
  .rintro rfl;exact ⟨λ_=>.av,rfl,λb e=>nomatch e⟩
  .rintro ⟨V,rfl,_⟩;rfl) c
theorem xG:∀{l:List d} {i j:Nat} {x:d},l.Nodup->l[i]?=some x->l[j]?=some x->i=j
 |[],i,_,_,_,h,_=>by simp at h
 |y::r,0,0,x,_,_,_=>rfl
 |y::r,0,j+1,x,c,a,b=>by
  have a:y=x:=LQ a
  have b:r[j]?=some x:=b
  exact absurd (a▸LD b) (NH.mp c).1
 |y::r,i+1,0,x,c,a,b=>by
  have b:y=x:=LQ b
  have a:r[i]?=some x:=a
  exact absurd (b▸LD a) (NH.mp c).1
 |y::r,i+1,j+1,x,c,a,b=>MA (· +1)<|xG (l:=r) (NH.mp c).2 a b
def AD{V:Str->D}(h:eG b V c d):∀a∈c,a.map (bb V)∈b:=by
 intro a f
 have:some (a.map<|bb V)∈d.map (λi=>b[i]?):=by rw [h];exact LS.mpr ⟨a,f,rfl⟩
 obtain ⟨i,_,e⟩:=LS.mp this
 exact LD e
end FL
namespace FL
open PySem L2
theorem Ar:∀(l:ZZ) (B C:ZY),(∀b∈C,b∈B\/b∈C)->ak (B++C.filter (λb=> !decide (b∈B))) l=B++(ak C l).filter (λb=> !decide (b∈B))
 |[],B,C,_=>rfl
 |x::r,B,C,h=>by
  show ak (cm (B++C.filter λb=> !decide (b∈B)) x) r=B++(ak (cm C x) r).filter _
  have e:cm (B++C.filter λb=> !decide (b∈B)) x=B++(cm C x).filter λb=> !decide (b∈B):=by
   unfold cm
   by_cases f:aJ x=true
   .by_cases c:x.name∈B
    .rw [LG (by simp [c])]
     by_cases a:x.name∈C
     .rw [LG (by simp [a])]
     .rw [LJ (by simp [a,f]),MX]
      simp [c]
    .by_cases a:x.name∈C
     .rw [LG (by simp [a,c]),LG (by simp [a])]
     .rw [LJ (by simp [a,c,f]),LJ (by simp [a,f]),MX,Mw]
      simp [c]
   .have d:aJ x=false:=by simpa using f
    rw [LG (by simp [d]),LG (by simp [d])]
  rw [e]
  exact Ar r B (cm C x) λb g=>.inr g
def mT (l:ZZ)(B:ZY):ak B l=B++(ak [] l).filter (λb=> !decide (b∈B)):=by
 have:=Ar l B [] λb a=>nomatch a
 rw [List.filter_nil,Mi] at this
 exact this
def dv (B:List Str)(st:aO):List D:=(st.filter λp=>decide (p.1∈B)).map (·.2)
def restOf (B:List Str)(st:aO):aO:=st.filter λp=> !decide (p.1∈B)
def uW (U:Str->D)(C:ZY)(p:Str->Bool):(ar U C).filter (λq=>p q.1)=ar U (C.filter p):=by
 unfold ar
 rw [Nl]
 rfl
def Di (U:Str->D)(B C:ZY):ar U (B++C)=ar U B++ar U C:=Me
def eM:cr []:=λb a=>nomatch a
def F4{V:Str->D}(k:cr B)(i:jt a):bE a f (ar V B)=(bE a f []).bind λst=>if dv B st=((ak [] a).filter λb=>decide (b∈B)).map V then some (ar V B++restOf B st) else none:=by
 cases e:bE a f [] with
 |none=>
  show _=none
  cases l:bE a f (ar V B) with
  |none=>rfl
  |some S=>
   obtain ⟨g,_,_,rfl⟩:=iB k l
   have:=wK (V:=g) (B:=[]) eM i.1 i.2
   rw [show ar g []=[] from rfl,e] at this
   cases this
 |some st=>
  obtain ⟨U,_,rfl,rfl⟩:=iB (V:=λ_=>.av) (B:=[]) eM e
  show _=if dv B (ar U<|ak [] a)=_ then some (ar V B++restOf B (ar U<|ak [] a)) else none
  have r:dv B (ar U<|ak [] a)=((ak [] a).filter λb=>decide<|b∈B).map U:=by
   unfold dv
   rw [uW U _ λb=>decide<|b∈B]
   unfold ar
   rw [Mn]
   rfl
  have s:restOf B (ar U<|ak [] a)=ar U ((ak [] a).filter λb=> !decide (b∈B)):=uW U _ λb=> !decide (b∈B)
  rw [r,s]
  by_cases j:((ak [] a).filter λb=>decide<|b∈B).map U=((ak [] a).filter λb=>decide<|b∈B).map V
  .rw [LJ j]
   have m:∀b∈ak [] a,b∈B->U b=V b:=λb c n=>List.map_inj_left.mp j b<|LP.mpr ⟨c,LV n⟩
   let g:Str->D:=λb=>if b∈B then V b else U b
   have o:a.map (bb U)=a.map (bb g):=Md λx p=>by
    unfold bb
    by_cases e:aJ x=true
    .rw [LJ e,LJ e]
     have t:=ma p e (B:=[])
     show U x.name=if x.name∈B then V x.name else U x.name
     by_cases z:x.name∈B
     .rw [LJ z];exact m _ t z
     .rw [LG z]
    .rw [LG e,LG e]
   have u:ar V B=ar g B:=yz λb c=>by show V b=if b∈B then V b else U b;rw [LJ c]
   rw [o,u,wK k i.1 i.2,mT,Di]
   congr 2
   exact yz λb c=>by
    have:b∉B:=by simpa using (LP.mp c).2
    show (if b∈B then V b else U b)=U b
    rw [LG this]
  .rw [LG j]
   cases l:bE a (a.map<|bb U) (ar V B) with
   |none=>rfl
   |some S=>
    obtain ⟨g,o,_,v⟩:=iB k l
    refine absurd ?_ j
    refine Md λb c=>?_
    obtain ⟨q,d⟩:=LP.mp c
    have d:=LW d
    rcases vT q with z|⟨x,p,h,rfl⟩
    .cases z
    .have:=List.map_inj_left.mp v x p
     unfold bb at this
     rw [LJ h,LJ h] at this
     rw [this,o _ d]
abbrev dq:=List D×(Nat×aO)
def el (a:List D)(facts:List (List D))(B:List Str):List dq:=facts.zipIdx.filterMap λp=>(bE a p.1 []).map λst=>(dv B st,(p.2,restOf B st))
def np (of:List dq)(key:List D)(w:aH):List aH:=((of.filter λo=>decide (o.1=key)).map λo=>(w.1++o.2.2,w.2++[o.2.1]))
def vn{V:Str->D}(k:cr B)(m:jt a):np (el a c B) (((ak [] a).filter λb=>decide (b∈B)).map V) (ar V B,d)=ext c a (ar V B,d):=by
 unfold np el ext
 show List.map (λo:dq=>(ar V B++o.2.2,d++[o.2.1])) _=List.filterMap (λ(p:ZZ×Nat)=>(bE a p.1<|ar V B).map λS=>(S,d++[p.2])) c.zipIdx
 generalize c.zipIdx=l
 induction l with
 |nil=>rfl
 |cons p r i=>
  have j:=F4 (f:=p.1) (V:=V) k m
  cases e:bE a p.1 [] with
  |none=>
   have g:bE a p.1 (ar V B)=none:=by rw [j,e];rfl
   rw [Ov (f:=λ(p:ZZ×Nat)=>(bE a p.1 []).map λst=>(dv B st,(p.2,restOf B st))) (a:=p) (show Option.map _ (bE a p.1 [])=none by rw [e];rfl),Ov (f:=λ(p:ZZ×Nat)=>(bE a p.1<|ar V B).map λS=>(S,d++[p.2])) (a:=p) (show Option.map _ (bE a p.1<|ar V B)=none by rw [g];rfl)]
   exact i
  |some st=>
   rw [PN (f:=λ(p:ZZ×Nat)=>(bE a p.1 []).map λst=>(dv B st,(p.2,restOf B st))) (a:=p) (b:=(dv B st,(p.2,restOf B st))) (show Option.map _ (bE a p.1 [])=_ by rw [e];rfl),Nt]
   by_cases h:dv B st=((ak [] a).filter λb=>decide<|b∈B).map V
   .have g:bE a p.1 (ar V B)=some (ar V B++restOf B st):=by rw [j,e];exact LJ h
    rw [PN (f:=λ(p:ZZ×Nat)=>(bE a p.1<|ar V B).map λS=>(S,d++[p.2])) (a:=p) (b:=(ar V B++restOf B st,d++[p.2])) (show Option.map _ (bE a p.1<|ar V B)=_ by rw [g];rfl),LJ<|LV h,Mu,i]
   .have g:bE a p.1 (ar V B)=none:=by rw [j,e];exact LG h
    rw [Ov (f:=λ(p:ZZ×Nat)=>(bE a p.1<|ar V B).map λS=>(S,d++[p.2])) (a:=p) (show Option.map _ (bE a p.1<|ar V B)=none by rw [g];rfl),LG (by simpa using h),i]
structure jr where
 atom:List D
 ok:aO->Bool
def nh (facts:List (List D))(s:jr)(w:aH):List aH:=(ext facts s.atom w).filter λw=>s.ok w.1
def fq (facts:List (List D)):List jr->List aH->List aH
 |[],ws=>ws
 |s::r,ws=>fq facts r (ws.flatMap (nh facts s))
theorem xL (b:ZW):∀(c:ZW),fA b c []=[]
 |[]=>rfl
 |a::r=>xL b r
theorem yV (b:ZW):∀(e:List jr) (c d:List aH),fq b e (c++d)=fq b e c++fq b e d
 |[],_,_=>rfl
 |a::r,c,d=>by
  show fq b r ((c++d).flatMap _)=fq b r (c.flatMap _)++fq b r (d.flatMap _)
  rw [Pt,yV b r]
theorem A9 (b:ZW):∀(c:List jr),fq b c []=[]
 |[]=>rfl
 |a::r=>A9 b r
theorem zU (a:ZW)(b:List jr):∀c:List aH,fq a b c=c.flatMap λw=>fq a b [w]
 |[]=>A9 a b
 |w::r=>by
  have:fq a b (w::r)=fq a b [w]++fq a b r:=yV a b [w] r
  rw [this,zU a b r]
  rfl
theorem zo (c:ZW)(p:aO->Bool):∀(z:ZW) (B:ZY) (j:List aH),cr B->(∀V g:Str->D,∀C,cr (B++C)->(∀b∈B,g b=V b)->p (ar g (B++C))=p (ar V B))->(∀w∈j,∃V,w.1=ar V B)->fA c z (j.filter λw=>p w.1)=(fA c z j).filter λw=>p w.1
 |[],_,j,_,_,_=>rfl
 |a::r,B,j,n,s,o=>by
  show fA c r ((j.filter _).flatMap<|ext c a)=(fA c r<|j.flatMap<|ext c a).filter _
  have d:∀w∈j,∀x∈ext c a w,∃V g,w.1=ar V B/\x.1=ar g (ak B a)/\∀b∈B,g b=V b:=λw l x k=>by
   obtain ⟨V,e⟩:=o w l
   obtain ⟨S,L⟩:=x
   obtain ⟨i,f,_,A,_⟩:=nn.mp k
   rw [e] at A
   obtain ⟨g,E,G,_⟩:=iB n A
   exact ⟨V,g,e,G,E⟩
  have H:(j.filter λw=>p w.1).flatMap (ext c a)=(j.flatMap<|ext c a).filter λw=>p w.1:=by
   clear o
   revert d
   induction j with
   |nil=>exact λ_=>rfl
   |cons w t u=>
    intro d
    have u:=u λw o=>d w<|Lv _ o
    rw [MI,MX,<-u,Nt]
    have m:∀x∈ext c a w,p x.1=p w.1:=λx k=>by
     obtain ⟨V,g,e,I,h⟩:=d w Lz x k
     rw [e,I,mT]
     exact s V g _ (by rw [<-mT];exact iS n) h
    by_cases q:p w.1=true
    .rw [LJ q,MI]
     congr 1
     exact (MG.mpr λx k=>by rw [m x k];exact q).symm
    .rw [LG q]
     have:(ext c a w).filter (λw=>p w.1)=[]:=Nq.mpr λx k=>by rw [m x k];exact q
     rw [this,NK]
  rw [H]
  refine zo c p r (ak B a) _ (iS n) (λV g C v h=>?_) λx k=>?_
  .have y:cr (B++(ak [] a).filter λb=> !decide (b∈B)):=by rw [<-mT];exact iS n
   rw [mT] at h v⊢
   rw [Mw] at v⊢
   rw [s V g _ v λb J=>h b<|LL _ J,s V V _ y λb _=>rfl]
  .obtain ⟨w,l,k⟩:=M4.mp k
   obtain ⟨V,g,_,e,_⟩:=d w l x k
   exact ⟨g,e⟩
theorem Cj (a:ZW):∀(d:List jr) (B:ZY) (c:List aH),cr B->(∀w∈c,∃V,w.1=ar V B)->
  (∀(i:Nat) (s:jr),d[i]?=some s->∀V g:Str->D,∀C,cr (aT B ((d.take (i+1)).map (·.atom))++C)->(∀b∈aT B ((d.take (i+1)).map (·.atom)),g b=V b)->s.ok (ar g (aT B ((d.take (i+1)).map (·.atom))++C))=s.ok (ar V (aT B ((d.take (i+1)).map (·.atom)))))->
  fq a d c=(fA a (d.map (·.atom)) c).filter λw=>d.all λs=>s.ok w.1
 |[],_,c,_,_,_=>by
  show c=c.filter λw=>true
  exact (MG.mpr λ_ _=>rfl).symm
 |s::r,B,c,j,p,n=>by
  show fq a r (c.flatMap<|nh a s)=(fA a (r.map (·.atom))<|c.flatMap<|ext a s.atom).filter λw=>s.ok w.1&&r.all λs=>s.ok w.1
  have q:c.flatMap (nh a s)=(c.flatMap<|ext a s.atom).filter λw=>s.ok w.1:=by
   rw [List.filter_flatMap]
   rfl
  have h:∀x∈c.flatMap (ext a s.atom),∃V,x.1=ar V (ak B s.atom):=λx h=>by
   obtain ⟨w,k,h⟩:=M4.mp h
   obtain ⟨V,e⟩:=p w k
   obtain ⟨S,y⟩:=x
   obtain ⟨i,f,_,o,_⟩:=nn.mp h
   rw [e] at o
   obtain ⟨g,z,u,_⟩:=iB j o
   exact ⟨g,u⟩
  have l:=n 0 s rfl
  have l:∀V g:Str->D,∀C,cr (ak B s.atom++C)->(∀b∈ak B s.atom,g b=V b)->s.ok (ar g<|ak B s.atom++C)=s.ok (ar V<|ak B s.atom):=l
  rw [q,Cj a r (ak B s.atom) _ (iS j) (λx m=>h x (LP.mp m).1) λi t v=>n (i+1) t v,zo a s.ok _ (ak B s.atom) _ (iS j) l h,Pu]
  exact Nf λw _=>Bool.and_comm _ _
end FL
namespace FL
open PySem L2
def lT:D->Prop
 |.str s=>s.length<=sizeLine/\∃c r,s.cps.toList=c::r
 |_=>True
def wW:List D->D->Prop:=λds d=>∃x,ds=[x]/\lT x/\d=.bl (aJ x)
def GR{s:Str}(h:s.cps.toList=c::r):s.cps.getD 0 0=c:=by
 have:s.cps.getD 0 0=s.cps.toList.getD 0 0:=by simp
 rw [this,h];rfl
def oh:Option aO->D
 |some F=>.lst (pairD F)
 |none=>.av
def Ah:List D->D->Prop:=λds d=>∃A Fc ps,ds=[.tup A,.tup Fc,.lst (pairD ps)]/\(∀x∈A,x.sc=true/\lT x)/\(∀y∈Fc,y.sc=true)/\(∀p∈ps,p.2.sc=true)/\A.length<=100/\ps.length<=100/\A≠[]/\Fc≠[]/\d=oh (bE A Fc ps)
def J6{j:Nat}(h:(lh A a)[j]?=some d):∃x y,A[j]?=some x/\a[j]?=some y/\d=.tup [x,y]/\(A.zip a).drop j=(x,y)::(A.zip a).drop (j+1):=by
 unfold lh at h
 rw [OR] at h
 cases b:A[j]? with
 |none=>rw [b] at h;cases h
 |some x=>
  cases c:a[j]? with
  |none=>rw [b,c] at h;cases h
  |some y=>
   rw [b,c] at h
   refine ⟨x,y,rfl,rfl,(LQ h).symm,?_⟩
   have e:(A.zip a)[j]?=some (x,y):=by
    show (List.zipWith Prod.mk A a)[j]?=_
    rw [OR,b,c]
   obtain ⟨f,g⟩:=Lx.mp e
   rw [Nx f,g]
structure dz (A:List D):Prop where
 sc:∀x∈A,x.sc=true/\lT x
 ne:A≠[]
 len:A.length<=100
def aE (A:List D):Bool:=decide (A.headD .av=.str "less")||decide (A.headD .av=.str "unlike")
def rp:List D->D->Prop:=λds d=>∃A,ds=[.tup A]/\dz A/\d=.bl (aE A)
def fX (B:List Str):D:=.lst (B.map D.str)
def oy:List D->D->Prop:=λds d=>∃A,ds=[.tup A]/\dz A/\d=fX (ak [] A)
def holdsD (r:Str)(a b:D):Bool:=if r="unlike" then !decide (a=b) else match a,b with
 |.int i,.int j=>decide (i<j)
 |_,_=>false
def holdsA:List D->Bool
 |[.str r,a,b]=>holdsD r a b
 |_=>false
def sP:List D->D->Prop:=λds d=>∃r a b,ds=[.tup [.str r,a,b]]/\a.sc=true/\b.sc=true/\d=.bl (holdsD r a b)
def cf (as:List (List D)):D:=.tup (as.map D.tup)
def dg (as:List (List D)):D:=.lst (as.map D.tup)
def vz:List D->D->Prop:=λds d=>∃as,ds=[cf as]/\(∀a∈as,dz a)/\as.length<=100/\d=dg (as.filter λa=> !aE a)
def oQ:List D->D->Prop:=λds d=>∃as,ds=[cf as]/\(∀a∈as,dz a)/\as.length<=100/\d=dg (as.filter aE)
def qv:List D->D->Prop:=λds d=>∃l ps,ds=[.tup l,.lst (pairD ps)]/\(∀x∈l,x.sc=true)/\(∀p∈ps,p.2.sc=true)/\l.length<=1000/\d=.tup (l.map (cb ps))
def dY (B:List Str):List (aK×V):=B.map λb=>(Sum.inr b,V.bl true)
def EO (B:ZY)(n:Str):cg (dY B) (Sum.inr n) (V.bl true)=dY (if n∈B then B else B++[n]):=by
 have a:∀B:ZY,((dY B).any λc=>decide<|c.1=(Sum.inr n:aK))=decide (n∈B):=by
  intro B
  induction B with
  |nil=>rfl
  |cons b r d=>
   show (decide ((Sum.inr b:aK)=Sum.inr n)||(dY r).any λc=>decide<|c.1=(Sum.inr n:aK))=_
   rw [d]
   have:decide ((Sum.inr b:aK)=Sum.inr n)=decide (b=n):=by simp
   rw [this]
   by_cases e:b=n
   .simp [e]
   .have f:¬n=b:=λz=>e z.symm
    simp [e,f]
 unfold cg
 rw [a B]
 by_cases e:n∈B
 .rw [LV e,LJ rfl,LJ e]
  unfold dY
  rw [Mn]
  refine Md λb _=>?_
  show (if (Sum.inr b:aK)=Sum.inr n then ((Sum.inr b:aK),V.bl true) else (Sum.inr b,V.bl true))=(Sum.inr b,V.bl true)
  split<;>rfl
 .rw [Mc e,LG LI,LG e]
  unfold dY
  rw [Me]
  rfl
def Fn(h:aJ x=true):cm B x=if x.name∈B then B else B++[x.name]:=by
 unfold cm
 by_cases e:x.name∈B
 .rw [LG (by simp [e]),LJ e]
 .rw [LJ (by simp [e,h]),LG e]
def uK(h:aJ x=false):cm B x=B:=by unfold cm;rw [LG (by simp [h])]
def ye {l:ZZ}{j:Nat}{x:D}(h:l[j]?=some x):ak [] (l.take (j+1))=cm (ak [] (l.take j)) x:=by
 unfold ak
 rw [Mm,h,MS]
 rfl
def jT (l:ZZ):∀B:ZY,(ak B l).length<=B.length+l.length:=by
 induction l with
 |nil=>intro B;exact LF _
 |cons x r a=>
  intro B
  have b:=a<|cm B x
  have c:(cm B x).length<=B.length+1:=by
   unfold cm
   split
   .rw [LR];exact LF _
   .omega
  show (ak (cm B x) r).length<=_
  rw [Mq]
  omega
section
variable {σ:St}{δ:Dn}{M:List Addr}{H:Hp}{ty tz:TE}{E:Ends}{K:PySem.W.Frag}
def uG(l:ap M H)(f:ay (but H M) σ δ)(k:i<δ.length)
  (q:∀p a c,(∀j:Nat,j≠i->a[j]?=σ[j]?)->a[i]?=some (some (.ref p))->p∉M->c p=some (.dK [])->ap (p::M) c->(∀b o,H b=some o->b≠p/\c b=some o)->ay (but c (p::M)) a (δ.set i none)->E.nx a c):eY Cm (cv i) E σ H:=λp d=>by
 have m:=f.len
 refine q p _ _ (λj h=>LB<|MC h) (LM Z4) (l.fresh d) aR (l.upd.cons aR) (λb o e=>?_)<|va f d
 have g:b≠p:=da e d
 exact ⟨g,by rw [aA g];exact e⟩
def zv{i:Nat}(l:ap M H)(s:ay (but H M) σ δ)(j:p∈M)(e:σ[i]?=some (some (.ref p)))(t:H p=some (.dK (dY B)))(J:B.length<1000)(h:ae ty (but H M) σ (.str n))(w:ae tz (but H M) σ (.bl true))
  (k:∀c,(∀b o,b≠p->H b=some o->c b=some o)->ap M c->c p=some (.dK (dY (if n∈B then B else B++[n])))->ay (but c M) σ δ->E.nx σ c):tW (aW i) ty tz E σ H:=by
 refine w M H (ab.refl _) l _ λv x a y=>⟨.ref p,e,h M x (a.but M) (l.same a) _ λu r g z=>?_⟩
 have m:=g _ _<|a _ _ t
 have A:=(fP (d:=.str n) rfl z).2
 have C:=y.jA
 have f:(dY B).length<sizeLine:=by unfold dY;rw [LA];exact cy Z4
 refine ⟨p,_,rfl,by rw [A];exact gt.k (k:=Sum.inr n) m f,?_⟩
 have G:but (upd r p (.dK<|cg (dY B) (Sum.inr n) v)) M=but r M:=dD j
 refine k _ (λb o I q=>by rw [aA I];exact g _ _<|a _ _ q) (l.same<|a.trans g).upd ?_ ?_
 .rw [aR,C,EO]
 .rw [G];exact s.same<|a.trans g
end
theorem BN:∀(B:ZY),aC H (B.map V.str) (B.map D.str)
 |[]=>.nil
 |b::r=>.cons (.str b)<|BN r
end FL
namespace FL
open PySem L2
section
variable {X:Cx}{x:Str}{e a b tg iter:Expr}{te ta tb:TE}{pos pos':Pos}{op:CmpOp}{r:R2}{wi:TI}{g:TG}{ts:TS}{body:List Stmt}
def bv (i:Nat)(c:X.N.Nodup)(d:X.N[i]?=some x:=by rfl)(f:Loc X.env.scope x:=by first|exact Or.inl rfl|exact Or.inr rfl)(h:X.fn x=true\/X.env.scope.names.lookup x=some .local:=by first|exact .inl rfl|exact .inr rfl|assumption):PG X (.Name x pos) (cv i):=IN c d f h
def bj (i:Nat)(c:X.N.Nodup)(d:PE X e te)(f:X.N[i]?=some x:=by rfl)(h:Loc X.env.scope x:=by first|exact Or.inl rfl|exact Or.inr rfl)(j:swapsWith e (some (.Name x pos')) pos.line X.env=pure false:=by rfl)(k:X.fn x=true\/X.env.scope.names.lookup x=some .local:=by first|exact .inl rfl|exact .inr rfl|assumption):
  PS X (.Assign [.Name x pos'] e pos) (eY te (cv i)):=AX c f h d j k
def iZ (c:cK X (compareOp op) r)(d:PE X a ta)(f:PE X b tb)(h:behindInMarks op b=false:=by first|exact BQ _|rfl):PE X (.Compare a [op] [b] pos) (bY r ta tb):=GD c d f h
def cA (c:cK X (compareOp op) r)(d:PE X a ta)(f:PE X b tb)(h:behindInMarks op b=false:=by first|exact BQ _|rfl):PT X (.Compare a [op] [b] pos) (sM (bY r ta tb)):=ID c d f h
end
def ky (x:Str):[x].Nodup:=by simp
end FL
namespace a5
open PySem L2 FL
def ce (i:Nat):Stmt:=PySem.Challenge.pw_factloom_k08_whole_rounds.main.body.getD i (.Pass ⟨0,0,0,0⟩)
abbrev sT:Stmt:=ce 3
abbrev t8:Stmt:=ce 4
abbrev rT:Stmt:=ce 5
abbrev sN:Stmt:=ce 6
abbrev tU:Stmt:=ce 7
abbrev s_holds:Stmt:=ce 8
abbrev rY:Stmt:=ce 15
abbrev sZ:Stmt:=ce 16
abbrev qP:Stmt:=ce 17
abbrev qL:Stmt:=ce 18
abbrev sx:Stmt:=ce 19
abbrev qN:Stmt:=ce 21
abbrev tI:Stmt:=ce 22
abbrev ti:Stmt:=ce 23
abbrev tT:Stmt:=ce 27
abbrev tq:Stmt:=ce 28
abbrev qW:Stmt:=ce 29
abbrev qG:Stmt:=ce 31
abbrev sU:Stmt:=ce 32
abbrev uj:Stmt:=ce 33
abbrev uc:Stmt:=ce 34
abbrev qQ:Stmt:=ce 35
abbrev ug:Stmt:=ce 36
abbrev tP:Stmt:=ce 37
abbrev ro:Stmt:=ce 38
abbrev sj:Stmt:=ce 39
abbrev sO:Stmt:=ce 40
abbrev sw:Stmt:=ce 41
abbrev rB:Stmt:=ce 42
abbrev rj:Stmt:=ce 43
abbrev rX:Stmt:=ce 44
abbrev uu:Stmt:=ce 45
abbrev mS:Stmt:=ce 46
def ip:Stmt->Nat->Stmt
 |.ClassDef (body:=b) ..,j=>b.getD j (.Pass ⟨0,0,0,0⟩)
 |s,_=>s
abbrev lR:Stmt:=ip (ce 20) 0
abbrev mO:Stmt:=ip (ce 20) 1
abbrev mH:Stmt:=ip (ce 20) 2
abbrev mj:Stmt:=ip (ce 20) 3
abbrev mN:Stmt:=ip (ce 24) 0
abbrev mr:Stmt:=ip (ce 24) 1
abbrev mR:Stmt:=ip (ce 24) 2
abbrev lH:Stmt:=ip (ce 24) 3
abbrev mv:Stmt:=ip (ce 24) 4
abbrev mQ:Stmt:=ip (ce 26) 0
abbrev lS:Stmt:=ip (ce 26) 1
abbrev mD:Stmt:=ip (ce 26) 2
section
variable {P:Program}{w:World}{K:PySem.W.Frag}{mg:Str->Option Value}{base:Heap}{f:Addr}{fd:FuncData}
def GX:bW ["part"] ["part"] (ba sT):=⟨rfl,rfl,rfl,Z9,rfl,Z9,Z9⟩
def K4 (F:aF K "is_blank" "is_blank" sT f fd)(B:Bl mg):bp P w K mg base bz 1 f fd ["part"] (bw wW):=by
 refine F.ok GX (eP (n:=1) λi d j=>by obtain ⟨x,e,_⟩:=j;rw [e];rfl) λk A g s H p Q E t h=>?_
 obtain ⟨M,i,d,a,l,⟨x,rfl,m,rfl⟩,q⟩:=h
 refine ⟨_,(aB<|bu<|nz (gg B (pv 0) B.str Ob)<|pO<|Fa<|bg (pv 0) aM),?_⟩
 have E0:=gH l ["part"]
 cases x with
 |str s=>
  obtain ⟨o,c,r,e⟩:=m
  exact eA a ((fK (b:=true) (jO (d:=.str s)<|aG E0 rfl) λ_=>Dk<|IV o (c:=c) (by rw [e];exact gZ) (aG E0 rfl) aq).eq (by show D.bl (true&&_)=D.bl (Txt.isupper _);rw [GR e,OX])) q
 |av=>exact eA a (fK (b:=false) (c:=false) (jO (d:=.av)<|aG E0 rfl) λz=>nomatch z) q
 |bl b=>exact eA a (fK (b:=false) (c:=false) (jO (d:=.bl b)<|aG E0 rfl) λz=>nomatch z) q
 |int b=>exact eA a (fK (b:=false) (c:=false) (jO (d:=.int b)<|aG E0 rfl) λz=>nomatch z) q
 |tup b=>exact eA a (fK (b:=false) (c:=false) (jO (d:=.tup b)<|aG E0 rfl) λz=>nomatch z) q
 |lst b=>exact eA a (fK (b:=false) (c:=false) (jO (d:=.lst b)<|aG E0 rfl) λz=>nomatch z) q
def zM:bW ["atom","setting","things"] ["atom","setting"] (ba sN):=⟨rfl,rfl,rfl,Z9,rfl,Z9,Z9⟩
def JT (F:aF K "filled" "filled" sN f fd)(B:Bl mg):bp P w K mg base bz 1 f fd ["atom","setting"] (bw qv):=by
 refine F.ok zM (eP (n:=2) λz d C=>by obtain ⟨l,b,e,_⟩:=C;rw [e];rfl) λG A c s H I Q E t h=>?_
 obtain ⟨M,z,d,u,J,⟨l,b,rfl,L,x,N,rfl⟩,q⟩:=h
 have hu:=dR t
 have g:=fE t
 refine ⟨_,(aD (bj 2 zM.nd<|vR B<|pv 1)
   (aB<|bu<|sV B<|fM ["things","part"] [2] 1 (cq<|pv 0) (λ_ _ _ _ _=>(bv 1 (show (["things","part"]:ZY).Nodup from by decide+kernel))) (λ_ _ _ _ _=>jw) λ_ _ _ _ _=>(ue g (pv 0) (pv 1) (pv 1) ⟨rfl,rfl,rfl,rfl⟩))),?_⟩
 have E0:=gH J ["atom","setting","things"]
 obtain ⟨v,O,T⟩:=E0.get 1 _ rfl
 obtain ⟨a,U,rfl,Y,h2⟩:=T.d7
 refine ⟨.ref a,O,a,U,bL b,rfl,aP.of (ax Y).2,qV x h2,λp y=>?_⟩
 have j:=dr y (.dK<|ci []<|bL b)
 have k:=u.fresh y
 have E1:=(E0.same j).off 2<|some (.ref p)
 have m:but (upd H p (.dK<|ci []<|bL b)) M p=some (.dK<|ci []<|bL b):=by rw [bh k];exact aR
 have o:((L2.start ["atom","setting","things"] I).set 2<|some<|V.ref p)[2]?=some (some (.ref p)):=LM (by rw [E0.len];show 2<3;decide)
 refine eA (u.same j) (rO<|aa ((gm (i:=1) (p:=λ_=>true) (f:=cb b) (jI<|aG E1 rfl) (λG' v d _ _ _=>jS) (λG' v d sG hd _ r=>Cq (a:=p) ?_ (sG _ _ m) (L d hd) x<|cH ?_ r)<|cy N).eq ?_) ag) λv H2 s2 r2=>q v H2 (j.trans s2) r2
 .simp [aY,o]
 .simp [aY]
 .rw [MG.mpr λ_ _=>rfl]
def pI:bW ["atom","fact","setting","things","further","part","thing"] ["atom","fact","setting"] (ba tU):=⟨rfl,rfl,rfl,Z9,rfl,Z9,Z9⟩
def Fd (F:aF K "matched" "matched" tU f fd)(B:Bl mg)(l:aV P w K mg base 1 "is_blank" ["part"] (bw wW)):bp P w K mg base bz 2 f fd ["atom","fact","setting"] (bw Ah):=by
 refine F.ok pI (eP (n:=3) λds d q0=>by obtain ⟨_,_,_,e,_⟩:=q0;rw [e];rfl) λch A bc s H vs Q E hr h=>?_
 obtain ⟨M,ds,d,lv,rs,⟨At,Fc,u,rfl,hA,ac,ao,bd,cl,nA,nF,rfl⟩,q⟩:=h
 have hu:=dR hr
 have af:=fE hr
 refine ⟨_,(aD (cj (iG (cA (ij (by exact hu)) (bg (pv 0) aM)<|bg (pv 1) aM)<|jp<|cA (ij (by exact hu)) (cY B<|pv 0)<|cY B<|pv 1).pt (aB<|bu u9) cu)
   (aD (bj 3 pI.nd<|vR B<|pv 2)
   (aD (bj 4 pI.nd<|yB B<|pv 2)
   (aD (de L9 rfl (DJ B.zip<|ai (pv 0)<|ai (pv 1) aw) (mZ rfl<|fj (bv 5 pI.nd)<|fj (bv 6 pI.nd) kn) (aB (cj (iY (df<|bG l hr<|ai (pv 5) aw)<|iU<|jV<|pH (by exact af) (pv 5)<|pv 3).pt (aD (kN af (pv 3) (pv 5) (pv 6) rfl)
   (aB<|jY (pv 4)<|eE<|ai (pv 5)<|ai (pv 6) aw))<|aB<|cj (cA (ij (by exact hu)) (ue af (pv 3) (pv 5) (pv 5) ⟨rfl,rfl,rfl,rfl⟩)<|pv 6) (aB<|bu u9) cu)))
   (aB<|bu<|pv 4))))),?_⟩
 have E0:=gH rs ["atom","fact","setting","things","further","part","thing"]
 obtain ⟨N,A',rfl⟩:=Oh nA
 obtain ⟨O,F',rfl⟩:=Oh nF
 have as:=fu (hA N Lz).1<|ac O Lz
 refine im lv E0 (iC (cw<|nl as.1 as.2 (b9 (d:=N) gZ (aG E0 rfl) aq)<|b9 (d:=O) gZ (aG E0 rfl) aq) λ_=>cw<|nC (h9<|aa (aG E0 rfl) ag)<|h9<|aa (aG E0 rfl) ag) (λe H1 s1 l1 E1=>?_) λe H1 s1 l1 E1=>nx ?_
 .have hm:oh (bE (N::A') (O::F') u)=.av:=by
   unfold bE
   rw [LG]
   rfl
   rintro ⟨z1,z2⟩
   have z1:N=O:=z1
   rw [z2,z1] at e
   simp at e
  rw [hm] at q
  exact q .av H1 s1 .av
 have v:N=O/\(N::A').length=(O::F').length:=by
  rw [NF] at e
  refine ⟨by simpa using e.1,?_⟩
  have:=e.2
  simp only [Bool.not_eq_false',Nk] at this
  exact Int.ofNat.inj this
 have hm:oh (bE (N::A') (O::F') u)=oh (fN u<|(N::A').zip (O::F')):=by
  unfold bE
  rw [LJ]
  exact v
 rw [hm] at q
 have C:=v.2
 generalize N::A'=m at hA bd q C E1
 generalize O::F'=r at ac q C E1
 refine IK (i:=3) (k:=2) l1 E1 Z8 rfl ao λp co H2 o2 i2 n2 h2 l2 k2 E2=>?_
 refine HB (i:=4) (k:=2) l2 E2 Z8 rfl λa bi bk H3 o3 i3 n3 h3 r3 l3 k3 E3=>?_
 have bl:bk[3]?=some (some (.ref p)):=(o3 3 Z1).trans i2
 obtain ⟨a0,bs⟩:=k3 _ _ h2
 have a1:ab H H2:=s1.trans λb o e=>(k2 b o e).2
 have bt:ab H H3:=a1.trans λb o e=>(k3 b o e).2
 have bx:H p=none:=none_of s1 k2
 have b0:H a=none:=none_of a1 k3
 refine gJ (M:=a::p::M) (ds:=lh m r) (Ko C<|aa (aG E3 rfl)<|aa (aG E3 rfl) ag) l3 λH4 s4=>?_
 refine ⟨λj g G=>∃Fr ws,fN u (m.zip r)=fN Fr ((m.zip r).drop j)/\(∀t∈Fr,t.2.sc=true)/\Fr.length<=u.length+j/\g[3]?=some (some (.ref p))/\g[4]?=some (some (.ref a))/\G p=some (.dK<|ci []<|bL Fr)/\G a=some (.lst ws)/\aC (but G (a::p::M)) ws (pairD Fr)/\ab H G/\ap (a::p::M) G/\ab (but H4 (a::p::M)) (but G (a::p::M))/\ay (but G (a::p::M)) g [some (.tup m),some (.tup r),some (.lst<|pairD u),none,none,none,none],
  ⟨u,bi,rfl,ao,by omega,bl,i3,s4 _ _ bs,s4 _ _ h3,r3.mono<|s4.but _,bt.trans s4,l3.same s4,ab.refl _,E3.same s4⟩,λj g G q1=>by obtain ⟨_,_,_,_,_,_,_,_,_,_,_,x,y,_⟩:=q1;exact ⟨y,x⟩,?_,?_⟩
 .rintro j d x g G b6 hd ⟨Fr,ws,c,cG,b7,j3,j4,hp,ha,ra,S0,l',S',E'⟩ L rx
  obtain ⟨x1,Y,ex,ey,rfl,aj⟩:=J6 hd
  have am:=hA x1<|LD ex
  have an:=ac Y<|LD ey
  have hj:j<m.length:=(Lx.mp ex).1
  refine oG rx λv1 v2 r1 r2=>?_
  have E5:ay (but b6 (a::p::M)) ((g.set 5<|some v1).set 6<|some v2) [some (.tup m),some (.tup r),some (.lst<|pairD u),none,none,some x1,some Y]:=((E'.same L).set 5 r1).set 6 r2
  have l5:=l'.same L
  have b3:((g.set 5<|some v1).set 6<|some v2)[3]?=some (some (.ref p)):=by rw [LB Z1,LB Z1];exact j3
  have b4:((g.set 5<|some v1).set 6<|some v2)[4]?=some (some (.ref a)):=by rw [LB Z1,LB Z1];exact j4
  have T:=L _ _ hp
  have a2:=L _ _ ha
  have a3:=ra.mono<|L.but (a::p::M)
  rw [aj] at c
  refine vq l5 E5 (Dd (TV.of l5<|dh<|bN ⟨x1,rfl,am.2,rfl⟩<|aa (aG E5 rfl) ag) λ_=>Hz b3 T am.1 l5<|aG E5 rfl) (λe H6 U l6 E6=>?_) λe H6 U l6 E6=>?_
  .obtain ⟨n,rfl⟩:∃n,x1=.str n:=by
    cases x1 with
    |str n=>exact ⟨n,rfl⟩
    |_=>simp [aJ] at e
   have I:fN u (m.zip r)=fN (Fr++[(n,Y)]) ((m.zip r).drop<|j+1):=by
    rw [c]
    show (fS Fr (.str n) Y).bind _=_
    unfold fS
    rw [LJ e]
    rfl
   refine zK (n:=n) (y:=Y) l6 E6 Z8 b3 (U _ _ T) an Z4 (aG E6 rfl) (aG E6 rfl) λH7 k7 l7 h7 E7=>?_
   have a4:ab (but H6 (a::p::M)) (but H7 (a::p::M)):=mh Z8 k7
   refine sF l7 E7 (a:=a) Z8 b4 (k7 _ _ (MC a0)<|U _ _ a2) (a3.mono<|(U.but _).trans a4) (by simp only [pairD,LA];exact cy Z4) (aQ<|aa (aG E7 rfl)<|aa (aG E7 rfl) ag) λv8 H8 k8 l8 h8 r8 E8=>?_
   have b8:ab (but H7 (a::p::M)) (but H8 (a::p::M)):=mh Z8 k8
   exact ⟨Fr++[(n,Y)],_,I,wX cG an,by rw [LR,MQ];omega,b3,b4,k8 _ _ a0 h7,h8,by rw [GY];exact r8,mU (mU (S0.trans<|L.trans U) bx k7) b0 k8,l8,S'.trans<|((L.trans U).but _).trans<|a4.trans b8,(E8.drop 5).drop 6⟩
  .refine vq l6 E6 (Jn b3 (U _ _ T) am.1 an cG l6 (aG E6 rfl)<|aG E6 rfl) (λe2 H7 s7 l7 E7=>?_) (λe2 H7 s7 l7 E7=>nx ?_)
   .have I:fN u (m.zip r)=none:=by
     rw [c]
     show (fS Fr x1 Y).bind _=_
     unfold fS
     rw [e,LG LI,LG (by simpa using e2)]
     rfl
    rw [I] at q
    exact q .av H7 (S0.trans<|L.trans<|U.trans s7) .av
   .have I:fN u (m.zip r)=fN Fr ((m.zip r).drop<|j+1):=by
     rw [c]
     show (fS Fr x1 Y).bind _=_
     unfold fS
     rw [e,LG LI,LJ (by simpa using e2)]
     rfl
    have J:=U.trans s7
    exact ⟨Fr,ws,I,cG,by omega,b3,b4,J _ _ T,J _ _ a2,a3.mono<|J.but _,S0.trans<|L.trans J,l7,S'.trans<|(L.trans J).but _,(E7.drop 5).drop 6⟩
 .rintro g G ⟨Fr,ws,c,cG,b7,j3,j4,hp,ha,ra,S0,l',S',E'⟩
  have kJ:(m.zip r).drop (lh m r).length=[]:=OP (by simp [lh])
  rw [kJ] at c
  rw [c] at q
  refine ⟨.ref a,j4,q (.ref a) G S0 ?_⟩
  have cd:a∉M:=λz=>n3<|Lv _ z
  exact mC cd ha (ra.mono (dU λb hb=>by
   rcases LK.mp hb with rfl|hb
   .exact Lz
   .exact Lv _<|Lv _ hb))
def GF:bW ["atom"] ["atom"] (ba t8):=⟨rfl,rfl,rfl,Z9,rfl,Z9,Z9⟩
def Ij(F:aF K "is_guard" "is_guard" t8 f fd)(B:Bl mg)(g:mg "LESS"=some k/\RelV (.str "less") k)(c:mg "UNLIKE"=some l/\RelV (.str "unlike") l):bp P w K mg base bz 1 f fd ["atom"] (bw rp):=by
 refine F.ok GF (eP (n:=1) λu d v=>by obtain ⟨x,e,_⟩:=v;rw [e];rfl) λy A j s H I Q E z h=>?_
 obtain ⟨M,u,d,C,G,⟨J,rfl,m,rfl⟩,q⟩:=h
 have o:=dR z
 refine ⟨_,(aB<|bu<|F0 (iZ (fC (by exact o)) (bg (pv 0) aM)<|uP rfl g.1 g.2)<|pO<|iZ (fC (by exact o)) (bg (pv 0) aM)<|uP rfl c.1 c.2),?_⟩
 have E0:=gH G ["atom"]
 obtain ⟨i,L,rfl⟩:=Oh m.ne
 have p:=(m.sc i Lz).1
 have r:=fu (a:=i) (b:=.str "less") p rfl
 have t:=fu (a:=i) (b:=.str "unlike") p rfl
 exact eA C (Ip (lL r.1 r.2 (b9 (d:=i) gZ (aG E0 rfl) aq) aN) λ_=>lL t.1 t.2 (b9 (d:=i) gZ (aG E0 rfl) aq) aN) q
def vQ:bW ["atom","found","part"] ["atom"] (ba rT):=⟨rfl,rfl,rfl,Z9,rfl,Z9,Z9⟩
def HJ (F:aF K "blanks_in" "blanks_in" rT f fd)(B:Bl mg)(c:aV P w K mg base 1 "is_blank" ["part"] (bw wW)):bp P w K mg base bz 2 f fd ["atom"] (bw oy):=by
 refine F.ok vQ (eP (n:=1) λds d q0=>by obtain ⟨x,e,_⟩:=q0;rw [e];rfl) λaj A I s H vs Q E J h=>?_
 obtain ⟨M,ds,d,lv,rs,⟨k,rfl,hA,rfl⟩,q⟩:=h
 have hu:=dR J
 have L:=fE J
 refine ⟨_,(aD (bj 1 vQ.nd ux)
   (aD (de L9 rfl (cq<|pv 0) (bv 2 vQ.nd)<|aB<|cj (df<|bG c J<|ai (pv 2) aw) (aB<|kN L (pv 1) (pv 2) d9 rfl) cu)
   (aB<|bu<|IJ B<|pv 1))),?_⟩
 have E0:=gH rs ["atom","found","part"]
 refine uG (i:=1) lv E0 Z8 λp am H1 o1 i1 n1 h1 l1 k1 E1=>?_
 have N:ab H H1:=λb o e=>(k1 b o e).2
 have O:H p=none:=none_of (ab.refl H) k1
 refine gJ (M:=p::M) (ds:=k) (jI<|aG E1 rfl) l1 λH2 z=>?_
 refine ⟨λj g l=>g[1]?=some (some (.ref p))/\l p=some (.dK<|dY<|ak []<|k.take j)/\ab H l/\ap (p::M) l/\ab (but H2 (p::M)) (but l (p::M))/\ay (but l (p::M)) g [some (.tup k),none,none],
  ⟨i1,z _ _ h1,N.trans z,l1.same z,ab.refl _,E1.same z⟩,λj g l q1=>by obtain ⟨_,_,_,x,y,_⟩:=q1;exact ⟨y,x⟩,?_,?_⟩
 .rintro j d x g l T C ⟨U,t,u,l',Y,E'⟩ m rx
  have hx:=hA.sc d<|LD C
  have hj:j<k.length:=(Lx.mp C).1
  have E3:ay (but T (p::M)) (g.set 2<|some x) [some (.tup k),none,some d]:=(E'.same m).set 2 rx
  have b1:(g.set 2<|some x)[1]?=some (some (.ref p)):=(LB Z1).trans U
  refine im (l'.same m) E3 (dh<|bN ⟨d,rfl,hx.2,rfl⟩<|aa (aG E3 rfl) ag) (λe H4 r l4 G=>?_) λe H4 r l4 G=>nx ?_
  .have ac:=jl e
   have v:=jT (k.take j) []
   rw [NI,Mr] at v
   refine zv (n:=d.name) l4 G Z8 b1 (r _ _<|m _ _ t) (by have:=hA.len;omega) ((aG G rfl).eq ac) (qB (b:=true)) λH5 k5 l5 h5 E5=>?_
   have S5:ab (but H4 (p::M)) (but H5 (p::M)):=mh Z8 k5
   refine ⟨b1,?_,mU (u.trans<|m.trans r) O k5,l5,Y.trans<|((m.trans r).but _).trans S5,E5.drop 2⟩
   rw [ye C,Fn e]
   exact h5
  .refine ⟨b1,?_,u.trans<|m.trans r,l4,Y.trans<|(m.trans r).but _,G.drop 2⟩
   rw [ye C,uK e]
   exact r _ _<|m _ _ t
 .rintro g l ⟨U,t,u,l',Y,E'⟩
  rw [Mh<|LF _] at t
  refine ⟨.ref p,U,p,_,rfl,.inl t,λa ha=>q (.ref a) _ (u.trans<|dr ha _) ?_⟩
  have e1:(dY<|ak [] k).map (λkv=>kV kv.1)=(ak [] k).map V.str:=by
   unfold dY
   rw [Mn]
   rfl
  rw [e1]
  have af:a∉M:=(lv.same u).fresh ha
  refine .lst (vs:=(ak [] k).map V.str) ?_ (BN _)
  rw [bh af]
  exact aR
def sc_holds:bW ["guard","first","second"] ["guard"] (ba s_holds):=⟨rfl,rfl,rfl,Z9,rfl,Z9,Z9⟩
def ok_holds(F:aF K "holds" "holds" s_holds f fd)(B:Bl mg)(g:mg "UNLIKE"=some G/\RelV (.str "unlike") G):bp P w K mg base bz 1 f fd ["guard"] (bw sP):=by
 refine F.ok sc_holds (eP (n:=1) λds d q0=>by obtain ⟨_,_,_,e,_⟩:=q0;rw [e];rfl) λac A l s H vs Q E hr h=>?_
 obtain ⟨M,ds,d,lv,rs,⟨r,a,b,rfl,I,J,rfl⟩,q⟩:=h
 have L:=dR hr
 refine ⟨_,(aD (bj 1 sc_holds.nd<|bg (pv 0) aM)
   (aD (bj 2 sc_holds.nd<|bg (pv 0) aM)
   (aD (cj (cA (fC (by exact L)) (bg (pv 0) aM)<|uP rfl g.1 g.2) (aB<|bu<|iZ (ij (by exact L)) (pv 1)<|pv 2) cu)
   (aB<|bu<|nz (gg B (pv 1) B.int OS)<|nz (gg B (pv 2) B.int OS)<|pO<|iZ nD (pv 1)<|pv 2)))),?_⟩
 have E0:=gH rs ["guard","first","second"]
 refine za lv E0 (b9 (d:=a) rfl (aG E0 rfl) aq) λaf H1 N l1 O=>?_
 refine za l1 O (b9 (d:=b) rfl (aG O rfl) aq) λm H2 T l2 U=>?_
 have cG:=fu I J
 refine im l2 U (cw<|lL (d1:=.str r) (d2:=.str "unlike") rfl (Mb _) (b9 (d:=.str r) rfl (aG U rfl) aq) aN) (λe Y o p k=>?_) λe Y o p k=>nx ?_
 .have t:r="unlike":=by simpa using e
  refine eA p (nl cG.1 cG.2 (aG k rfl)<|aG k rfl) λv u x y=>q v u (N.trans<|T.trans<|o.trans x) ?_
  unfold holdsD
  rw [LJ t]
  exact y
 .have t:¬r="unlike":=by simpa using e
  have C:ae (rL (cD (ji K)<|bo (aW 1)<|bo (tC (.ty "int")) bA)<|rL (cD (ji K)<|bo (aW 2)<|bo (tC (.ty "int")) bA)<|bY (f9 λi j=>.bl<|decide<|i<j) (aW 1)<|aW 2) (but Y M) m (.bl<|holdsD r a b):=by
   unfold holdsD
   rw [LG t]
   cases a with
   |int i=>
    cases b with
    |int j=>exact fK (b:=true) (c:=decide<|i<j) (oC (d:=.int i)<|aG k rfl) λ_=>fK (b:=true) (oC (d:=.int j)<|aG k rfl) λ_=>nq (aG k rfl)<|aG k rfl
    |str j=>exact fK (b:=true) (c:=false) (oC (d:=.int i)<|aG k rfl) λ_=>fK (b:=false) (c:=false) (oC (d:=.str j)<|aG k rfl) λz=>nomatch z
    |_=>exact absurd J (by simp [D.sc])
   |str i=>exact (fK (b:=false) (c:=false) (oC (d:=.str i)<|aG k rfl) λz=>nomatch z)
   |_=>exact absurd I (by simp [D.sc])
  exact eA p C λv u x y=>q v u (N.trans<|T.trans<|o.trans x) y
def CA (p:D->Bool)(g:ZZ->Bool)(b:ZW)(h:∀a∈b,p (.tup a)=g a):((b.map D.tup).filter p).map (λd=>d)=(b.filter g).map D.tup:=by
 rw [Ol,Nl]
 congr 1
 exact Nf h
def sR:D->Bool
 |.tup A=>aE A
 |_=>false
def Kr:bW ["body"] ["body"] (ba rY):=⟨rfl,rfl,rfl,Z9,rfl,Z9,Z9⟩
def HG (F:aF K "askers_in" "askers_in" rY f fd)(B:Bl mg)(b:aV P w K mg base 1 "is_guard" ["atom"] (bw rp)):bp P w K mg base bz 2 f fd ["body"] (bw vz):=by
 refine F.ok Kr (eP (n:=1) λk d l=>by obtain ⟨x,e,_⟩:=l;rw [e];rfl) λm A c s H I Q E o h=>?_
 obtain ⟨M,k,d,t,u,⟨g,rfl,y,J,rfl⟩,q⟩:=h
 refine ⟨_,(aB<|bu<|fM ["atom"] [] 1 (cq<|pv 0) (λ_ _ _ _ _=>(bv 0<|ky _)) (λ_ _ _ _ _=>(iH<|eF<|df<|kA b o<|ai (pv 0) aw)) λ_ _ _ _ _=>(pv 0)),?_⟩
 have E0:=gH u ["body"]
 refine eA t (ae.eq (gm (caps:=aY [] 1) (i:=0) (p:=λd=> !sR d) (f:=λd=>d) (jI (ds:=g.map D.tup)<|aG E0 rfl) (λz v d C j r=>?_) (λz v d C j _ r=>cH ?_ r) (by rw [LA];exact cy Z4)) ?_) q
 .obtain ⟨a,G,rfl⟩:=LS.mp j
  exact eB<|dh<|bN (d:=.bl<|sR (.tup a)) ⟨a,rfl,y a G,rfl⟩<|aa (cH (by simp [aY]) r) ag
 .simp [aY]
 .rw [CA _ (λa=> !aE a) g λa _=>rfl]
  rfl
def KZ:bW ["body"] ["body"] (ba sZ):=⟨rfl,rfl,rfl,Z9,rfl,Z9,Z9⟩
def DN (F:aF K "guards_in" "guards_in" sZ f fd)(B:Bl mg)(b:aV P w K mg base 1 "is_guard" ["atom"] (bw rp)):bp P w K mg base bz 2 f fd ["body"] (bw oQ):=by
 refine F.ok KZ (eP (n:=1) λk d l=>by obtain ⟨x,e,_⟩:=l;rw [e];rfl) λm A c s H I Q E o h=>?_
 obtain ⟨M,k,d,t,u,⟨g,rfl,y,J,rfl⟩,q⟩:=h
 refine ⟨_,(aB<|bu<|fM ["atom"] [] 1 (cq<|pv 0) (λ_ _ _ _ _=>(bv 0<|ky _)) (λ_ _ _ _ _=>(iH<|df<|kA b o<|ai (pv 0) aw)) λ_ _ _ _ _=>(pv 0)),?_⟩
 have E0:=gH u ["body"]
 refine eA t (ae.eq (gm (caps:=aY [] 1) (i:=0) (p:=sR) (f:=λd=>d) (jI (ds:=g.map D.tup)<|aG E0 rfl) (λz v d C j r=>?_) (λz v d C j _ r=>cH ?_ r) (by rw [LA];exact cy Z4)) ?_) q
 .obtain ⟨a,G,rfl⟩:=LS.mp j
  exact dh<|bN (d:=.bl<|sR (.tup a)) ⟨a,rfl,y a G,rfl⟩<|aa (cH (by simp [aY]) r) ag
 .simp [aY]
 .rw [CA _ aE g λa _=>rfl]
  rfl
end
end a5
namespace FL
open PySem L2
inductive Da where
 |d (x:D)
 |k (kvs:List (aK×V))
def tV (H:Hp)(v:V):Da->Prop
 |.d x=>al H v x
 |.k kvs=>∃a,v=.ref a/\H a=some (.dK kvs)
inductive kR (H:Hp):List V->List Da->Prop
 |nil:kR H [] []
 |cons {v:V} {x:Da} {vs:List V} {xs:List Da}:tV H v x->kR H vs xs->kR H (v::vs) (x::xs)
theorem kR.length:∀{a:List V} {b:List Da},kR H a b->a.length=b.length
 |_,_,.nil=>rfl
 |_,_,.cons _ r=>MA (· +1) r.length
def oF (t:TA)(G:Hp)(σ:St)(xs:List Da):Prop:=∀M H,ab G (but H M)->ap M H->∀Q:List V->Hp->Prop,(∀vs H',ab H H'->kR (but H' M) vs xs->Q vs H')->t σ H Q
def iX (R:List Da->D->Prop):Sp:=λvs H Q _=>∃M xs d,ap M H/\kR (but H M) vs xs/\R xs d/\∀v H',ab H H'->al (but H' M) v d->Q v H'
section
variable {G:Hp}{σ:St}{ta:TE}{t:TA}{d:D}{xs:List Da}
def oK:oF bA G σ []:=λM H s l Q k=>k [] H (ab.refl _) .nil
def px (c:ae ta G σ d)(e:oF t G σ xs):oF (bo ta t) G σ (.d d::xs):=
 λM H s l Q k=>c M H s l _ λv f a g=>e M f (s.trans<|a.but M) (l.same a) _ λj h b i=>k _ h (a.trans b) (.cons (show tV _ v (.d d) from g.mono<|b.but M) i)
def oU{i:Nat}(e:σ[i]?=some (some (.ref a)))(f:G a=some (.dK b))(g:oF t G σ xs):oF (bo (aW i) t) G σ (.k b::xs):=
 λM H s l Q k=>⟨.ref a,e,g M H s l _ λm h c j=>k _ h c (.cons ⟨a,rfl,(c.but M) _ _<|s _ _ f⟩ j)⟩
def qk{R:List Da->D->Prop}(b:R xs d)(h:oF t G σ xs):ae (iF (iX R) [] E t) G σ d:=
 λM H s l Q k=>h M H s l _ λi j a c=>⟨M,xs,d,l.same a,by rw [Mi];exact c,b,λv e f g=>k v e (a.trans f) g⟩
end
def xz{R:List Da->D->Prop}(c:∀a d,R a d->a.length=n):∀b H Q E,iX R b H Q E->b.length=n:=λb H Q E f=>by obtain ⟨M,a,d,l,r,e,k⟩:=f;rw [r.length];exact c a d e
def Seen:HO->Bool
 |.lst _=>true
 |.tup _=>true
 |_=>false
mutual
theorem al.eW {H:Hp}{M:List Addr}{a:Addr}{o:HO}(ha:H a=some o)(hs:Seen o=false):∀{v:V} {d:D},al (but H M) v d->al (but H (a::M)) v d
 |_,_,.av=>.av
 |_,_,.bl b=>.bl b
 |_,_,.int b=>.int b
 |_,_,.str b=>.str b
 |_,_,.tup (a:=c) h r=>by
  refine .tup ?_ (aC.eW ha hs r)
  obtain ⟨h1,h2⟩:=ax h
  rw [bh]
  ·exact h2
  ·intro z
   rcases mem_cons.mp z with z|z
   ·rw [z,ha] at h2
    cases h2
    cases hs
   ·exact h1 z
 |_,_,.lst (a:=c) h r=>by
  refine .lst ?_ (aC.eW ha hs r)
  obtain ⟨h1,h2⟩:=ax h
  rw [bh]
  ·exact h2
  ·intro z
   rcases mem_cons.mp z with z|z
   ·rw [z,ha] at h2
    cases h2
    cases hs
   ·exact h1 z
theorem aC.eW {H:Hp}{M:List Addr}{a:Addr}{o:HO}(ha:H a=some o)(hs:Seen o=false):∀{vs:List V} {ds:List D},aC (but H M) vs ds->aC (but H (a::M)) vs ds
 |_,_,.nil=>.nil
 |_,_,.cons h r=>.cons (al.eW ha hs h) (aC.eW ha hs r)
end
theorem ay.eW(h:ay (but H M) b c)(f:H a=some o)(g:Seen o=false):ay (but H (a::M)) b c:=⟨h.len,λi d q=>let ⟨v,e,r⟩:=h.get i d q;⟨v,e,al.eW f g r⟩⟩
def dS (B:List Str):List (aK×V):=B.zipIdx.map λp=>(Sum.inr p.1,V.int (p.2:Nat))
theorem y6:∀(B:ZY) (k:Nat) (n:Str),bm ((B.zipIdx k).map λp=>((Sum.inr p.1:aK),V.int (p.2:Nat))) (Sum.inr n)=if n∈B then some (V.int ((k+B.idxOf n:Nat):Int)) else none
 |[],k,n=>by simp [bm]
 |b::r,k,n=>by
  rw [Qk,Mu]
  by_cases e:b=n
  .subst e
   rw [ge rfl,LJ Lz,List.idxOf_cons_self]
   rfl
  .have c:¬(Sum.inr b:aK)=Sum.inr n:=λz=>e (Qh z)
   rw [fZ (by exact c),y6 r (k+1) n]
   by_cases a:n∈r
   .have d:(b::r).idxOf n=r.idxOf n+1:=by rw [List.idxOf_cons,show (b==n)=false from by simpa using e];rfl
    rw [LJ a,LJ<|Lv _ a,d]
    congr 3
    omega
   .rw [LG a,LG (by
     intro z
     rcases LK.mp z with z|z
     .exact e z.symm
     .exact a z)]
def slot_get (B:ZY)(n:Str):bm (dS B) (Sum.inr n)=if n∈B then some (V.int (B.idxOf n:Nat)) else none:=by
 have:=y6 B 0 n
 rw [MY] at this
 exact this
section
variable {G:Hp}{σ:St}{ty:TE}{a:Addr}{i:Nat}{B:List Str}{n:Str}
def z9 (e:σ[i]?=some (some (.ref a)))(c:G a=some (.dK (dS B)))(h:ae ty G σ (.str n)):br (tB (pP ty (aW i))) G σ (decide (n∈B)):=λM H s l Q k=>h M H s l _ λv f b g=>by
 have j:=b _ _ (ax<|s _ _ c).2
 refine ⟨.ref a,e,a,bm (dS B)<|Sum.inr n,rfl,by rw [(fP (d:=.str n) rfl g).2];exact cR.k j,_,rfl,?_⟩
 have:(bm (dS B)<|Sum.inr n).isSome=decide (n∈B):=by rw [slot_get];by_cases z:n∈B<;>simp [z]
 rw [this]
 exact k f b
def y8 (e:σ[i]?=some (some (.ref a)))(c:G a=some (.dK (dS B)))(f:n∈B)(h:ae ty G σ (.str n)):ae (rP (aW i) ty) G σ (.int (B.idxOf n:Nat)):=λM H s l Q k=>⟨.ref a,e,h M H s l _ λv g b j=>by
 have m:=b _ _ (ax<|s _ _ c).2
 refine ⟨a,.int (B.idxOf n:Nat),rfl,?_,k _ g b (.int _)⟩
 have:some (V.int (B.idxOf n:Nat))=bm (dS B) (Sum.inr n):=by rw [slot_get,LJ f]
 rw [this,(fP (d:=.str n) rfl j).2]
 exact cR.k m⟩
end
def cX (A:List D)(B:List Str):List Nat:=((ak [] A).filter λb=>decide (b∈B)).map B.idxOf
def vG:List Da->D->Prop:=λxs d=>∃A B,xs=[.d (.tup A),.k (dS B)]/\dz A/\d=.lst ((cX A B).map λn=>D.int (n:Nat))
def cp (A:List D)(B:List Str):Bool:=decide ((cX A B).length=(ak [] A).length)
def CY:List Da->D->Prop:=λxs d=>∃A B,xs=[.d (.tup A),.k (dS B)]/\dz A/\d=.bl (cp A B)
inductive kM (G:Hp):List V->Dn->Prop
 |nil:kM G [] []
 |dat {v:V} {d:D} {vs:List V} {ds:Dn}:al G v d->kM G vs ds->kM G (v::vs) (some d::ds)
 |raw {v:V} {vs:List V} {ds:Dn}:kM G vs ds->kM G (v::vs) (none::ds)
theorem kM.get:∀{a:List V} {b:Dn},kM G a b->a.length=b.length/\∀(i:Nat) (d:D),b[i]?=some (some d)->∃v,a[i]?=some v/\al G v d
 |_,_,.nil=>⟨rfl,λi d q=>by simp at q⟩
 |_,_,.dat h t=>⟨MA (· +1) t.get.1,λi d q=>match i,q with
  |0,q=>⟨_,rfl,by have:=LQ<|LQ q;rw [<-this];exact h⟩
  |i+1,q=>t.get.2 i d q⟩
 |_,_,.raw t=>⟨MA (· +1) t.get.1,λi d q=>match i,q with
  |0,q=>by cases q
  |i+1,q=>t.get.2 i d q⟩
def fV {G:Hp}{vs:List V}{ds:Dn}(h:kM G vs ds)(N:ZY):ay G (L2.start N vs) (ds++List.replicate (N.length-ds.length) none):=by
 obtain ⟨hl,hg⟩:=h.get
 refine ⟨by simp [L2.start,hl],λi d q=>?_⟩
 unfold L2.start
 by_cases hi:i<ds.length
 .rw [LZ hi] at q
  obtain ⟨v,h1,h2⟩:=hg i d q
  exact ⟨v,by rw [LZ (by simpa using (by omega:i<vs.length)),LO,h1];rfl,h2⟩
 .rw [Ma (Mp hi)] at q
  obtain ⟨h1,h2⟩:=Lx.mp q
  simp at h2
end FL
namespace a5
open PySem L2 FL
section
variable {P:Program}{w:World}{K:PySem.W.Frag}{mg:Str->Option Value}{base:Heap}{f:Addr}{fd:FuncData}
def xy(h:kR H a [x,y]):∃v w,a=[v,w]/\tV H v x/\tV H w y:=by
 cases h with
 |cons h t=>cases t with
  |cons b c=>cases c;exact ⟨_,_,rfl,h,b⟩
def F2:bW ["atom","slots"] ["atom","slots"] (ba qN):=⟨rfl,rfl,rfl,Z9,rfl,Z9,Z9⟩
def FZ (F:aF K "slots_of" "slots_of" qN f fd)(B:Bl mg)(G_blanks_in:aV P w K mg base 2 "blanks_in" ["atom"] (bw oy)):bp P w K mg base bz 3 f fd ["atom","slots"] (iX vG):=by
 refine F.ok F2 (xz (n:=2) λds d q0=>by obtain ⟨_,_,e,_⟩:=q0;rw [e];rfl) (λcdv A outer s H vs Q E hr h=>?_)
 obtain ⟨M,ds,d,lv,rs,⟨At,Bs,rfl,hA,rfl⟩,q⟩:=h
 have hu1:=fE hr
 obtain ⟨v0,v1,rfl,r0,⟨a,rfl,ha⟩⟩:=xy rs
 have r0:al (but H M) v0 (.tup At):=r0
 refine ⟨_,(aB (bu (fM ["slots","blank"] [1] 1 (cq (bG G_blanks_in hr (ai (pv 0) aw))) (λ_ _ _ _ _=>(bv 1 (show (["slots","blank"]:ZY).Nodup from by decide+kernel))) (λ_ _ _ _ _=>(iH (jV (qc (by exact hu1) (pv 1) (pv 0))))) (λ_ _ _ _ _=>(p8 (by exact hu1) (pv 0) (pv 1) (λ_ _=>rfl)))))),?_⟩
 have E0:ay (but H M) (L2.start ["atom","slots"] [v0,.ref a]) [some (.tup At),none]:=fV (.dat r0 (.raw .nil)) ["atom","slots"]
 have hlen:=jT At []
 rw [NI] at hlen
 have hAl:=hA.len
 refine eA lv (ae.eq (gm (caps:=aY [1] 1) (i:=1) (p:=λd=>decide (d.name∈Bs)) (f:=λd=>.int ((Bs.idxOf d.name:Nat):Int)) (dG (ds:=(ak [] At).map D.str) (bN ⟨At,rfl,hA,rfl⟩ (aa (aG E0 rfl) ag))) (λG' v d sG hd r=>?_) (λG' v d sG hd hp r=>?_) (by rw [LA];exact cy Z4)) ?_) q
 .obtain ⟨b,hb,rfl⟩:=LS.mp hd
  exact z9 (n:=b) (a:=a) (by simp [aY,L2.start]) (sG _ _ ha) (cH (by simp [aY]) r)
 .obtain ⟨b,hb,rfl⟩:=LS.mp hd
  exact y8 (n:=b) (a:=a) (by simp [aY,L2.start]) (sG _ _ ha) (LW hp) (cH (by simp [aY]) r)
 .unfold cX
  rw [Nl,Mn,Mn]
  rfl
def Ep:bW ["guard","slots"] ["guard","slots"] (ba tI):=⟨rfl,rfl,rfl,Z9,rfl,Z9,Z9⟩
def Lh (F:aF K "is_ready" "is_ready" tI f fd)(B:Bl mg)(G_blanks_in:aV P w K mg base 2 "blanks_in" ["atom"] (bw oy))(G_slots_of:aV P w K mg base 3 "slots_of" ["atom","slots"] (iX vG)):bp P w K mg base bz 4 f fd ["guard","slots"] (iX CY):=by
 refine F.ok Ep (xz (n:=2) λds d q0=>by obtain ⟨_,_,e,_⟩:=q0;rw [e];rfl) (λcdv A outer s H vs Q E hr h=>?_)
 obtain ⟨M,ds,d,lv,rs,⟨At,Bs,rfl,hA,rfl⟩,q⟩:=h
 have hu:=dR hr
 have hu1:=fE hr
 obtain ⟨v0,v1,rfl,r0,⟨a,rfl,ha⟩⟩:=xy rs
 have r0:al (but H M) v0 (.tup At):=r0
 refine ⟨_,(aB (bu (iZ (fC (by exact hu)) (cY B (bG G_slots_of hr (ai (pv 0) (ai (pv 1) aw)))) (cY B (bG G_blanks_in hr (ai (pv 0) aw)))))),?_⟩
 have E0:ay (but H M) (L2.start ["guard","slots"] [v0,.ref a]) [some (.tup At),none]:=fV (.dat r0 (.raw .nil)) ["guard","slots"]
 refine eA lv (ae.eq (iL (ff (aa (qk ⟨At,Bs,rfl,hA,rfl⟩ (px (aG E0 rfl) (oU (a:=a) rfl ha oK))) ag)) (ff (aa (bN ⟨At,rfl,hA,rfl⟩ (aa (aG E0 rfl) ag)) ag))) ?_) q
 unfold cp
 rw [LA,LA]
 congr 1
 exact Om.mpr Int.ofNat_inj
end
end a5
namespace FL
open PySem L2
section
variable {G:Hp}{σ:St}{wi:TI}{tt:TT}{te:TE}{K:PySem.W.Frag}
def yr{caps:St->St}(ac:i≠j){ps:List (D×D)}{p:D×D->Bool}{f:D×D->D}(hw:Walk wi G σ (ps.map λq=>.tup [q.1,q.2]))
  (ht:∀t I L q,ab G t->q∈ps->al t I q.1->al t L q.2->br tt t (((caps σ).set i (some I)).set j (some L)) (p q))
  (he:∀t I L q,ab G t->q∈ps->p q=true->al t I q.1->al t L q.2->ae te t (((caps σ).set i (some I)).set j (some L)) (f q)) (hz:ps.length<sizeLine):
  ae (iP wi caps (nK K 2 (j7 (cv i) (j7 (cv j) pc))) tt te) G σ (.lst ((ps.filter p).map f)):=λM H s l Q k=>hw M H s l _ λJ H1 s1 af B D hD=>by
 have lf:D∉M:=(l.same s1).fresh hD
 have aj:ab G (but H1 M):=s.trans<|s1.but M
 have am:(ps.map λq=>FL.D.tup [q.1,q.2]).length=ps.length:=LA _
 refine ⟨λm n τ u=>n=ps.length-m/\m<=ps.length/\(∀v w,(τ.set i<|some v).set j (some w)=((caps σ).set i<|some v).set j (some w))/\ab H1 u/\∃h,u D=some (.lst h)/\aC (but u (D::M)) h (((ps.take m).filter p).map f),
  ⟨ps.length,by simp,Mb _,λ_ _=>rfl,dr hD _,[],aR,by simpa using aC.nil⟩,?_⟩
 rintro m n τ u ⟨rfl,hj,an,N,h,y,O⟩
 have hs:ab (but H1 M) (but u (D::M)):=ir hD N
 have hl:ap (D::M) u:=((l.same s1).same N).cons y
 by_cases C:m<ps.length
 .have hd:ps[m]?=some ps[m]:=Ly C
  have dw:(ps.map λq=>FL.D.tup [q.1,q.2])[m]?=some (.tup [ps[m].1,ps[m].2]):=by rw [LO,hd];rfl
  obtain ⟨go,gy⟩:=af m _ (D::M) u dw hs hl
  refine .inr ⟨go,λT d=>(∀v w,(T.set i<|some v).set j (some w)=((caps σ).set i<|some v).set j (some w))/\ab H1 d/\∃h,d D=some (.lst h)/\aC (but d (D::M)) h (((ps.take<|m+1).filter p).map f),
   λT d q0=>by obtain ⟨a,b,c⟩:=q0;exact ⟨ps.length-(m+1),by omega,rfl,C,a,b,c⟩,λx d hy=>?_⟩
  obtain ⟨z,rx⟩:=gy x d hy
  have hm:ps[m]∈ps:=NW C
  have sG:ab G (but d (D::M)):=aj.trans<|hs.trans<|z.but _
  have U:=hl.same z
  refine oG rx λY E r1 r2=>?_
  show tt ((τ.set i<|some Y).set j<|some E) d _
  rw [an Y E]
  have tk:(ps.take<|m+1).filter p=(ps.take m).filter p++(if p ps[m]=true then [ps[m]] else []):=by
   rw [Mm,hd,MX]
   congr 1
   by_cases A:p ps[m]=true
   .simp [A]
   .simp [A]
  refine ht _ Y E _ sG hm r1 r2 (D::M) d (ab.refl _) U _ λH4 r=>?_
  have g:∀v w,((((caps σ).set i<|some Y).set j<|some E).set i<|some v).set j (some w)=((caps σ).set i<|some v).set j (some w):=λv w=>by
   rw [List.set_comm (some E) (some v)<|MC ac,Qs,Qs]
  by_cases A:p ps[m]=true
  .rw [LJ A]
   refine he _ Y E _ (sG.trans<|r.but _) hm A (r1.mono<|r.but _) (r2.mono<|r.but _) (D::M) H4 (ab.refl _) (U.same r) _ λv H5 s5 r5=>?_
   have ao:H5 D=some (.lst h):=s5 _ _<|r _ _<|z _ _ y
   have as:=O.length
   have a0:(((ps.take m).filter p).map f).length<=m:=by
    rw [LA]
    have:=Ml p<|ps.take m
    rw [Mr] at this
    omega
   refine ⟨h,ao,by omega,g,?_,h++[v],aR,?_⟩
   .intro b o e
    rw [aA<|da e hD]
    exact s5 _ _<|r _ _<|z _ _<|N _ _ e
   .rw [dD Lz,tk,LJ A,Me]
    exact (O.mono<|((z.trans r).trans s5).but _).snoc r5
  .rw [LG A]
   refine ⟨g,N.trans<|z.trans r,h,r _ _<|z _ _ y,?_⟩
   rw [tk,LG A,Mi]
   exact O.mono<|(z.trans r).but _
 .have e:m=ps.length:=by omega
  subst e
  refine .inl ⟨?_,k _ u (s1.trans N)<|mC lf y ?_⟩
  .have:=B (D::M) u hs
   rw [am] at this
   exact this
  .rw [Mh<|LF _] at O
   exact O
def Gs(h:ae a G σ d):ae (bY (λx y H Q=>y=.av/\Q (.bl (!decide (x=.av))) H) a (tC .av)) G σ (.bl (!decide (d=.av))):=
 λM H s l Q k=>h M H s l _ λv b c e=>⟨rfl,by rw [GH e];exact k _ b c (.bl _)⟩
end
mutual
def D.fz:D->Bool
 |.lst _=>false
 |.tup l=>D.jy l
 |_=>true
def D.jy:List D->Bool
 |[]=>true
 |d::r=>D.fz d&&D.jy r
end
mutual
theorem al.rV {H:Hp}{M ls:List Addr}(hl:∀a∈ls,∃vs,H a=some (.lst vs)):∀{v:V} {d:D},d.fz=true->al (but H M) v d->al (but H (ls++M)) v d
 |_,_,_,.av=>.av
 |_,_,_,.bl b=>.bl b
 |_,_,_,.int b=>.int b
 |_,_,_,.str b=>.str b
 |_,_,hn,.tup (a:=c) h r=>by
  refine .tup ?_ (aC.rV hl hn r)
  obtain ⟨h1,h2⟩:=ax h
  rw [bh]
  ·exact h2
  ·intro z
   rcases mem_append.mp z with z|z
   ·obtain ⟨vs,e⟩:=hl c z
    rw [e] at h2;cases h2
   ·exact h1 z
 |_,_,hn,.lst _ _=>by cases hn
theorem aC.rV {H:Hp}{M ls:List Addr}(hl:∀a∈ls,∃vs,H a=some (.lst vs)):∀{vs:List V} {ds:List D},D.jy ds=true->aC (but H M) vs ds->aC (but H (ls++M)) vs ds
 |_,_,_,.nil=>.nil
 |_,_,hn,.cons h r=>by
  have hn':=Bool.and_eq_true_iff.mp hn
  exact .cons (al.rV hl hn'.1 h) (aC.rV hl hn'.2 r)
end
end FL
namespace FL
open PySem L2
def mF (o:Nat×aO):D:=.tup [.int (o.1:Nat),.lst (pairD o.2)]
def e9 (of:List dq)(key:List D):List dq:=of.filter λo=>decide (o.1=key)
def iq (of:List dq)(key:List D):List D:=(e9 of key).map λo=>mF o.2
def bZ (key:List D):List aK:=key.map D.key
def bV (key:List D):Prop:=∀x∈key,x.sc=true
theorem pe:∀{a b:ZZ},bV a->bV b->bZ a=bZ b->a=b
 |[],[],_,_,_=>rfl
 |[],_::_,_,_,h=>by cases h
 |_::_,[],_,_,h=>by cases h
 |x::r,y::t,d,e,h=>by
  obtain ⟨f,g⟩:=NJ h
  rw [(wZ (d x Lz)<|e y Lz).mp f,pe (λz c=>d z<|Lv _ c) (λz c=>e z<|Lv _ c) g]
theorem lW:∀{b:List V} {a:ZZ},bV a->aC H b a->b=(bZ a).map kV
 |_,[],_,.nil=>rfl
 |_,d::r,h,.cons c t=>by
  rw [(fP (h d Lz) c).2,lW (λx e=>h x<|Lv _ e) t]
  rfl
def nP (G:Hp)(p:Addr)(of:List dq):Prop:=∃kvs:List (List aK×V),G p=some (.dT kvs)/\(kvs=[]↔of=[])/\∀key,bV key->(bm kvs (bZ key)=none->e9 of key=[])/\∀v,bm kvs (bZ key)=some v->al G v (.lst (iq of key))
theorem nP.mono(e:ab G c)(h:nP G p d):nP c p d:=by
 obtain ⟨b,i,j,f⟩:=h
 exact ⟨b,e _ _ i,j,λa g=>⟨(f a g).1,λv k=>((f a g).2 v k).mono e⟩⟩
def kb {H:Hp}{M M':ZX}(h:∀a,a∈M↔a∈M'):but H M=but H M':=by
 funext b
 unfold FL.but
 by_cases z:b∈M
 .rw [LJ z,LJ ((h b).mp z)]
 .rw [LG z,LG λq=>z ((h b).mpr q)]
structure eD (H:Hp)(M:List Addr)(p:Addr)(ls:List Addr)(of:List dq):Prop where
 kvs:∃kvs:List (List aK×V),H p=some (.dT kvs)/\kvs.length<=of.length/\(kvs=[]↔of=[])/\
  (∀key,bV key->(bm kvs (bZ key)=none->e9 of key=[])/\∀v,bm kvs (bZ key)=some v->∃l vs,v=.ref l/\l∈ls/\H l=some (.lst vs)/\aC (but H (ls++p::M)) vs (iq of key))/\
  ∀key key' l,bV key->bV key'->bm kvs (bZ key)=some (.ref l)->bm kvs (bZ key')=some (.ref l)->key=key'
 lists:∀l∈ls,∃vs,H l=some (.lst vs)
 apart:p∉ls
def eD.Eh(h:eD H M p b d)(e:∀a,a∈b++p::M↔a∈b++p::c):eD H c p b d:=by
 obtain ⟨k,l,a⟩:=h
 rw [kb e] at k
 exact ⟨k,l,a⟩
def eD.rep(h:eD H M p d e)(i:p∉M)(j:∀l∈d,l∉M):nP (but H M) p e:=by
 obtain ⟨c,k,_,m,f,_⟩:=h.kvs
 refine ⟨c,by rw [bh i];exact k,m,λa g=>⟨(f a g).1,λv n=>?_⟩⟩
 obtain ⟨l,t,rfl,o,q,r⟩:=(f a g).2 v n
 exact .lst (by rw [bh<|j l o];exact q)<|r.mono<|dU λb s=>LH _<|Lv _ s
def BF (b:List dq)(a:ZZ)(o:Nat×aO):e9 (b++[(a,o)]) a=e9 b a++[(a,o)]:=by
 unfold e9;rw [MX];simp
def t5(c:List dq)(o:Nat×aO)(h:¬b=a):e9 (c++[(b,o)]) a=e9 c a:=by
 unfold e9;rw [MX];simp [h]
def eD.same(h:eD H M p f g)(e:ab H d):eD d M p f g:=by
 obtain ⟨b,k,m,n,i,o⟩:=h.kvs
 refine ⟨⟨b,e _ _ k,m,n,λa j=>⟨(i a j).1,λv q=>?_⟩,o⟩,λl r=>let ⟨c,z⟩:=h.lists l r;⟨c,e _ _ z⟩,h.apart⟩
 obtain ⟨l,c,s,t,u,w⟩:=(i a j).2 v q
 exact ⟨l,c,s,t,e _ _ u,w.mono<|e.but _⟩
section
variable {σ:St}{M:List Addr}{H:Hp}{ty te:TE}{E:Ends}{K:PySem.W.Frag}
def C9{to:TE}(l:ap (g++p::M) H)(e:∀Q:VK,Q (.ref p) H->to σ H Q)(s:eD H M p g O)(hk:bV key)(hz:O.length<1000)
  (h:ae ty (but H (g++p::M)) σ (.tup key)) (h2:ae te (but H (g++p::M)) σ (mF o))
  (k:∀B H',(∀a∈B,a∈g\/H a=none)->(∀a∈g,a∈B)->(∀b u,b≠p->b∉g->H b=some u->H' b=some u)->ap (B++p::M) H'->eD H' M p B (O++[(key,o)])->E.nx σ H'):
  ln (ny K "list" nI (u6 to ty (jF bA)) (bo te bA)) E σ H:=by
 obtain ⟨d,g1,gn,g2,g3,g4⟩:=s.kvs
 refine e _ ⟨p,rfl,.inr ⟨d,.inl g1⟩,h _ H (ab.refl _) l _ λkv H1 x rk=>⟨Mb _,λf C=>?_⟩⟩
 have O1:=s.same x
 obtain ⟨b,bs,rfl,hb,bd⟩:=rk.fe
 have as:=(ax hb).2
 have bi:=lW hk bd
 rw [bi] at as
 have m:=dr C (.lst [])
 have ac:=m _ _ as
 have I:(upd H1 f (.lst [])) p=some (.dT d):=m _ _<|x _ _ g1
 have n:p≠f:=λz=>by have:=x _ _ g1;rw [z,C] at this;cases this
 have a0:f∉g:=λz=>by
  obtain ⟨vs,q⟩:=s.lists f z
  have:=x _ _ q
  rw [C] at this;cases this
 have af:H f=none:=by
  cases q:H f with
  |none=>rfl
  |some u=>have:=x _ _ q;rw [C] at this;cases this
 have b0:∀v G,al G v (mF o)->al G v (mF o):=λ_ _ z=>z
 cases J:bm d (bZ key) with
 |some v=>
  obtain ⟨y,vs,rfl,m1,m2,m3⟩:=(g3 key hk).2 v J
  have a3:(upd H1 f (.lst [])) y=some (.lst vs):=m _ _<|x _ _ m2
  refine ⟨.ref y,_,.inl ⟨by rw [<-J];exact cR.t I ac,rfl,_,I⟩,(show gX K "list" (.ref y) _ from .inl ⟨rfl,vs,aP.of a3⟩),?_⟩
  have S1:ab H (upd H1 f (.lst [])):=x.trans m
  refine h2 _ _ (S1.but _) (l.same S1) _ λv T U r5=>⟨y,vs,v,rfl,rfl,U _ _ a3,?_,?_⟩
  .rw [m3.length]
   unfold iq
   rw [LA]
   have:=Ml (λo=>decide<|o.1=key) O
   exact cy (by unfold e9;omega)
  .have S5:ab H T:=S1.trans U
   have bk:y∈g++p::M:=LL _ m1
   have eb:but (upd T y (.lst<|vs++[v])) (g++p::M)=but T (g++p::M):=dD bk
   have a4:y≠p:=λz=>s.apart<|z▸m1
   refine k g _ (λa r=>.inl r) (λa r=>r) (λb u hb bc q=>?_) (l.same S5).upd ⟨⟨d,?_,?_,?_,λc i=>⟨λL=>?_,λv' j=>?_⟩,g4⟩,λa r=>?_,s.apart⟩
   .rw [aA λz:b=y=>bc (by rw [z];exact m1)];exact S5 _ _ q
   .rw [aA<|MC a4];exact S5 _ _ g1
   .rw [LR];omega
   .constructor
    .intro z;rw [z] at J;cases J
    .intro z;exact absurd z Z8
   .have ne:¬key=c:=λz=>by rw [<-z,J] at L;cases L
    rw [t5 O o ne];exact (g3 c i).1 L
   .obtain ⟨N,Y,rfl,A,q2,q3⟩:=(g3 c i).2 v' j
    by_cases hl:N=y
    .subst hl
     have:key=c:=g4 key c N hk i J j
     subst this
     refine ⟨N,vs++[v],rfl,A,aR,?_⟩
     rw [eb]
     unfold iq
     rw [BF,Me]
     exact (m3.mono<|S5.but _).snoc r5
    .have ne:¬key=c:=λz=>by subst z;rw [J] at j;cases j;exact hl rfl
     refine ⟨N,Y,rfl,A,by rw [aA hl];exact S5 _ _ q2,?_⟩
     rw [eb]
     unfold iq
     rw [t5 O o ne]
     exact q3.mono<|S5.but _
   .obtain ⟨Y,q⟩:=s.lists a r
    by_cases hl:a=y
    .exact ⟨_,by rw [hl];exact aR⟩
    .exact ⟨Y,by rw [aA hl];exact S5 _ _ q⟩
 |none=>
  have aj:=(g3 key hk).1 J
  have am:d.length<sizeLine:=cy Z4
  refine ⟨.ref f,_,.inr ⟨by rw [<-J];exact cR.t I ac,rfl,gt.t I ac am⟩,?_⟩
  have an:(upd (upd H1 f (.lst [])) p (.dT<|cg d (bZ key) (.ref f))) f=some (.lst []):=by rw [aA<|MC n];exact aR
  refine ⟨(show gX K "list" (.ref f) _ from .inl ⟨rfl,[],aP.of an⟩),?_⟩
  have pM:p∈g++p::M:=LH _ Lz
  have SB:ab (but H (g++p::M)) (but (upd (upd H1 f (.lst [])) p (.dT<|cg d (bZ key) (.ref f))) (f::(g++p::M))):=λb u q=>by
   obtain ⟨A,q2⟩:=ax q
   have ao:b≠f:=λz=>by rw [z,af] at q2;cases q2
   have bl:b≠p:=λz=>A<|z▸pM
   rw [bh (by simp only [LK,Qx];exact ⟨ao,A⟩),aA bl]
   exact m _ _<|x _ _ q2
  have l4:ap (f::(g++p::M)) (upd (upd H1 f (.lst [])) p (.dT<|cg d (bZ key) (.ref f))):=((l.same<|x.trans m).upd).cons an
  refine h2 _ _ SB l4 _ λv T U r5=>⟨f,[],v,rfl,rfl,U _ _ an,(show 0<sizeLine by decide),?_⟩
  have KH:∀b u,b≠p->H b=some u->(upd T f (.lst<|[]++[v])) b=some u:=λb u hb q=>by
   have ao:b≠f:=λz=>by rw [z,af] at q;cases q
   rw [aA ao]
   refine U _ _ ?_
   rw [aA hb]
   exact m _ _<|x _ _ q
  have eb:but (upd T f (.lst<|[]++[v])) (f::(g++p::M))=but T (f::(g++p::M)):=dD Lz
  have bt:ab (but H (g++p::M)) (but (upd T f (.lst<|[]++[v])) (f::(g++p::M))):=by rw [eb];exact SB.trans<|U.but _
  have eK:∀c,bV c->bm (cg d (bZ key) (.ref f)) (bZ c)=if c=key then some (.ref f) else bm d (bZ c):=λc i=>by
   rw [uX]
   by_cases z:c=key
   .rw [LJ z,LJ (by rw [z])]
   .rw [LG z,LG λw=>z<|pe i hk w]
  refine k (f::g) _ (λa r=>?_) (λa r=>Lv _ r) (λb u hb bc q=>KH b u hb q) (l4.same U).upd ⟨⟨cg d (bZ key) (.ref f),?_,?_,?_,λc i=>⟨λL=>?_,λv' j=>?_⟩,λk1 k2 N a1 a2 b1 b2=>?_⟩,λa r=>?_,?_⟩
  .rcases LK.mp r with z|z
   .exact .inr (by rw [z];exact af)
   .exact .inl z
  .rw [aA n]
   refine U _ _ ?_
   exact aR
  .have:=nk d (bZ key) (.ref f)
   rw [LR,MQ]
   omega
  .constructor
   .intro z
    have:=eK key hk
    rw [z,LJ rfl] at this
    cases this
   .intro z;exact absurd z Z8
  .rw [eK c i] at L
   by_cases z:c=key
   .rw [LJ z] at L;cases L
   .rw [LG z] at L
    rw [t5 O o λw=>z w.symm]
    exact (g3 c i).1 L
  .rw [eK c i] at j
   by_cases z:c=key
   .rw [LJ z] at j
    cases j
    refine ⟨f,_,rfl,Lz,aR,?_⟩
    rw [OI,eb,z]
    unfold iq
    rw [BF,aj]
    exact .cons r5 .nil
   .rw [LG z] at j
    obtain ⟨N,Y,rfl,A,q2,q3⟩:=(g3 c i).2 v' j
    refine ⟨N,Y,rfl,Lv _ A,KH _ _ (λw=>s.apart<|w▸A) q2,?_⟩
    unfold iq
    rw [t5 O o λw=>z w.symm]
    exact q3.mono bt
  .rw [eK k1 a1] at b1
   rw [eK k2 a2] at b2
   have no:∀kk,bV kk->¬bm d (bZ kk)=some (.ref f):=λkk bx z=>by
    obtain ⟨N,Y,q0,A,_⟩:=(g3 kk bx).2 _ z
    cases q0
    exact a0 A
   by_cases z1:k1=key
   .by_cases z2:k2=key
    .rw [z1,z2]
    .rw [LJ z1] at b1
     rw [LG z2] at b2
     cases b1
     exact absurd b2<|no k2 a2
   .rw [LG z1] at b1
    by_cases z2:k2=key
    .rw [LJ z2] at b2
     cases b2
     exact absurd b1<|no k1 a1
    .rw [LG z2] at b2
     exact g4 k1 k2 N a1 a2 b1 b2
  .rcases LK.mp r with z|z
   .exact ⟨_,by rw [z];exact aR⟩
   .obtain ⟨Y,q⟩:=s.lists a z
    exact ⟨Y,KH _ _ (λw=>s.apart<|w▸z) q⟩
  .intro z
   rcases LK.mp z with z|z
   .exact n z
   .exact s.apart z
end
end FL
namespace L2
open PySem PySem.Spec PyProof.Rows
def Ic (x d:Value):argsOk "max" ⟨[x],[("default",d)]⟩:=by unfold argsOk;kernel_rfl
def pN:Option Value->Array Value
 |none=> #[]
 |some v=> #[v,v]
section
variable {prog:Program}{w:World}{A:Around}{R:Result->Shared->Prop}{I:Addr}{fp wr:List Addr}{n:Nat}{P:Nat->Value->Prop}{St:Nat->Heap->Prop}
def IQ (W:Walks prog w A.in1 I fp wr n P St)(u:Nat->Nat->Bool)(J:CmpOf prog w A.in1 .Gt P u)(S:Addr)(y:S∉fp)(d:Value):
  ∀(k j:Nat) (s:Shared) (B:Option Value) (c:Nat),n-j=k->j<=n->St j s.heap->(B=none->j=0)->(∀l,B=some l->0<j/\P (argBest u (j-1)) l)->
  s.heap.get? S=some {cls:=.type "list",dict:=none,data:=.seq (pN B) c,slots:= #[]}->
  (∀v C E,(n=0->v=d)->(0<n->P (argBest u (n-1)) v)->(∀b o,b∉wr->b≠S->s.heap.get? b=some o->C.get? b=some o)->R (.ok (.ret v)) {s with heap:=C,toks:=E})->
  codeAny (model prog w) A (.builtin "max.loop" ⟨[.ref I,.none,.ref S],[("default",d)]⟩) R s:=by
 have G:S∉wr:=λh=>y<|W.sub _ h
 have Y:(toString "max"++toString ".loop":String)="max.loop":=by decide
 intro k
 induction k with
 |zero=>
  intro j s B c hk hj p h0 h1 x H
  have ac:j=n:=by omega
  subst ac
  refine Oz F.entry_max_loop ?_
  rw [Oe NS _]
  cases B with
  |none=>
   have z:=h0 rfl
   refine Lw<|MJ (items:=pN none) (n:=c) (o:=_) x rfl ?_
   refine Lw<|Of<|W.done s _ _ p λC E a=>?_
   refine Lw<|OD<|LN ?_
   exact H d C E (λ_=>rfl) (λq=>by omega) λb o f _ e=>a b o f e
  |some l=>
   obtain ⟨z1,T⟩:=h1 l rfl
   refine Lw<|MJ (items:=pN<|some l) (n:=c) (o:=_) x rfl ?_
   refine Lw<|Of<|W.done s _ _ p λC E a=>?_
   have i:=a S _ G x
   refine Lw<|O6 (hz:=show 2<=sizeLine from by decide) i rfl<|Lw<|Od<|LN ?_
   exact H l _ E (λq=>by omega) (λ_=>T) λb o f g e=>(M7 _ _<|MC g).trans<|a b o f e
 |succ k ih=>
  intro j s B c hk hj p h0 h1 x H
  have r:j<n:=by omega
  refine Oz F.entry_max_loop ?_
  rw [Oe NS _]
  cases B with
  |none=>
   have z:=h0 rfl
   subst z
   refine Lw<|MJ (items:=pN none) (n:=c) (o:=_) x rfl ?_
   refine Lw<|Of<|W.item 0 s _ _ r p λv C E U m a=>?_
   have i:=a S _ G x
   refine Lw<|LN<|Lw<|O6 i rfl ?_
   rw [Y]
   refine LN ⟨Ou NS _,ih 1 _ (some v) _ Z4 r (W.frame _ _ _ m λb f o e=>?_) (λq=>nomatch q) (λl q=>by cases q;exact ⟨by decide,U⟩) (Oa _ i rfl) λL M t N O Q=>?_⟩
   .exact (M7 _ _ λq:S=b=>y (by rw [q];exact f)).trans e
   .exact H L M t N O λb o f g e=>Q b o f g<|(M7 _ _<|MC g).trans<|a b o f e
  |some l=>
   obtain ⟨z1,T⟩:=h1 l rfl
   refine Lw<|MJ (items:=pN<|some l) (n:=c) (o:=_) x rfl ?_
   refine Lw<|Of<|W.item j s _ _ r p λv C E U m a=>?_
   have i:=a S _ G x
   have ej:j=(j-1)+1:=by omega
   have nx:argBest u j=if u j (argBest u<|j-1) then j else argBest u (j-1):=by
    conv=>lhs;rw [ej]
    rw [argBest,<-ej]
   refine Lw<|LN<|Lw<|Of<|Nd<|Lw<|J j (argBest u<|j-1) v l _ _ _ U T ?_
   refine Lw<|Nd<|MT ?_
   refine Lw<|Od<|LN ?_
   cases f:u j (argBest u<|j-1) with
   |true=>
    rw [f,LJ rfl] at nx
    refine Lw<|O6 (hz:=show 2<=sizeLine from by decide) i rfl<|Lw<|Od ?_
    rw [Y]
    refine LN ⟨Ou NS _,ih (j+1) _ (some v) _ Z4 r (W.frame _ _ _ m λb f o e=>?_) (λq=>nomatch q) (λl q=>by cases q;exact ⟨by omega,by rw [OF,nx];exact U⟩) (Oa _ i rfl) λL M t N O Q=>?_⟩
    .exact (M7 _ _ λq:S=b=>y (by rw [q];exact f)).trans e
    .exact H L M t N O λb o f g e=>Q b o f g<|(M7 _ _<|MC g).trans<|a b o f e
   |false=>
    rw [f,LG LI] at nx
    refine Lw<|Od ?_
    rw [Y]
    refine LN ⟨Ou NS _,ih (j+1) _ (some l) c Z4 r m (λq=>nomatch q) (λl q=>by cases q;exact ⟨by omega,by rw [OF,nx];exact T⟩) i λL M t N O Q=>?_⟩
    exact H L M t N O λb o f g e=>Q b o f g<|a b o f e
end
section
variable {prog:Program}{w:World}{A:Around}{E:Value->Shared->Prop}{s:Shared}
def zd{Q:ZT}
  (h:wpAny (model prog w) A.in1 (pyIter x) (λr a=>∃I f j n P St g,r=.ref I/\Walks prog w A.in1 I f j n P St/\St 0 a.heap/\(∀b∈f,b<a.heap.objs.size)/\CmpOf prog w A.in1 .Gt P g/\
   ∀v i k,(n=0->v=d)->(0<n->P (argBest g (n-1)) v)->(∀b o,b∉j->a.heap.get? b=some o->i.get? b=some o)->Q v {a with heap:=i,toks:=k}) E s):
  wpAny (model prog w) A (call (.builtin "max") [x] [("default",d)]) Q E s:=by
 have t:(toString "max"++toString ".loop":String)="max.loop":=by decide
 refine kmk_tree F.kind_max F.plain_max F.entry_max (Ic x d) ?_
 refine Lw<|Qj (show Builtin.Builtins.bindParams "max" ["key","default"] 0 ⟨[],[("default",d)]⟩=pure [none,some d] from rfl) ?_
 refine Lw<|LN<|Lw<|M1 h (λr a u=>?_) λ_ _ e=>e
 obtain ⟨I,f,j,n,P,St,g,rfl,W,l,m,c,y⟩:=u
 refine Lw<|M6 ?_
 have p:a.heap.objs.size∉f:=λz=>MV _<|m _ z
 rw [t]
 refine LN ⟨Ou NS _,IQ W g c a.heap.objs.size p d n 0 _ none 0 (Qt n) (Mb n) (W.frame _ _ _ l λb _ o e=>LC _ e) (λ_=>rfl) (λJ q=>nomatch q) (L0 _ rfl) λv i k B C G=>?_⟩
 exact y v i k B C λb o H e=>G b o H (Mf<|L1 e)<|LC _ e
end
def fh (is:List Int)(n:Int):Int:=match is with
 |[]=>n
 |i::r=>r.foldl max i
theorem BL (f:Nat->Int):∀k,f (argBest (λi j=>decide (f i>f j)) k)=((List.range k).map λi=>f (i+1)).foldl max (f 0)
 |0=>rfl
 |k+1=>by
  have a:=BL f k
  rw [List.range_succ,Me,MS,<-a]
  show f (if decide (f (k+1)>f (argBest _ k))=true then k+1 else argBest _ k)=max (f<|argBest _ k) (f<|k+1)
  by_cases h:f (k+1)>f (argBest (λi j=>decide<|f i>f j) k)
  .rw [LJ<|LV h];omega
  .rw [LG (by simpa using h)];omega
def FP{is:List Int}(h:0<is.length):fh is n=is.getD (argBest (λi j=>decide (is.getD i 0>is.getD j 0)) (is.length-1)) 0:=by
 have:=BL (λi=>is.getD i 0)<|is.length-1
 rw [this]
 cases is with
 |nil=>simp at h
 |cons i r=>
  show r.foldl max i=_
  have e:(List.range<|(i::r).length-1).map (λk=>(i::r).getD (k+1) 0)=r:=by
   refine List.ext_getElem Z8 λk b a=>?_
   simp [List.getD,a]
  rw [e]
  rfl
section
variable {X:Cx}
def Bi (K:PySem.W.Frag)(x y:V)(H:Hp)(Q:VK):Prop:=∃a is n,x=.ref a/\y=.int n/\(aP K H a (is.map V.int)\/bq K H a (is.map V.int))/\Q (.int (fh is n)) H
def wG (K:PySem.W.Frag)(te td:TE):TE:=λσ H Q=>bo te bA σ H λvs H1=>bo td bA σ H1 λzs H2=>∃x y,vs=[x]/\zs=[y]/\Bi K x y H2 Q
def Ie(T:X.calm=true)(I:Inv X l N H s)(U:RelV x u)(Y:RelV y v)(h:Bi X.K x y H Q):wpAny (model X.prog X.w) X.A (call (.builtin "max") [u] [("default",v)]) (EP X l N Q) X.xe s:=by
 obtain ⟨a,is,n,rfl,rfl,m,q⟩:=h
 cases U
 obtain ⟨r,rfl⟩:=Y
 have t:∀{c:List Value} (d:a9 (is.map V.int) c) {P:Nat->Value->Prop},(∀i w,P i w↔c.toArray[i]?=some w)->CmpOf X.prog X.w X.A.in1 .Gt P (λi j=>decide<|is.getD i 0>is.getD j 0):=λ{c} d {P} hP=>CmpOf.ints_gt (λi=>is.getD i 0) λi w f=>by
  have f:=(hP i w).mp f
  have f:c[i]?=some w:=by simpa using f
  have hi:i<c.length:=(Lx.mp f).1
  have B:=d.length
  rw [LA] at B
  have k:(is.map V.int)[i]?=some (.int<|is.getD i 0):=by
   rw [LO,Ly Z4,List.getD,Ly Z4]
   rfl
  obtain ⟨w',C,E⟩:=d.get k
  rw [f] at C
  cases C
  exact E
 have done:∀{c:List Value} (d:a9 (is.map V.int) c) {w:Value},(c.toArray.size=0->w=.int n r)->(0<c.toArray.size->c.toArray[argBest (λi j=>decide<|is.getD i 0>is.getD j 0)<|c.toArray.size-1]?=some w)->RelV (.int<|fh is n) w:=λ{c} d {w} h0 h1=>by
  have B:=d.length
  rw [LA] at B
  by_cases z:is.length=0
  .have:is=[]:=MU z
   subst this
   rw [h0 (by rw [LU];exact B.symm)]
   exact ⟨r,rfl⟩
  .have f:=h1 (by simp;omega)
   have f:c[argBest (λi j=>decide<|is.getD i 0>is.getD j 0)<|is.length-1]?=some w:=by
    rw [LU,<-B] at f
    simpa using f
   have hi:=(Lx.mp f).1
   have k:(is.map V.int)[argBest (λi j=>decide<|is.getD i 0>is.getD j 0)<|is.length-1]?=some (.int<|fh is n):=by
    rw [FP Z4,LO,Ly Z4,List.getD,Ly Z4]
    rfl
   obtain ⟨w',C,E⟩:=d.get k
   rw [f] at C
   cases C
   exact E
 have O:X.A.in1.handled=none:=I.ok.hd T
 rcases m with m|m
 .obtain ⟨c,d,p,hz⟩:=I.list m
  have g:a<s.heap.objs.size:=by obtain ⟨_,e,_⟩:=p.isList;exact L1 e
  refine zd<|Nj p.isList ?_
  refine ⟨s.heap.objs.size,_,_,c.toArray.size,_,_,_,rfl,Walks.list (A:=X.A.in1) O _ a (Mf g) c.toArray,⟨⟨_,L0 _ rfl,rfl,rfl⟩,p.isList.push _⟩,λb k=>?_,t d λi w=>Iff.rfl,λw h' G J L M=>?_⟩
  .show b<(s.heap.push _).objs.size
   rw [MW]
   simp only [LK,Mj,ME] at k
   rcases k with rfl|rfl
   .exact Nu _
   .exact ND g
  .refine ⟨.int<|fh is n,H,I.kept (t':=G) λb o e=>M b o (λz=>?_)<|LC _ e,done d J L,q⟩
   have:b=s.heap.objs.size:=by simpa using z
   exact absurd (L1 e) (by rw [this];exact MV _)
 .obtain ⟨c,d,p,hz⟩:=I.tuple m
  have g:a<s.heap.objs.size:=by obtain ⟨_,e,_⟩:=p;exact L1 e
  refine zd<|OA p ?_
  refine ⟨s.heap.objs.size,_,_,c.toArray.size,_,_,_,rfl,Walks.tuple (A:=X.A.in1) O _ a (Mf g) c.toArray,⟨⟨_,L0 _ rfl,rfl,rfl⟩,p.push _⟩,λb k=>?_,t d λi w=>Iff.rfl,λw h' G J L M=>?_⟩
  .show b<(s.heap.push _).objs.size
   rw [MW]
   simp only [LK,Mj,ME] at k
   rcases k with rfl|rfl
   .exact Nu _
   .exact ND g
  .refine ⟨.int<|fh is n,H,I.kept (t':=G) λb o e=>M b o (λz=>?_)<|LC _ e,done d J L,q⟩
   have:b=s.heap.objs.size:=by simpa using z
   exact absurd (L1 e) (by rw [this];exact MV _)
def yb(n:X.mg "max"=none)(o:PE X e g)(q:PE X d i)(r:X.calm=true:=by rfl)(t:Gl X "max":=by rfl)(j:starEach [e] X.env=(false,eval e X.env)::starEach [] X.env:=by rfl)(f:starEach [] X.env=[]:=by rfl):
  PE X (.Call (.Name "max" p) [e] [⟨some "default",d,a⟩] c) (wG X.K g i):=by
 intro b s m H Q I h
 refine Nv<|jX I t n Qg ?_ Z1 Z1
 have k:PA X [e] (bo g bA):=ai o aw j
 have l:PK X [⟨some "default",d,a⟩] (bo i bA):=AI q Ag
 refine PyProof.Rows.callWith_kw (aS (k c b s m H _ I h) λU w ⟨Y,z,A,B,C⟩=>?_) (by rw [j,f];rfl) (by rw [j,f];rfl)
 refine aS (l c b w m z _ A C) λws s2 E=>?_
 obtain ⟨zs,H2,G,J,x,y,L,M,N⟩:=E
 subst L M
 obtain ⟨u,rfl,O⟩:=PV B
 obtain ⟨v,rfl,T⟩:=PV J
 exact Ie r G O T N
end
end L2
namespace FL
open PySem L2
section
variable {G:Hp}{σ:St}{ta tb:TE}{K:PySem.W.Frag}{is:List Int}{n:Int}
theorem uZ:∀{H:Hp} {a:List V} {is:List Int},aC H a (is.map D.int)->a=is.map V.int
 |H,_,[],.nil=>rfl
 |H,_,i::r,.cons q t=>by rw [q.eC,uZ t];rfl
def D8 (d:ae ta G σ (.lst (is.map D.int)))(f:ae tb G σ (.int n)):ae (wG K ta tb) G σ (.int (fh is n)):=
 λM H s l Q k=>d M H s l _ λv g b h=>f M g (s.trans<|b.but M) (l.same b) _ λy i c j=>by
  obtain ⟨a,p,rfl,m,o⟩:=h.d7
  have e:=uZ o
  subst e
  exact ⟨.ref a,y,rfl,rfl,a,is,n,rfl,j.eC,.inl<|aP.of<|c _ _ (ax m).2,k _ i (b.trans c) (.int _)⟩
def Df (d:ae ta G σ (.tup (is.map D.int)))(f:ae tb G σ (.int n)):ae (wG K ta tb) G σ (.int (fh is n)):=
 λM H s l Q k=>d M H s l _ λv g b h=>f M g (s.trans<|b.but M) (l.same b) _ λy i c j=>by
  obtain ⟨a,p,rfl,m,o⟩:=h.fe
  have e:=uZ o
  subst e
  exact ⟨.ref a,y,rfl,rfl,a,is,n,rfl,j.eC,.inr<|bq.of<|c _ _ (ax m).2,k _ i (b.trans c) (.int _)⟩
end
end FL
namespace L2
open PySem PySem.Spec PyProof.Rows
open AutoSeq1 (wpAny_loadPart')
abbrev na (it:Addr)(n:Int):Obj:={cls:=.type "enumerate",data:=.fields #[.none,.bool false,.ref it,rawInt n,.none,.none]}
abbrev kP (l:Addr):Obj:={cls:=.type "list_iterator",data:=.fields #[.ref l,.int 0 0]}
set_option maxHeartbeats 2000000 in
def Eg (l:Addr)(a:Array Value)(k:Nat)(e:Option Addr)(m:Array (Option Value))(n:Int)(t:Tok)(q:Builtin.SmallTypes.fitsIndex n=true):
  Meets (Builtin.«enumerate.__new__» ⟨[.type "enumerate",.ref l],[("start",.int n t)]⟩) (λ_ R s=>s.heap.get? l=some {cls:=.type "list",dict:=e,data:=.seq a k,slots:=m}/\
   R (.ok (.ret (.ref (s.heap.push (kP l)).objs.size))) {s with heap:=(s.heap.push (kP l)).push (na s.heap.objs.size n)}):=
 .of_wp λi w A R s h=>by
  obtain ⟨o,g,d,p,os⟩:=s
  obtain ⟨b,h⟩:=h
  have j:=sub_enumerate
  have f:Heap.IsList (Shared.heap ⟨o,g,d,p,os⟩) l a:=⟨_,b,rfl,k,rfl⟩
  wp_walk using wpAny_loadPart' b
  refine wpAny_stack_any λst=>LN ?_
  split
  .rename_i c _ _ _ _ _
   cases (c==Value.type "enumerate")
   .wp_walk using wpAny_loadPart' b,Nj f
    exact ⟨_,rfl,h⟩
   .wp_walk using wpAny_loadPart' b,Nj f
    exact ⟨_,rfl,h⟩
  .wp_walk using wpAny_loadPart' b,Nj f
   exact ⟨_,rfl,h⟩
def Ki (a b:Value):checkTypeCall "enumerate" ⟨[a],[("start",b)]⟩=pure ():=by kernel_rfl
def KG (a b:Value):checkBuiltinCall "enumerate.__new__" ⟨[.type "enumerate",a],[("start",b)]⟩=pure ():=by kernel_rfl
def KW (c a b:Value):argsOk "object.__init__" ⟨[c,a],[("start",b)]⟩:=by unfold argsOk;kernel_rfl
section
variable {prog:Program}{w:World}{A:Around}{E:Value->Shared->Prop}{s:Shared}
def La:Meets (Builtin.«object.__init__» ⟨[c,a],[("start",b)]⟩) (λ_ R s=>s.TypeIs c "enumerate"/\R (.ok (.ret .none)) s):=by
 refine Meets.of_wp λd w A R s e=>?_
 obtain ⟨h,f⟩:=e
 have i:=Pw.init.lookup
 have j:=Pw.made
 have g:(some "enumerate.__new__" !=some "object.__new__")=true:=by decide
 repeat (any_goals (first|(assumption)|wp_step))
 exact ⟨_,rfl,f⟩
def Em{Q:ZT}(L:s.heap.IsList l a)(M:Builtin.SmallTypes.fitsIndex n=true)
  (h:∀i,IsEnum i (s.heap.objs.size+1) s.heap.objs.size n .none->i.IsListIter s.heap.objs.size l 0->i.objs.size=s.heap.objs.size+2->(∀b o,s.heap.get? b=some o->i.get? b=some o)->Q (.ref (s.heap.objs.size+1)) {s with heap:=i}):
  wpAny (model prog w) A (call (.type "enumerate") [.ref l] [("start",.int n t)]) Q E s:=by
 obtain ⟨⟨c,m,dt,N⟩,O,y,k,z⟩:=L
 simp only at y z
 subst y z
 have d:=Pw
 obtain ⟨c0,tl,B⟩:=d.mro
 have p:=d.made
 have C:=d.sub
 have T:=Ki (.ref l) (.int n t)
 refine wpAny_call<|codeAny_of_tree ?_
 show wpAny _ _ (callAny (.type "enumerate") _) _ _ _
 refine LN ⟨Code.quiet_builtin _ Z9,Oz F.entry_type_call ?_⟩
 rw [Around.under_plain (weight_type_call_type "enumerate" [.ref l] [("start",.int n t)])<|units_type_call_type "enumerate" [.ref l] [("start",.int n t)]]
 have h1:=d.notType
 have h2:=d.canCreate
 repeat (any_goals (first|(assumption)|wp_step))
 have g:=Eg l a k m N n t M
 have q:(s.heap.push<|kP l).objs.size=s.heap.objs.size+1:=MW ..
 have G:IsEnum ((s.heap.push<|kP l).push<|na s.heap.objs.size n) (s.heap.objs.size+1) s.heap.objs.size n .none:=by
  have:=L0 (s.heap.push<|kP l) (o:=na s.heap.objs.size n) rfl
  rw [q] at this
  exact this
 refine OK (codeAny_call_builtin d.plain F.entry_enumerate_new<|Qj (KG _ _)<|g prog w A.in1 (wants (λj H=>j=.ref (s.heap.objs.size+1)/\H={s with heap:=(s.heap.push<|kP l).push (na s.heap.objs.size n)}) E) s ⟨O,⟨by rw [q],rfl⟩⟩) λr H u=>?_
 cases r with
 |error e=>exact u
 |ok U=>
  cases U with
  |ret j=>
   obtain ⟨rfl,rfl⟩:=u
   have I:({s with heap:=(s.heap.push<|kP l).push (na s.heap.objs.size n)}:Shared).TypeIs (.ref<|s.heap.objs.size+1) "enumerate":=⟨_,G,rfl⟩
   have Y:=d.init.lookup
   have ac:=d.init.bind (.ref<|s.heap.objs.size+1)
   repeat (any_goals (first|(assumption)|wp_step))
   refine OK (codeAny_call_builtin d.init.plain F.entry_object_init<|d.init.check _ _ _ _ _ _ _ _ I (KW _ _ _)<|La prog w A.in1 (wants (λr J=>r=.none/\J={s with heap:=(s.heap.push<|kP l).push (na s.heap.objs.size n)}) E) _ ⟨I,rfl,rfl⟩) λr2 J f=>?_
   cases r2 with
   |error e=>exact f
   |ok v=>
    cases v with
    |ret r=>
     obtain ⟨rfl,rfl⟩:=f
     repeat (any_goals (first|(assumption)|wp_step))
     exact h _ G ⟨_,LC _<|L0 _ rfl,rfl,rfl⟩ (by rw [MW,q]) λb o x=>LC _<|LC _ x
    |_=>exact f.elim
  |_=>exact u.elim
end
end L2
namespace L2
open PySem PySem.Spec PyProof.Rows
def Do {prog:Program}{w:World}{A:Around}{it:Addr}{fp:ZX}{m:Nat}{P:Nat->Value->Prop}{St:Nat->Heap->Prop}(D:Draws prog w A it fp m P St)(n:Nat):
  Draws prog w A it fp (n+m) (λi v=>P (i-n) v) (λi h=>n<=i/\St (i-n) h) where
 live:=λ_ h st=>D.live _ h st.2
 frame:=λ_ h h' st k=>⟨st.1,D.frame _ h h' st.2 k⟩
 item:=λi s Q E hi st k=>D.item (i-n) s Q E (by have:=st.1;omega) st.2 λx h' tk hx hst sb=>by
  have e:i+1-n=i-n+1:=by have:=st.1;omega
  exact k x h' tk hx ⟨by have:=st.1;omega,by rw [e];exact hst⟩ sb
 done:=λs Q E st k=>D.done s Q E (by have:=st.2;rwa [NT] at this) k
def Hu {prog:Program}{w:World}{A:Around}(hh:A.handled=none)(it l:Addr)(hne:l≠it)(items:Array Value)(i:Nat)(hi:items[i]?=none):
  Draws prog w A it [it,l] i (λ_ _=>True) (λj h=>j=i/\h.IsListIter it l i/\h.IsList l items) where
 live:=λ_ _ st=>let ⟨o,ho,_⟩:=st.2.1;⟨o,ho⟩
 frame:=λ_ _ _ st k=>⟨st.1,st.2.1.at λo e=>k it Z8 o e,st.2.2.at λo e=>k l Z8 o e⟩
 item:=λj s Q E hj st k=>by have:=st.1;omega
 done:=λs Q E st k=>wpAny_nextOf_list_end hh st.2.1 st.2.2 hi k
def Cz (K:PySem.W.Frag)(a:Addr)(n:Nat):It:=
 ⟨λi H=>∃xs x,aP K H a xs/\xs[i]?=some x,
  λi H v H'=>∃T x,H T=none/\v=.ref T/\H'=upd H T (.tup [.int ((n+i:Nat):Int),x])/\∀xs,aP K H a xs->xs[i]?=some x,
  λi H=>∃xs,aP K H a xs/\xs.length<=i⟩
def EK {P:Program}{w:World}{K:W.Frag}{es:List Expr}{kk:Nat}{tp:Pos}{e it a:Addr}(n:Nat)(hne:e≠it)(hea:e≠a)(hai:a≠it):
  jd P w K (.Tuple es kk tp) (Cz K a n) [e,it] e (λi h=>(∃old,IsEnum h e it ((n+i:Nat):Int) old)/\h.IsListIter it a i) where
 mem:=by simp
 obj:=λi h q0 q hq=>by
  obtain ⟨⟨old,he⟩,⟨o1,e1,_,d1⟩⟩:=q0
  simp only [LK,Mj,ME] at hq
  rcases hq with rfl|rfl
  .exact ⟨_,he,λv z=>nomatch z⟩
  .exact ⟨_,e1,λv z=>by rw [d1] at z;cases z⟩
 keep:=λi h h' q1 k=>by obtain ⟨⟨old,he⟩,⟨o1,e1,r1⟩⟩:=q1;exact ⟨⟨old,k _ Z8 _ he⟩,⟨o1,k _ Z8 _ e1,r1⟩⟩
 item:=by
  intro X hP hw hK hc i pins s σ H E I hf st hg
  subst hP hw hK
  obtain ⟨xs,x,hq,hx⟩:=hg
  obtain ⟨its,rv,p,hz⟩:=I.list hq
  obtain ⟨u,hu,ru⟩:=rv.get hx
  obtain ⟨⟨old,he⟩,hit⟩:=st
  have hi:i<its.toArray.size:=by have:=(Lx.mp hu).1;simpa using this
  have D:=Do (Draws.list (prog:=X.prog) (w:=X.w) (A:=X.A.in1) (I.ok.hd hc) it a hai its.toArray) n
  refine wpAny_pyNext_enum_itemD (i:=n+i) D he ⟨MF _ _,by rw [NT];exact ⟨hit,p.isList⟩⟩ Z4 hne (by simp [hne,hea]) λu' h' tk hu' heo st' hT hzz kp=>?_
  have euu:u'=u:=by
   have h1:its.toArray[n+i-n]?=some u':=hu'
   rw [NT] at h1
   have h2:its[i]?=some u':=by simpa using h1
   rw [hu] at h2
   exact (LQ h2).symm
  subst euu
  have hit':h'.IsListIter it a (i+1):=by
   have:=st'.2.1
   rw [show n+i+1-n=i+1 by omega] at this
   exact this
  refine ⟨_,rfl,?_⟩
  refine Ps (s:={s with heap:=h',toks:=tk+1}) heo λh2' he2 sb=>?_
  have hTe:s.heap.objs.size≠e:=NY<|L1 he
  have hT2:h2'.get? s.heap.objs.size=some {cls:=.type "tuple",data:=.seq #[.int ((n+i:Nat):Int) tk,u']}:=(sb.2 _ hTe).trans hT
  have kp2:∀c o,c∉[e,it]->s.heap.get? c=some o->h2'.get? c=some o:=λc o hc e'=>(sb.2 c λq=>hc (by simp [q])).trans<|kp c o (λq=>hc (by simp [q])) (λq=>hc (by simp [q])) e'
  have hTn:H s.heap.objs.size=none:=I.az.fresh<|LF _
  refine ⟨.ref s.heap.objs.size,upd H s.heap.objs.size (.tup [.int ((n+i:Nat):Int),x]),I.uO (t':=tk+1) hf (LF _) kp2 ⟨by show 2<=sizeLine;decide,[.int ((n+i:Nat):Int) tk,u'],.cons ⟨_,rfl⟩ (.cons ru .nil),⟨_,hT2,rfl,_,rfl⟩⟩,rfl,⟨_,x,hTn,rfl,rfl,λys hy=>by rw [I.tF hy hq];exact hx⟩,⟨⟨u',by have:=he2;rw [show ((n+i:Nat):Int)+1=((n+(i+1):Nat):Int) by omega] at this;exact this⟩,hit'.extBut sb.extBut<|MC hne⟩,λb' hb=>?_⟩
  obtain ⟨ob,e',_⟩:∃ob,s.heap.get? b'=some ob/\True:=by
   simp only [LK,Mj,ME] at hb
   obtain ⟨o1,e1,_⟩:=hit
   rcases hb with rfl|rfl
   .exact ⟨_,he,trivial⟩
   .exact ⟨_,e1,trivial⟩
  rw [aA<|Mf<|L1 e']
  exact (hf b' hb).1
 done:=by
  intro X hP hw hK hc i pins s σ H E I hf st hg
  subst hP hw hK
  obtain ⟨xs,hq,hx⟩:=hg
  obtain ⟨its,rv,p,hz⟩:=I.list hq
  obtain ⟨⟨old,he⟩,hit⟩:=st
  have hl:=rv.length
  exact wpAny_pyNext_enum_endD (Hu (prog:=X.prog) (w:=X.w) (A:=X.A.in1) (I.ok.hd hc) it a hai its.toArray i (by simp;omega)) he ⟨rfl,hit,p.isList⟩ λh' eb=>⟨rfl,I.vg (t':=s.toks) hf λc o hcc e=>eb c o (λq=>hcc (by simp [q])) e⟩
 self:=λA i s Q E st h=>let ⟨⟨_,he⟩,_⟩:=st;OO he h
def F6 
  (h:wpAny M A (spliced (backTo c (starEach (e::cc) b))) (λl g=>wpAny M A (evalAll ((backToKw c (keywordEach d b)).map (·.2)))
   (λm k=>wpAny M A (call (.type T) l (((backToKw c (keywordEach d b)).filterMap (·.1)).zip m)) Q E k) E g) E s)
  (n:backTo c (starEach (e::cc) b)=(false,eval e b)::backTo c (starEach cc b)) (i:(backTo c (starEach (e::cc) b)).any (·.1)=false)
  (f:(backToKw c (keywordEach d b)).all (·.1.isSome)=true:=by rfl) (j:(backToKw c (keywordEach d b)).any (·.1.isNone)=false:=by rfl):
  wpAny M A (callWith c (.type T) [] (backTo c (starEach (e::cc) b)) (backToKw c (keywordEach d b))) Q E s:=by
 have o:wpAny M A (evalArgs (.type T) true (backTo c<|starEach (e::cc) b)<|backToKw c<|keywordEach d b) (λa g=>wpAny M A (call (.type T) a.pos a.kw) Q E g) E s:=by
  rw [n] at h⊢
  exact evalArgs_kwB f h
 unfold callWith
 refine Lw<|Nd<|M1 o (λa g q=>Lw<|PJ ?_) λ_ _ z=>z
 simp only [i,j,PM]
 refine Lw<|LN<|Lw<|M1 q (λr k p=>Lw<|Nd<|wpAny_point<|LN p) λ_ _ z=>z
section
variable {X:Cx}
def Bu (K:PySem.W.Frag)(te tb:TE):TI:=λσ H R=>bo te bA σ H λvs H1=>bo tb bA σ H1 λzs H2=>∃a n,vs=[.ref a]/\zs=[.int ((n:Nat):Int)]/\n<2^62/\(∃xs,aP K H2 a xs)/\R (Cz K a n) H2
def Jv(N:X.mg "enumerate"=none)(O:PE X a o)(Q:PE X b r)(T:Gl X "enumerate":=by rfl)(t:starEach [a] X.env=(false,eval a X.env)::starEach [] X.env:=by rfl)(j:starEach [] X.env=[]:=by rfl):
  PI X (.Tuple J L M) (.Call (.Name "enumerate" p) [a] [⟨some "start",b,f⟩] i) (Bu X.K o r):=by
 intro d s w H R I h
 have x:PA X [a] (bo o bA):=ai O aw t
 have y:PK X [⟨some "start",b,f⟩] (bo r bA):=AI Q Ag
 refine Nv<|jX I T N Pj ?_ Z1 Z1
 refine F6 (aS (x i d s w H _ I h) λus U ⟨vs,Y,I1,r1,q1⟩=>?_) (by rw [t,j];rfl) (by rw [t,j];rfl)
 refine aS (y i d U w Y _ I1 q1) λws g q0=>?_
 obtain ⟨zs,z,m,rz,a,n,e1,e2,hn,⟨xs,hq⟩,q⟩:=q0
 subst e1 e2
 obtain ⟨u,rfl,ru⟩:=PV r1
 obtain ⟨v,rfl,A⟩:=PV rz
 cases ru
 obtain ⟨tk,rfl⟩:=A
 obtain ⟨ac,A,B,af⟩:=m.list hq
 have k:a<g.heap.objs.size:=by obtain ⟨_,e,_⟩:=B.isList;exact L1 e
 refine Em B.isList (by unfold Builtin.SmallTypes.fitsIndex;simp;omega) λC E g2 hz kp=>?_
 have I3:Inv X d w z {g with heap:=C}:=m.kept (t':=g.toks) kp
 refine OO (s:={g with heap:=C}) E ?_
 refine ⟨g.heap.objs.size+1,[g.heap.objs.size+1,g.heap.objs.size],_,_,z,rfl,I3,EK n (Nat.succ_ne_self _) (NY<|ND k)<|Mf k,⟨⟨_,E⟩,g2⟩,λc G=>?_,q⟩
 have l:g.heap.objs.size<=c:=by
  simp only [LK,Mj,ME] at G
  rcases G with rfl|rfl
  .exact MF _ _
  .exact LF _
 exact m.hZ l<|m.az.fresh l
end
end L2
namespace FL
open PySem L2
def kI (n:Nat)(xs:List D):List D:=xs.zipIdx.map λp=>.tup [.int ((n+p.2:Nat):Int),p.1]
def HV{j:Nat}(h:(kI n a)[j]?=some d):∃x,a[j]?=some x/\d=.tup [.int ((n+j:Nat):Int),x]:=by
 unfold kI at h
 rw [LO,Ql] at h
 cases e:a[j]? with
 |none=>rw [e] at h;cases h
 |some x=>rw [e] at h;exact ⟨x,rfl,by have:=LQ h;rw [<-this];simp⟩
def Gv{K:W.Frag}(C:n<2^62)(h:ae r G m (.lst w))(E:ae t G m (.int ((n:Nat):Int))):Walk (Bu K r t) G m (kI n w):=λM H s l R k=>h M H s l _ λv I o J=>E M I (s.trans<|o.but M) (l.same o) _ λz L p N=>by
 obtain ⟨a,c,rfl,b,f⟩:=J.d7
 have b:=p.but M _ _ b
 have f:=f.mono<|p.but M
 refine ⟨a,n,rfl,by rw [N.eC],C,⟨c,aP.of (ax b).2⟩,k _ L (o.trans p) (λj d O Q U g q=>?_) λO Q g=>?_⟩
 .have i:=(ax<|g _ _ b).2
  obtain ⟨x,Y,rfl⟩:=HV U
  obtain ⟨u,y,ru⟩:=f.get Y
  refine ⟨⟨c,u,aP.of i,y⟩,λv ac q0=>?_⟩
  obtain ⟨T,x',A,e,eH,hy⟩:=q0
  have B:=hy c<|aP.of i
  rw [y] at B
  cases B
  subst e eH
  refine ⟨dr A _,?_⟩
  exact nu q A (.cons (.int _) (.cons (ru.mono g) .nil))
 .have i:=(ax<|g _ _ b).2
  refine ⟨c,aP.of i,?_⟩
  rw [f.length]
  simp [kI]
end FL
namespace L2
open PySem PySem.Spec PyProof.Rows
section
variable {X:Cx}{pins:List (Addr×Obj)}{σ:List (Option V)}{H H':Hp}{s:Shared}{h':Heap}
def Inv.HW{ch:ZX}(I:Inv X pins σ H s)
  (f:∀b∈ch,(b∈X.ex\/X.s₀.heap.get? b=none)/\b≠X.env.locals/\(∀x c,X.env.cells.lookup x=some c->c≠b)/\∀p∈X.pn++pins,p.1≠b)
  (keep:∀b o,b≠X.env.locals->b∉X.fs->b∉ch->s.heap.get? b=some o->H b=none->h'.get? b=some o)
  (y:∀b o,b≠X.env.locals->b∈X.fs->b∉ch->s.heap.get? b=some o->H b=none->∃O,h'.get? b=some {o with slots:=O}) (free:∀b o,b∉ch->s.heap.get? b=some o->H b=none->H' b=none)
  (B:∀b o,b∉ch->s.heap.get? b=some o->∃G,h'.get? b=some G)
  (iA:∀b A,H b=some (.tup A)->H' b=some (.tup A)) (ik:∀b o u,H b=some (.cO o u)->H' b=some (.cO o u)) (iW:∀b N,H b=some (.jN N)->∃J,H' b=some (.jN (N++J)))
  (ns:∀m,s.heap.Ns X.env.locals m->h'.Ns X.env.locals m) (az:cT X.prog X.w H' h') (hg:AllBare g'):
  Inv X pins σ H' {s with heap:=h',gens:=g',drawn:=d',toks:=t'}:=by
 have L:∀b o,X.s₀.heap.get? b=some o->b≠X.env.locals:=λb o e=>Mf<|Mo (L1 e) I.ok.above
 have j:∀b o,X.s₀.heap.get? b=some o->b∉X.ex->b∉ch:=λb o e a C=>by
  rcases (f b C).1 with z|z
  .exact a z
  .rw [z] at e;cases e
 have g:∀x c,X.env.cells.lookup x=some c->∀v,s.heap.IsCell c v->h'.IsCell c v:=λx c e v q0=>by
  obtain ⟨o,E,Q⟩:=q0
  have h:c∉ch:=λz=>(f c z).2.2.1 x c e rfl
  by_cases U:c∈X.fs
  .obtain ⟨O,q⟩:=y c o (I.kh x c e) U h E (I.gT x c e)
   exact ⟨_,q,Q⟩
  .exact ⟨o,keep c o (I.kh x c e) U h E<|I.gT x c e,Q⟩
 refine ⟨I.ok,I.os,hg,⟨λb o e n C a=>?_,λb o e n C a=>?_,λb o e n a=>?_,λb o e a=>?_,λb A e=>iA b A<|I.base.iA b A e,λb o A e=>ik b o A<|I.base.ik b o A e,λb N e=>?_⟩,?_,λx c e=>?_,?_,λx c e=>?_,λp Y=>?_,az,I.len⟩
 .exact keep b o (L b o e) C (j b o e a) (I.base.keep b o e n C a)<|I.base.free b o e n a
 .obtain ⟨O,t⟩:=I.base.slot b o e n C a
  obtain ⟨T,M⟩:=y b _ (L b o e) C (j b o e a) t<|I.base.free b o e n a
  exact ⟨T,M⟩
 .obtain ⟨G,t⟩:=I.base.there b o e a
  exact free b G (j b o e a) t<|I.base.free b o e n a
 .obtain ⟨G,t⟩:=I.base.there b o e a
  exact B b G (j b o e a) t
 .obtain ⟨m1,t⟩:=I.base.iW b N e
  obtain ⟨m2,M⟩:=iW b _ t
  exact ⟨m1++m2,by rw [M,Array.append_assoc]⟩
 .obtain ⟨m,hn,hl⟩:=I.loc
  refine ⟨m,ns m hn,λi x v t M e3=>?_⟩
  obtain ⟨u,r,l⟩:=hl i x v t M e3
  refine ⟨u,r,?_⟩
  rcases l with l|⟨k,c,e,z⟩
  .exact .inl l
  .exact .inr ⟨k,c,e,g x c e _ z⟩
 .obtain ⟨v,z⟩:=I.cell x c e
  exact ⟨v,g x c e v z⟩
 .obtain ⟨m,⟨o,_,_,E,_⟩,_⟩:=I.loc
  exact free _ o (λz=>(f _ z).2.1 rfl) E I.free
 .obtain ⟨v,o,E,Q⟩:=I.cell x c e
  exact free c o (λz=>(f c z).2.2.1 x c e rfl) E<|I.gT x c e
 .obtain ⟨e,n,ne,nf,d⟩:=I.pin p Y
  have h:p.1∉ch:=λz=>(f p.1 z).2.2.2 p Y rfl
  exact ⟨keep p.1 p.2 ne nf h e n,free p.1 p.2 h e n,ne,nf,d⟩
end
section
variable {X:Cx}{σ:St}{H:Hp}{s:Shared}{ea T:Addr}{cls fl:Value}{E:Value->St->Hp->Prop}
end
section
variable {P:Program}{w:World}{K:PySem.W.Frag}{mg:Str->Option Value}{base:Heap}
end
section
variable {X:Cx}{st:Stmt}{cc:List Stmt}{t u:TS}
end
section
variable {P:Program}{w:World}{K:PySem.W.Frag}{mg:Str->Option Value}{base:Heap}
end
end L2
namespace L2
open PySem PySem.Spec PyProof.Rows
section
variable {X:Cx}{pins:List (Addr×Obj)}{σ:St}{H:Hp}{s:Shared}
def Inv.freeze(I:Inv X pins σ H s)(e:H p=some (.dK a))(h:s.heap.get? p=some o):Inv X pins σ (upd H p (.cO o (.dK a))) s:=by
 have d:∀b u,H b=some u->u≠.dK a->b≠p:=λb u q i z=>by rw [z,e] at q;exact i (LQ q).symm
 refine I.HW (h':=s.heap) (g':=s.gens) (d':=s.drawn) (t':=s.toks) (ch:=[]) (λb f=>nomatch f) (λb o _ _ _ q _=>q) (λb o _ _ _ q _=>⟨o.slots,q⟩) (λb o _ _ n=>?_) (λb o _ q=>⟨o,q⟩)
  (λb g q=>by rw [aA<|d b _ q (by intro z;cases z)];exact q) (λb o u q=>by rw [aA<|d b _ q (by intro z;cases z)];exact q) (λb k q=>⟨#[],by rw [aA<|d b _ q (by intro z;cases z),q];simp⟩) (λm j=>j) (λb u q=>?_) I.bare
 .rw [aA λz=>by rw [z,e] at n;cases n];exact n
 .by_cases f:b=p
  .subst f
   rw [aR] at q
   cases q
   refine ⟨h,?_⟩
   exact (I.az b _ e).kB (λc v _ q=>q) (λc q=>by rw [aA<|d c _ q (by intro z;cases z)];exact q) λc g q=>by rw [aA<|d c _ q (by intro z;cases z)];exact q
  .rw [aA f] at q
   exact (I.az b u q).kB (λc v _ q=>q) (λc q=>by rw [aA<|d c _ q (by intro z;cases z)];exact q) λc g q=>by rw [aA<|d c _ q (by intro z;cases z)];exact q
def Ci (te:TE):TE:=λσ H Q=>te σ H λx H1=>∃p kvs,x=.ref p/\H1 p=some (.dK kvs)/\∀o,Q x (upd H1 p (.cO o (.dK kvs)))
def J5(h:PE X e d):PE X e (Ci d):=by
 intro a s i H Q I j
 refine aS (h a s i H _ I j) λu k l=>?_
 obtain ⟨x,m,f,n,p,b,y,g,q⟩:=l
 obtain ⟨_,_,z,_,r⟩:=(show bX X.prog X.w m k.heap p (.dK b) from f.az p _ g)
 obtain ⟨t,c⟩:=r.dictAt
 obtain ⟨o,A,v,_⟩:=c
 exact ⟨x,_,f.freeze g v,n,q o⟩
def Gw {b:Type}{c:List (b×V)}{d:List (b×Value)}(h:KV c d):∀{i:Nat} {p:b×V},c[i]?=some p->∃q,d[i]?=some q/\p.1=q.1/\RelV p.2 q.2:=by
 unfold KV at h
 induction h with
 |nil=>intro i p e;cases e
 |cons a t f=>
  intro i p e
  cases i with
  |zero=>cases e;exact ⟨_,rfl,a⟩
  |succ i=>exact f e
def yK (d:Addr)(o:Obj)(kvs:List (aK×V)):It:=
 ⟨λi H=>i<kvs.length/\H d=some (.cO o (.dK kvs)),λi H x H'=>H'=H/\(kvs[i]?).map (·.2)=some x,λi H=>kvs.length<=i/\H d=some (.cO o (.dK kvs))⟩
def xC(I:Inv X pins σ H s)(e:H d=some (.cO o (.dK a)))(j:o.data=.dict i g):∃f,KV a f/\s.heap.DictAt (du X.prog X.w) d f g:=by
 obtain ⟨k,_,_,f,bB,l⟩:=(show bX X.prog X.w H s.heap d (.cO o (.dK a)) from I.az d _ e)
 obtain ⟨m,b⟩:=l.dictAt
 obtain ⟨p,n,c,q,h,r⟩:=id b
 rw [k] at c
 cases c
 rw [j] at h
 cases h
 exact ⟨f,bB,b⟩
end
def Dv {P:Program}{w:World}{K:W.Frag}{tg:Expr}(d it:Addr)(o:Obj)(kvs:List (aK×V))(ep:Nat)(es:Array DictEntry)(hd:o.data=.dict es ep):jd P w K tg (yK d o kvs) [it] it (λi h=>h.IsValIter it d i kvs.length ep) where
 mem:=by simp
 obj:=λi h st b hb=>by
  have e:b=it:=by simpa using hb
  subst e
  obtain ⟨o,e,c,d⟩:=st
  exact ⟨o,e,λv z=>by rw [d] at z;cases z⟩
 keep:=λi h h' st k=>let ⟨o,e,r⟩:=st;⟨o,k it Z8 o e,r⟩
 item:=by
  intro X hP hw hK hc i pins s σ H E I hf st hg
  subst hP hw hK
  obtain ⟨hi,hH⟩:=hg
  obtain ⟨vs,bB,hat⟩:=xC I hH hd
  have hl:=bB.length
  have hx:kvs[i]?=some kvs[i]:=Ly hi
  obtain ⟨q,hq,rq⟩:=Gw bB hx
  obtain ⟨f0,f1,f2,f3,f4,f5⟩:=hf it Z8
  rw [hl] at st
  refine wpAny_pyNext_values_item (k:=q.1) (v:=q.2) st hat hq λh' st' sb=>?_
  have I1:Inv X pins σ H {s with heap:=h'}:=I.turned (t':=s.toks) (λb o hb e=>(sb.2 b hb).trans e) f0 f1 f3 f4 f5
  obtain ⟨o',e',c',d'⟩:=id st'
  rw [<-hl] at st'
  exact ⟨q.2,rfl,qu (s:={s with heap:=h'}) e' c' d' Z1 ⟨kvs[i].2,H,I1,rq.2,⟨rfl,by rw [hx];rfl⟩,st',λb hb=>(hf b hb).1⟩⟩
 done:=by
  intro X hP hw hK hc i pins s σ H E I hf st hg
  subst hP hw hK
  obtain ⟨hi,hH⟩:=hg
  obtain ⟨vs,bB,hat⟩:=xC I hH hd
  have hl:=bB.length
  obtain ⟨f0,f1,f2,f3,f4,f5⟩:=hf it Z8
  rw [hl] at st
  exact wpAny_pyNext_values_end (I.ok.hd hc) st hat (Mx Z4) λh' eb=>⟨rfl,I.turned (t':=s.toks) (λb o hb e=>eb b o hb e) f0 f1 f3 f4 f5⟩
 self:=λ_ _ _ _ _ st h=>wpAny_pyIter_valiter st h
abbrev qf (p d:Addr):HO:=.ext λh=>h.IsValuesView p d
section
variable {X:Cx}
def xM:V->List V->Hp->VK->Prop:=λx xs H Q=>∃d kvs,x=.ref d/\xs=[]/\Rd H d (.dK kvs)/\∀p,H p=none->Q (.ref p) (upd H p (qf p d))
def EG:sK X "dict.values" xM:=by
 intro a s y H x A v B Q I f g h
 obtain ⟨d,i,rfl,rfl,e,q⟩:=h
 cases f
 cases g
 obtain ⟨z,j,l,bB,c⟩:=ic I.az e
 refine N0 PP c.typeIs PySem.F.entry_dict_values (PySem.F.args_dict_values_1 _) (meets_dict_values (du X.prog X.w) d j) ⟨⟨l,c⟩,?_⟩
 have m:H s.heap.objs.size=none:=I.az.fresh<|LF _
 refine ⟨.ref s.heap.objs.size,upd H s.heap.objs.size<|qf s.heap.objs.size d,I.laid (t':=s.toks) (λb u q=>LC _ q) (LF _) ?_,rfl,q _ m⟩
 have n:(s.heap.push {cls:=.type "dict_values",data:=.fields #[.ref d]}).IsValuesView s.heap.objs.size d:=⟨_,L0 _ rfl,rfl,rfl⟩
 exact ⟨n,⟨_,L0 _ rfl⟩,λC E p k=>by obtain ⟨o,r,t⟩:=p;exact ⟨o,k o r,t⟩⟩
def yx (to:TE):TE:=λσ H Q=>to σ H λx H1=>(∃d,x=.ref d/\rQ H1 d)/\xM x [] H1 Q
def JO{a b:Pos}(k:PE X o g)(e:attributeBase o "values" X.env (eval o X.env)=eval o X.env:=by rfl)(f:(a.endLine==b.line)=true:=by rfl):PE X (.Call (.Attribute o "values" a) [] [] b) (yx g):=by
 intro c s i H Q I h
 refine wpAny_Call_method0_late e f<|aS (k c s i H _ I h) λv l m=>?_
 obtain ⟨x,n,j,p,⟨d,q,r⟩,t⟩:=m
 subst q
 cases p
 obtain ⟨u,w,_⟩:=wq j r
 exact ⟨"dict","dict.values",OJ,PP,PySem.F.type_dict_values,u,w,No rfl<|PySem.evalArgs_none<|EG c l i n (.ref d) [] (.ref d) [] Q j rfl .nil t⟩
def AC (tl:TE):TI:=λσ H R=>tl σ H λx H1=>∃p d o kvs,x=.ref p/\H1 p=some (qf p d)/\H1 d=some (.cO o (.dK kvs))/\R (yK d o kvs) H1
def JX(B:PE X l r):PI X A l (AC r):=by
 intro f s C H R I h
 refine aS (B f s C H _ I h) λv a E=>?_
 obtain ⟨x,m,c,t,G⟩:=E
 obtain ⟨p,d,o,g,e,J,u,q⟩:=G
 subst e
 cases t
 obtain ⟨L,_,_⟩:=(show bX X.prog X.w m a.heap p (qf p d) from c.az p _ J)
 obtain ⟨M,_,_,N,y,O⟩:=(show bX X.prog X.w m a.heap d (.cO o (.dK g)) from c.az d _ u)
 obtain ⟨Q,i⟩:=O.dictAt
 obtain ⟨Y,T,j,t,z,r3⟩:=id i
 rw [M] at j
 cases j
 obtain ⟨vs,bB,n⟩:=xC c u z
 have k:=bB.length
 refine wpAny_pyIter_values L n ?_
 refine ⟨a.heap.objs.size,[a.heap.objs.size],_,_,m,rfl,c.kept (t':=a.toks) λb o e=>LC _ e,Dv d _ o g Q T z,⟨_,L0 _ rfl,rfl,by rw [k];rfl⟩,λb U=>?_,q⟩
 have e:b=a.heap.objs.size:=by simpa using U
 subst e
 exact c.hZ (LF _)<|c.az.fresh<|LF _
end
end L2
namespace FL
open PySem L2
def md (t:TE)(G:Hp)(σ:St)(a:Addr):Prop:=∀M H,ab G (but H M)->ap M H->∀Q:VK,(∀H',ab H H'->Q (.ref a) H')->t σ H Q
def G3{i:Nat}(e:b[i]?=some (some (.ref a))):md (aW i) G b a:=λM H s l Q k=>⟨.ref a,e,k H<|ab.refl _⟩
def Hx{is:List Int}(z:md t G r d)(h:G d=some (.cO o (.dK a)))(u:a.map (·.2)=is.map V.int):Walk (AC (yx t)) G r (is.map D.int):=λM H s l R k=>z M H s l _ λw f=>by
 have i:=(ax<|(s.trans<|f.but M) _ _ h).2
 refine ⟨⟨d,rfl,.inl ⟨a,.inr ⟨o,i⟩⟩⟩,d,a,rfl,rfl,.inr ⟨o,i⟩,λp A=>?_⟩
 have g:ab w (upd w p<|qf p d):=dr A _
 have y:a.length=is.length:=by have:=MA List.length u;simpa using this
 refine ⟨p,d,o,a,rfl,aR,g _ _ i,k _ _ (f.trans g) (λj x B C c m E=>?_) λB C m=>?_⟩
 .have b:=(ax<|m _ _<|(s.trans<|(f.trans g).but M) _ _ h).2
  have I:j<is.length:=by have:=(Lx.mp c).1;simpa using this
  refine ⟨⟨by omega,b⟩,λv J L=>?_⟩
  obtain ⟨N,O⟩:=L
  subst N
  refine ⟨ab.refl _,?_⟩
  have q:(a.map (·.2))[j]?=some v:=by rw [LO];exact O
  rw [u,LO] at q
  rw [LO] at c
  cases e:is[j]? with
  |none=>rw [e] at c;cases c
  |some n=>
   rw [e] at q c
   cases q
   cases c
   exact .int n
 .have b:=(ax<|m _ _<|(s.trans<|(f.trans g).but M) _ _ h).2
  exact ⟨by simp;omega,b⟩
end FL
namespace FL
open PySem PySem.Spec PyProof.Rows L2
section
variable {X:Cx}{C:Addr}
def Kk(q:PE X o j)(c:dm X.K C)(h:ee X.prog X.w X.K X.mg X.base n C m p i)(r:cS k X.A)(e:n<=k:=by decide)
  (s:eval (.Call (.Attribute o m a) [] [] d) X.env=(do
   let l<-eval o X.env
   standAt a.atName
   let (f,first)<-holding [l] (getMethod l m g)
   callWith d f first (backTo d (starEach [] X.env)) (backToKw d (keywordEach [] X.env))):=by rfl):
  PE X (.Call (.Attribute o m a) [] [] d) (lq C m i [] E0 j bA):=by
 obtain ⟨f,t,F,b,M⟩:=h.ex
 exact Ld (pl:=g) q c M (F.mono e) r b .nil rW s
end
end FL
namespace FL
open PySem L2
def oH (wi:TI)(G:Hp)(σ:St)(n:Nat)(R:Nat->Hp->V->Prop):Prop:=∀M H,ab G (but H M)->ap M H->∀S:It->Hp->Prop,
 (∀J H1,ab H H1->(∀(j:Nat) M' H',j<n->ab (but H1 M) (but H' M')->ap M' H'->J.go j H'/\∀x H'',J.on j H' x H''->ab H' H''/\R j (but H'' M') x)->(∀M' H',ab (but H1 M) (but H' M')->J.stop n H')->S J H1)->wi σ H S
def K5 (ds:List D):Nat->Hp->V->Prop:=λj G x=>∃d,ds[j]?=some d/\al G x d
def DO (us:List V):Nat->Hp->V->Prop:=λj _ x=>us[j]?=some x
def yk (us:List V):Nat->Hp->V->Prop:=λj G x=>∃T v,x=.ref T/\G T=some (.tup [.int (j:Nat),v])/\us[j]?=some v
section
variable {G:Hp}{σ:St}{wi:TI}{te:TE}{K:PySem.W.Frag}{a:Addr}{us:List V}
def Fv(h:Walk wi G σ c):oH wi G σ c.length (K5 c):=λM H s l S k=>h M H s l S λJ g i d b=>k J g i (λj m n f o r=>by
 obtain ⟨t,u⟩:=d j _ m n (Ly f) o r
 exact ⟨t,λx e v=>let ⟨p,q⟩:=u x e v;⟨p,_,Ly f,q⟩⟩) b
def vL (h:md te G σ a)(g:G a=some (.lst us)):oH (λσ H R=>kg K te σ H R\/lN K te σ H R) G σ us.length (DO us):=λM H s l S k=>.inl (h M H s l _ λi d=>by
 have b:=(s.trans<|d.but M) _ _ g
 refine ⟨a,rfl,⟨us,aP.of (ax b).2⟩,k _ i d (λj m n o c r=>?_) λm n c=>?_⟩
 .have f:=(ax<|c _ _ b).2
  refine ⟨⟨us,us[j],aP.of f,Ly o⟩,λx p ⟨e,q⟩=>?_⟩
  subst e
  exact ⟨ab.refl _,q us<|aP.of f⟩
 .exact ⟨us,aP.of (ax<|c _ _ b).2,LF _⟩)
def Be (h:md te G σ a)(i:G a=some (.lst us)):oH (xJ K (bo te bA)) G σ us.length (yk us):=λM H s l S k=>h M H s l _ λm d=>by
 have b:=(s.trans<|d.but M) _ _ i
 refine ⟨a,rfl,⟨us,aP.of (ax b).2⟩,k _ m d (λj n o p c q=>?_) λn o c=>?_⟩
 .have f:=(ax<|c _ _ b).2
  refine ⟨⟨us,us[j],aP.of f,Ly p⟩,λv r ⟨T,t,g,e,u,w⟩=>?_⟩
  subst e u
  refine ⟨dr g _,T,t,rfl,?_,w us<|aP.of f⟩
  rw [bh<|q.fresh g,aR]
 .exact ⟨us,aP.of (ax<|c _ _ b).2,LF _⟩
def sC{g:TG}{E:Ends}(y:oH wi (but H M) σ n R)(l:ap M H)
  (k:∀q,ab H q->∃Pv:Nat->ZX->St->Hp->Prop,Pv 0 M σ q/\(∀j d b c,Pv j d b c->ab (but q M) (but c d)/\ap d c)/\
   (∀(j:Nat) d x b c f,j<n->Pv j d b c->ab c f->R j (but f d) x->g x b f λr v=>u {E with nx:=λσ H=>∃M,Pv (j+1) M σ H,ct:=λσ H=>∃M,Pv (j+1) M σ H,bk:=E.nx} r v)/\∀d b c,Pv n d b c->E.nx b c):
  mK wi g u E σ H:=y M H (ab.refl _) l _ λJ q z t h=>by
 obtain ⟨Pv,A,B,i,s⟩:=k q z
 refine ⟨λj m b c=>m=n-j/\j<=n/\∃d,Pv j d b c,⟨n,by simp,Mb _,M,A⟩,?_⟩
 rintro j m b c ⟨rfl,U,d,p⟩
 obtain ⟨w,C⟩:=B j d b c p
 by_cases o:j<n
 .obtain ⟨I,L⟩:=t j d c o w C
  refine .inr ⟨I,λσ H=>∃M,Pv (j+1) M σ H,λr v N=>⟨n-(j+1),by omega,rfl,o,N⟩,λx f O=>?_⟩
  obtain ⟨Q,T⟩:=L x f O
  exact i j d x b c f o p Q T
 .have e:j=n:=by omega
  subst e
  exact .inl ⟨h d c w,s d b c p⟩
def r9(m:Nat):(List.range (m+1)).filter p=(List.range m).filter p++(if p m=true then [m] else []):=by
 rw [List.range_succ,MX]
 congr 1
 by_cases b:p m=true
 .simp [b]
 .simp [b]
def Jd{caps:St->St}{p:Nat->Bool}{f:Nat->D}(hw:oH wi G σ n R)(hR:∀j G h v,ab G h->R j G v->R j h v)
  (ht:∀h v j,ab G h->j<n->R j h v->br T h ((caps σ).set i (some v)) (p j))
  (he:∀h v j,ab G h->j<n->p j=true->R j h v->ae te h ((caps σ).set i (some v)) (f j)) (hz:n<sizeLine):
  ae (iP wi caps (cv i) T te) G σ (.lst (((List.range n).filter p).map f)):=λM H s l Q k=>hw M H s l _ λJ I L U z D N=>by
 have lf:D∉M:=(l.same L).fresh N
 have Y:ab G (but I M):=s.trans<|L.but M
 refine ⟨λj m τ r=>m=n-j/\j<=n/\(∀v,τ.set i (some v)=(caps σ).set i (some v))/\ab I r/\∃q,r D=some (.lst q)/\aC (but r (D::M)) q (((List.range j).filter p).map f),
  ⟨n,by simp,Mb _,λ_=>rfl,dr N _,[],aR,by simpa using aC.nil⟩,?_⟩
 rintro j m τ r ⟨rfl,hj,ac,A,q,t,O⟩
 have hs:ab (but I M) (but r (D::M)):=ir N A
 have hl:ap (D::M) r:=((l.same L).same A).cons t
 by_cases u:j<n
 .obtain ⟨go,gy⟩:=U j (D::M) r u hs hl
  refine .inr ⟨go,λB d=>(∀v,B.set i (some v)=(caps σ).set i (some v))/\ab I d/\∃q,d D=some (.lst q)/\aC (but d (D::M)) q (((List.range<|j+1).filter p).map f),
   λB d q0=>by obtain ⟨a,b,c⟩:=q0;exact ⟨n-(j+1),by omega,rfl,u,a,b,c⟩,λx d hy=>?_⟩
  obtain ⟨y,rx⟩:=gy x d hy
  have sG:ab G (but d (D::M)):=Y.trans<|hs.trans<|y.but _
  have C:=hl.same y
  show T (τ.set i<|some x) d _
  rw [ac x]
  refine ht _ x _ sG u rx (D::M) d (ab.refl _) C _ λH4 w=>?_
  have g:∀v,((caps σ).set i<|some x).set i (some v)=(caps σ).set i (some v):=λv=>by rw [Qs]
  by_cases E:p j=true
  .rw [LJ E]
   refine he _ x _ (sG.trans<|w.but _) u E (hR _ _ _ _ (w.but _) rx) (D::M) H4 (ab.refl _) (C.same w) _ λv H5 s5 r5=>?_
   have af:H5 D=some (.lst q):=s5 _ _<|w _ _<|y _ _ t
   have aj:=O.length
   have am:(((List.range j).filter p).map f).length<=j:=by
    rw [LA]
    have:=Ml p<|List.range j
    rw [Pl] at this
    omega
   refine ⟨q,af,by omega,g,?_,q++[v],aR,?_⟩
   .intro b o e
    rw [aA<|da e N]
    exact s5 _ _<|w _ _<|y _ _<|A _ _ e
   .rw [dD Lz,r9,LJ E,Me]
    exact (O.mono<|((y.trans w).trans s5).but _).snoc r5
  .rw [LG E]
   refine ⟨g,A.trans<|y.trans w,q,w _ _<|y _ _ t,?_⟩
   rw [r9,LG E,Mi]
   exact O.mono<|(y.trans w).but _
 .have e:j=n:=by omega
  subst e
  exact .inl ⟨z (D::M) r hs,k _ r (L.trans A)<|mC lf t O⟩
def EF{caps:St->St}(ac:i≠j){p:Nat->Bool}{f:Nat->D}(hw:oH wi G σ n (yk us))
  (ht:∀B v m,ab G B->us[m]?=some v->br tt B (((caps σ).set i (some (.int (m:Nat)))).set j (some v)) (p m))
  (he:∀B v m,ab G B->us[m]?=some v->p m=true->ae te B (((caps σ).set i (some (.int (m:Nat)))).set j (some v)) (f m)) (hz:n<sizeLine):
  ae (iP wi caps (nK K 2 (j7 (cv i) (j7 (cv j) pc))) tt te) G σ (.lst (((List.range n).filter p).map f)):=λM H s l Q k=>hw M H s l _ λJ O U af A D Y=>by
 have lf:D∉M:=(l.same U).fresh Y
 have aj:ab G (but O M):=s.trans<|U.but M
 refine ⟨λm q τ r=>q=n-m/\m<=n/\(∀v w,(τ.set i<|some v).set j (some w)=((caps σ).set i<|some v).set j (some w))/\ab O r/\∃h,r D=some (.lst h)/\aC (but r (D::M)) h (((List.range m).filter p).map f),
  ⟨n,by simp,Mb _,λ_ _=>rfl,dr Y _,[],aR,by simpa using aC.nil⟩,?_⟩
 rintro m q τ r ⟨rfl,hj,am,C,h,t,ry⟩
 have hs:ab (but O M) (but r (D::M)):=ir Y C
 have hl:ap (D::M) r:=((l.same U).same C).cons t
 by_cases E:m<n
 .obtain ⟨go,gy⟩:=af m (D::M) r E hs hl
  refine .inr ⟨go,λI d=>(∀v w,(I.set i<|some v).set j (some w)=((caps σ).set i<|some v).set j (some w))/\ab O d/\∃h,d D=some (.lst h)/\aC (but d (D::M)) h (((List.range<|m+1).filter p).map f),
   λI d q0=>by obtain ⟨a,b,c⟩:=q0;exact ⟨n-(m+1),by omega,rfl,E,a,b,c⟩,λx d hy=>?_⟩
  obtain ⟨u,T,y,rfl,hT,hv⟩:=gy x d hy
  have sG:ab G (but d (D::M)):=aj.trans<|hs.trans<|u.but _
  have L:=hl.same u
  refine ⟨T,_,rfl,bq.of (ax hT).2,rfl,.int (m:Nat),[y],rfl,y,[],rfl,rfl,?_⟩
  show tt ((τ.set i<|some (.int (m:Nat))).set j<|some y) d _
  rw [am (.int (m:Nat)) y]
  refine ht _ y _ sG hv (D::M) d (ab.refl _) L _ λH4 z=>?_
  have g:∀v w,((((caps σ).set i<|some (.int (m:Nat))).set j<|some y).set i<|some v).set j (some w)=((caps σ).set i<|some v).set j (some w):=λv w=>by
   rw [List.set_comm (some y) (some v)<|MC ac,Qs,Qs]
  by_cases N:p m=true
  .rw [LJ N]
   refine he _ y _ (sG.trans<|z.but _) hv N (D::M) H4 (ab.refl _) (L.same z) _ λv H5 s5 r5=>?_
   have an:H5 D=some (.lst h):=s5 _ _<|z _ _<|u _ _ t
   have ao:=ry.length
   have as:(((List.range m).filter p).map f).length<=m:=by
    rw [LA]
    have:=Ml p<|List.range m
    rw [Pl] at this
    omega
   refine ⟨h,an,by omega,g,?_,h++[v],aR,?_⟩
   .intro b o e
    rw [aA<|da e Y]
    exact s5 _ _<|z _ _<|u _ _<|C _ _ e
   .rw [dD Lz,r9,LJ N,Me]
    exact (ry.mono<|((u.trans z).trans s5).but _).snoc r5
  .rw [LG N]
   refine ⟨g,C.trans<|u.trans z,h,z _ _<|u _ _ t,?_⟩
   rw [r9,LG N,Mi]
   exact ry.mono<|(u.trans z).but _
 .have e:m=n:=by omega
  subst e
  exact .inl ⟨A (D::M) r hs,k _ r (U.trans C)<|mC lf t ry⟩
end
end FL
namespace FL
open PySem L2
def xI{u:TS}{D:Ends}(h:t {D with nx:=u D} a H):n0 t u D a H:=h
def CZ{K:W.Frag}{g:TE}{D:Ends}(h:ae i (but H M) b d)(l:ap M H)(k:∀v c,ab H c->al (but c M) v d->g b c λx j=>∃a C m e,x=.ref a/\j a=some (.ins C m e)/\dm K C/\bO K C f/\e.length<1000/\D.nx b (upd j a (.ins C m (cV f v e)))):Ap K g i f D b H:=h M H (ab.refl _) l _ k
def i6 (f:List D):Prop:=f≠[]/\bV f
structure be where
 cE:List D
 shared:List (Str×Nat)
 gs:List (List D×List Nat)
 of:List dq
 newest:Int
def kK (g:List D×List Nat):D:=.tup [.tup g.1,.lst (g.2.map λn=>D.int (n:Nat))]
def fU (sh:List (Str×Nat)):List (aK×V):=sh.map λp=>(Sum.inr p.1,V.int (p.2:Nat))
abbrev jc (v0:V)(sa:Addr)(v2:V)(ao:Addr)(n:Int):List (Str×V):=[("asker",v0),("shared",.ref sa),("guards",v2),("offers",.ref ao),("newest",.int n)]
def ki (C:Addr)(G:Hp)(v:V)(s:be):Prop:=∃a dx v0 sa v2 ao oS,v=.ref a/\G a=some (.ins C dx (jc v0 sa v2 ao s.newest))/\al G v0 (.tup s.cE)/\G sa=some (.cO oS (.dK (fU s.shared)))/\al G v2 (.lst (s.gs.map kK))/\nP G ao s.of
theorem ki.mono(e:ab G b)(h:ki C G v s):ki C b v s:=by
 obtain ⟨a,c,d,f,g,i,j,k,l,m,n,o,p⟩:=h
 exact ⟨a,c,d,f,g,i,j,k,e _ _ l,m.mono e,e _ _ n,o.mono e,p.mono e⟩
structure lG (K:PySem.W.Frag)(C:Addr):Prop where
 cl:dm K C
 nA:bO K C "asker"
 nS:bO K C "shared"
 nG:bO K C "guards"
 nO:bO K C "offers"
 nN:bO K C "newest"
structure gG (C:Addr)(H:Hp)(Z:List Addr)(a:Addr)(os:List Addr)(s:be):Prop where
 at_:∃dx v0 sa v2 ao ls oS,os=a::ao::ls/\H a=some (.ins C dx (jc v0 sa v2 ao s.newest))/\al (but H Z) v0 (.tup s.cE)/\but H Z sa=some (.cO oS (.dK (fU s.shared)))/\al (but H Z) v2 (.lst (s.gs.map kK))/\eD H Z ao ls s.of
def eD.weak{M:ZX}(h:eD H Z p c d)(g:∀x∈M,x∈Z):eD H M p c d:=by
 obtain ⟨b,i,j,k,e,m⟩:=h.kvs
 refine ⟨⟨b,i,j,k,λa f=>⟨(e a f).1,λv n=>?_⟩,m⟩,h.lists,h.apart⟩
 obtain ⟨l,o,q,r,s,t⟩:=(e a f).2 v n
 refine ⟨l,o,q,r,s,t.mono<|dU λx u=>?_⟩
 rcases LY.mp u with z|z
 .exact LL _ z
 .rcases LK.mp z with z|z
  .rw [z];exact LH _ Lz
  .exact LH _<|Lv _<|g x z
def qD{Z b:ZX}(c:p∈Z)(d:∀x∈b,x∈Z):∀a,a∈b++p::Z↔a∈Z:=λa=>by
 constructor
 .intro h
  rcases LY.mp h with z|z
  .exact d a z
  .rcases LK.mp z with z|z
   .rw [z];exact c
   .exact z
 .intro h
  exact LH _<|Lv _ h
def eD.frame{e:Hp}{Z':ZX}(h:eD H Z p a m)(s:p∈Z)(d:∀x∈a,x∈Z)(f:p∈Z')(g:∀x∈a,x∈Z')(k:∀b u,b∈p::a->H b=some u->e b=some u)(S:ab (but H Z) (but e Z')):eD e Z' p a m:=by
 obtain ⟨i,t,w,y,n,A⟩:=h.kvs
 refine ⟨⟨i,k _ _ Lz t,w,y,λc o=>⟨(n c o).1,λv B=>?_⟩,A⟩,λl d=>?_,h.apart⟩
 .obtain ⟨l,j,C,q,E,r⟩:=(n c o).2 v B
  refine ⟨l,j,C,q,k _ _ (Lv _ q) E,?_⟩
  rw [kb<|qD s d] at r
  rw [kb<|qD f g]
  exact r.mono S
 .obtain ⟨j,z⟩:=h.lists l d
  exact ⟨j,k _ _ (Lv _ d) z⟩
theorem gG.rep{M:ZX}{os:ZX}(h:gG C H Z a os s)(c:∀x∈M,x∈Z)(b:∀x∈os,x∉M):ki C (but H M) (.ref a) s:=by
 obtain ⟨e,f,g,i,d,r,j,rfl,k,m,n,o,p⟩:=h.at_
 have S:ab (but H Z) (but H M):=dU c
 refine ⟨a,e,f,g,i,d,j,rfl,?_,m.mono S,S _ _ n,o.mono S,(p.weak c).rep (b d Z8) λl q=>b l (by simp [q])⟩
 rw [bh<|b a Z8];exact k
theorem gG.frame{d:Hp}{Z':ZX}{os:ZX}(h:gG C H Z a os s)(f:∀x∈os,x∈Z)(c:∀x∈os,x∈Z')(k:∀b u,b∈os->H b=some u->d b=some u)(S:ab (but H Z) (but d Z')):gG C d Z' a os s:=by
 obtain ⟨g,i,j,l,m,n,o,rfl,p,r,t,v,w⟩:=h.at_
 exact ⟨⟨g,i,j,l,m,n,o,rfl,k _ _ Z8 p,r.mono S,S _ _ t,v.mono S,w.frame (f _ Z8) (λx e=>f _ (by simp [e])) (c _ Z8) (λx e=>c _ (by simp [e])) (λb u y q=>k b u (Lv _ y) q) S⟩⟩
theorem gG.mono{os:ZX}(h:gG C H Z a os s)(e:ab H b):gG C b Z a os s:=by
 obtain ⟨c,d,f,g,i,j,k,rfl,l,m,n,o,p⟩:=h.at_
 exact ⟨⟨c,d,f,g,i,j,k,rfl,e _ _ l,m.mono<|e.but Z,(e.but Z) _ _ n,o.mono<|e.but Z,p.same e⟩⟩
def vk {H d:Hp}{Z os a:ZX}(h:∀x∈a,x∈os\/H x=none)(i:∀x∈os,x∈Z)(k:∀b u,b∉os->H b=some u->d b=some u):ab (but H Z) (but d (a++Z)):=λb u e=>by
 obtain ⟨f,c⟩:=ax e
 have g:b∉os:=λz=>f<|i b z
 rw [bh]
 .exact k b u g c
 .intro z
  rcases LY.mp z with z|z
  .rcases h b z with w|w
   .exact g w
   .rw [w] at c;cases c
  .exact f z
def fo (s:be):List Str:=s.shared.map (·.1)
def cF (s:be)(n:Nat)(g:List D):be:=match bE s.cE g [] with
 |some st=>{s with of:=s.of++[(dv (fo s) st,(n,restOf (fo s) st))],newest:=n}
 |none=>s
def lE:upd (upd H x o) x a=upd H x a:=by
 funext b
 by_cases e:b=x
 .subst e;rw [aR,aR]
 .rw [aA e,aA e,aA e]
def Gn(h:p≠x):upd (upd (upd H x o) p d) x c=upd (upd H p d) x c:=by
 funext b
 by_cases e:b=x
 .subst e;rw [aR,aR]
 .rw [aA e,aA e]
  by_cases a:b=p
  .subst a;rw [aR,aR]
  .rw [aA a,aA a,aA e]
def yC (C:Addr):Sp:=λvs H Q _=>∃x dx v1 v2 v3,vs=[.ref x,v1,v2,v3]/\H x=some (.ins C dx [])/\
 ∀p,H p=none->p≠x->Q .av (upd (upd H p (.dT [])) x (.ins C dx [("asker",v1),("shared",v2),("guards",v3),("offers",.ref p),("newest",.int (-1))]))
def yY (C:Addr):Sp:=λvs H Q _=>∃Z os s a n g v2,vs=[.ref a,.int ((n:Nat):Int),v2]/\ap Z H/\gG C H Z a os s/\(∀x∈os,x∈Z)/\al (but H Z) v2 (.tup g)/\dz s.cE/\i6 g/\s.of.length<1000/\
 ∀os' H',(∀x∈os',x∈os\/H x=none)->(∀x∈os,x∈os')->(∀b u,b∉os->H b=some u->H' b=some u)->ap (os'++Z) H'->gG C H' (os'++Z) a os' (cF s n g)->Q .av H'
section
variable {K:PySem.W.Frag}{G:Hp}{σ:St}{ty:TE}{i:Nat}{a C dx sa:Addr}{fs:List (Str×V)}{oS:Obj}{sh:List (Str×Nat)}{n:Str}
def gO(T:dm K C)(n:bO K C x)(e:σ[i]?=some (some (.ref a)))(b:G a=some (.ins C dx fs))(c:fs.lookup x=some v)(r:al G v d):ae (kW K (aW i) x) G σ d:=
 λM H s l Q k=>⟨.ref a,e,a,C,dx,fs,v,rfl,(ax<|s _ _ b).2,T,n,c,k v H (ab.refl _)<|r.mono s⟩
def li(T:dm K C)(n:bO K C x)(e:σ[i]?=some (some (.ref a)))(c:G a=some (.ins C dx fs))(d:fs.lookup x=some (.ref b)):md (kW K (aW i) x) G σ b:=
 λM H s l Q k=>⟨.ref a,e,a,C,dx,fs,.ref b,rfl,(ax<|s _ _ c).2,T,n,d,k H<|ab.refl _⟩
theorem wH:∀(sh:List (Str×Nat)) (n:Str),(bm (fU sh) (Sum.inr n)).isSome=decide (n∈sh.map (·.1))
 |[],n=>rfl
 |p::r,n=>by
  show (bm ((Sum.inr p.1,V.int (p.2:Nat))::fU r)<|Sum.inr n).isSome=_
  by_cases e:p.1=n
  .subst e
   rw [ge rfl]
   simp
  .have b:¬(Sum.inr p.1:aK)=Sum.inr n:=λz=>e (Qh z)
   have c:¬n=p.1:=λz=>e z.symm
   rw [fZ (by exact b),wH r n]
   simp [c]
def FR (T:dm K C)(f:bO K C "shared")(e:σ[i]?=some (some (.ref a)))(g:G a=some (.ins C dx fs))(j:fs.lookup ("shared":Str)=some (.ref sa))(m:G sa=some (.cO oS (.dK (fU sh))))(h:ae ty G σ (.str n)):br (tB (pP ty (kW K (aW i) "shared"))) G σ (decide (n∈sh.map (·.1))):=λM H s l Q k=>h M H s l _ λv o b p=>by
 have q:=b _ _ (ax<|s _ _ g).2
 have c:=b _ _ (ax<|s _ _ m).2
 refine ⟨.ref a,e,a,C,dx,fs,.ref sa,rfl,q,T,f,j,sa,bm (fU sh)<|Sum.inr n,rfl,.inl ⟨fU sh,Sum.inr n,.inr ⟨oS,c⟩,(fP (d:=.str n) rfl p).2,rfl⟩,_,rfl,?_⟩
 rw [wH]
 exact k o b
def HK (T:dm K C)(f:bO K C "shared")(e:σ[i]?=some (some (.ref a)))(g:G a=some (.ins C dx fs))(j:fs.lookup ("shared":Str)=some (.ref sa))(m:G sa=some (.cO oS (.dK (fU sh))))(h:ae ty G σ (.str n)):br (tB (nZ ty (kW K (aW i) "shared"))) G σ (!decide (n∈sh.map (·.1))):=λM H s l Q k=>h M H s l _ λv o b p=>by
 have q:=b _ _ (ax<|s _ _ g).2
 have c:=b _ _ (ax<|s _ _ m).2
 refine ⟨.ref a,e,a,C,dx,fs,.ref sa,rfl,q,T,f,j,sa,bm (fU sh)<|Sum.inr n,rfl,.inl ⟨fU sh,Sum.inr n,.inr ⟨oS,c⟩,(fP (d:=.str n) rfl p).2,rfl⟩,_,rfl,?_⟩
 rw [wH]
 exact k o b
end
theorem wP:∀(L:List (D×D)) (F G:aO),fN F L=some G->(∀t∈F,t.2.sc=true)->(∀p∈L,p.2.sc=true)->∀t∈G,t.2.sc=true
 |[],F,G,h,a,_=>by
  have:F=G:=LQ h
  rw [<-this];exact a
 |p::r,F,G,h,a,b=>by
  have h:(fS F p.1 p.2).bind (λf=>fN f r)=some G:=h
  unfold fS at h
  have c:∀q∈r,q.2.sc=true:=λq g=>b q<|Lv _ g
  by_cases e:(aJ p.1&& !eZ F p.1)=true
  .rw [LJ e] at h
   exact wP r _ G h (wX a<|b p Lz) c
  .rw [LG e] at h
   by_cases d:cb F p.1=p.2
   .rw [LJ d] at h
    exact wP r F G h a c
   .rw [LG d] at h;cases h
def BH{st:aO}(h:bE A g S=some st)(a:∀t∈S,t.2.sc=true)(b:bV g):∀t∈st,t.2.sc=true:=by
 unfold bE at h
 by_cases z:A.headD .av=g.headD .av/\A.length=g.length
 .rw [LJ z] at h
  exact wP _ S st h a λp c=>b _ (O4 c).2
 .rw [LG z] at h;cases h
def zQ{st:aO}(h:bE A g []=some st):st.length<=A.length:=by
 obtain ⟨U,_,rfl,_⟩:=iB (V:=λ_=>.av) (B:=[]) eM h
 unfold ar
 rw [LA]
 have:=jT A []
 rw [NI] at this
 omega
def jx (st:aO):List (D×D):=st.map λq=>(.str q.1,q.2)
def Cy (st:aO):(jx st).map (λq=>D.tup [q.1,q.2])=pairD st:=by
 unfold jx pairD
 rw [Mn]
 rfl
def Ix (st:aO)(a:ZY):((jx st).filter λq=>decide (q.1.name∈a)).map (λq=>q.2)=dv a st:=by
 unfold jx dv
 rw [Nl,Mn]
 rfl
def J8 (st:aO)(a:ZY):((jx st).filter λq=> !decide (q.1.name∈a)).map (λq=>D.tup [q.1,q.2])=pairD (restOf a st):=by
 unfold jx restOf pairD
 rw [Nl,Mn]
 rfl
def DR {st:aO}(h:∀t∈st,t.2.sc=true)(b:ZY):bV (dv b st):=λx a=>by
 unfold dv at a
 obtain ⟨t,c,rfl⟩:=LS.mp a
 exact h t (LP.mp c).1
end FL
namespace FL
open PySem L2
def CB (p:Str×D):D:=.tup [.str p.1,p.2]
def eh (S:aO)(is:List Nat):aO:=is.map λi=>S.getD i (("":Str),.av)
def eX (S:aO)(gs:List (List D×List Nat)):Bool:=gs.all λg=>holdsA (g.1.map (cb (eh S g.2)))
def uk (n:Nat)(g:List D×List Nat):Prop:=(∃r a b,g.1=[.str r,a,b]/\a.sc=true/\b.sc=true/\aJ (.str r)=false)/\(∀i∈g.2,i<n)/\g.2.length<=100
def xw (C:Addr):Sp:=λvs H Q _=>∃M st S v0 v1,vs=[v0,v1]/\ap M H/\ki C (but H M) v0 st/\al (but H M) v1 (.lst (pairD S))/\(∀p∈S,p.2.sc=true/\aJ (.str p.1)=true)/\(∀g∈st.gs,uk S.length g)/\∀H',ab H H'->Q (.bl (eX S st.gs)) H'
def B4 {S:aO}{is:List Nat}(h:∀p∈S,p.2.sc=true/\aJ (.str p.1)=true)(a:∀i∈is,i<S.length):∀p∈eh S is,p.2.sc=true/\aJ (.str p.1)=true:=λp b=>by
 obtain ⟨i,c,rfl⟩:=LS.mp b
 have:=a i c
 rw [List.getD,Ly this]
 exact h _<|NW this
def cZ (w:aH):D:=.tup [.lst (pairD w.1),.tup (w.2.map λn=>D.int (n:Nat))]
def fQ (S:aO)(is:List Nat):List D:=(eh S is).map (·.2)
def jn (ps:aO):Prop:=∀p∈ps,p.2.sc=true/\aJ (.str p.1)=true
def gz (st:be):List Nat:=st.shared.map (·.2)
structure jZ (n:Nat)(st:be):Prop where
 sh:∀i∈gz st,i<n
 shl:st.shared.length<=100
 of:∀o∈st.of,jn o.2.2/\o.2.2.length<=100/\∀g∈st.gs,uk (n+o.2.2.length) g
 xB:st.of.length<=900
abbrev fI (w:aH)(o:dq):aH:=(w.1++o.2.2,w.2++[o.2.1])
def fresh (lo:Int)(o:dq):Bool:=decide (lo<=((o.2.1:Nat):Int))
def fg (st:be)(w:aH)(lo:Int):List aH:=(((e9 st.of (fQ w.1 (gz st))).reverse.takeWhile (fresh lo)).map (fI w)).filter λx=>eX x.1 st.gs
def vI (C:Addr):Sp:=λvs H Q _=>∃M st w0 lo v0 v1,vs=[v0,v1,.int lo]/\ap M H/\ki C (but H M) v0 st/\al (but H M) v1 (cZ w0)/\jn w0.1/\w0.1.length<=500/\w0.2.length<=500/\jZ w0.1.length st/\∀v H',ab H H'->al (but H' M) v (.lst ((fg st w0 lo).map cZ))->Q v H'
def Kx{is:List Nat}(a:jn S)(b:∀i∈is,i<S.length):bV (fQ S is):=λx c=>by
 obtain ⟨p,d,rfl⟩:=LS.mp c
 exact (B4 a b p d).1
theorem CQ{p:a->Bool}:∀{l:List a} {j:Nat} {y:a},(∀x∈l.take j,p x=true)->l[j]?=some y->p y=false->l.takeWhile p=l.take j
 |[],j,y,_,h,_=>by simp at h
 |x::r,0,y,_,h,b=>by
  simp at h
  subst h
  rw [NO,b];simp
 |x::r,j+1,y,c,h,b=>by
  have d:p x=true:=c x Z8
  rw [NO,d]
  show x::r.takeWhile p=x::r.take j
  rw [CQ (l:=r) (j:=j) (λz e=>c z (by simp [e])) (by simpa using h) b]
theorem qh{p:a->Bool}:∀{l:List a},(∀x∈l,p x=true)->l.takeWhile p=l
 |[],_=>rfl
 |x::r,b=>by
  rw [NO,b x Z8]
  show x::r.takeWhile p=_
  rw [qh λz c=>b z (by simp [c])]
section
variable {K:PySem.W.Frag}{G:Hp}{σ:St}{ty:TE}{i:Nat}{a C dx:Addr}{fs:List (Str×V)}{ao:Addr}{of:List dq}{key:List D}
def KD (T:dm K C)(n:bO K C "offers")(e:σ[i]?=some (some (.ref a)))(u:G a=some (.ins C dx fs))(w:fs.lookup ("offers":Str)=some (V.ref ao))(x:nP G ao of)(m:bV key)(h:ae ty G σ (.tup key)):
  ae (pE (kW K (aW i) "offers") ty (jF bA)) G σ (.lst (iq of key)):=λM H s l Q k=>by
 obtain ⟨d,y,E,p⟩:=x
 have z:=(ax<|s _ _ u).2
 have q:=(ax<|s _ _ y).2
 refine ⟨.ref a,e,a,C,dx,fs,.ref ao,rfl,z,T,n,w,ao,rfl,.inr ⟨d,.inl q⟩,h M H s l _ λI J f A=>⟨Mb _,λL g=>?_⟩⟩
 obtain ⟨b,N,rfl,B,o⟩:=A.fe
 have j:=(ax B).2
 rw [lW m o] at j
 have c:=dr g (.lst [])
 have dw:=c _ _<|f _ _ q
 refine ⟨bm d<|bZ key,cR.t dw<|c _ _ j,?_⟩
 cases r:bm d (bZ key) with
 |none=>
  have:iq of key=[]:=by unfold iq;rw [(p key m).1 r];rfl
  rw [this] at k
  exact k _ _ (f.trans c)<|qC (l.same f) g .nil
 |some v=>exact k _ _ (f.trans c)<|((p key m).2 v r).mono<|s.trans<|(f.trans c).but M
def JU {st:be}{S:aO}{j:Nat}(e:σ[i]?=some (some (.ref a)))(hst:ki C G (.ref a) st)(hS:jn S)(hg:∀g∈st.gs,uk S.length g)(h:ae (aW j) G σ (.lst (pairD S))):
  br (tB (lq C "allows" (xw C) [] L2.E0 (aW i) (bo (aW j) bA))) G σ (eX S st.gs):=λM H s l Q k=>by
 obtain ⟨a',dx',v0,sa,v2,ao',oS,e1,g1,g2,g3,g4,g5⟩:=id hst
 cases e1
 refine ⟨.ref a,e,a,dx',_,rfl,(ax (s _ _ g1)).2,rfl,h M H s l _ λv H1 s1 r1=>?_⟩
 exact ⟨M,st,S,.ref a,v,rfl,l.same s1,hst.mono (s.trans (s1.but M)),r1,hS,hg,λH2 s2=>⟨_,rfl,k H2 (s1.trans s2)⟩⟩
end
end FL
namespace FL
open PySem L2
def xf {a:List (aK×V)}{k:aK}{v:V}(h:bm a k=none):cg a k v=a++[(k,v)]:=by
 unfold cg
 rw [jM,h]
 rfl
theorem A8:∀(b:aO) (a:List (aK×V)),(b.map (·.1)).Nodup->(∀p∈b,bm a (Sum.inr p.1)=none)->ci a (bL b)=a++bL b
 |[],a,_,_=>by rw [show bL []=[] from rfl,Mi];rfl
 |p::r,a,c,d=>by
  rw [Mu,NH] at c
  show ci (cg a (Sum.inr p.1) p.2.toV) (bL r)=_
  rw [xf<|d p Z8,A8 r _ c.2 ?_,Mw]
  .rfl
  .intro x e
   have f:¬(Sum.inr x.1:aK)=Sum.inr p.1:=λz=>c.1 (by rw [<-Qh z];exact LS.mpr ⟨x,e,rfl⟩)
   rw [<-xf (d p Z8),uX,LG f]
   exact d x (by simp [e])
section
variable {σ:St}{δ:Dn}{M:List Addr}{H:Hp}{te:TE}{E:Ends}{K:PySem.W.Frag}
def EE(l:ap M H)(n:ay (but H M) σ δ)(B:i<δ.length)(h:ae te (but H M) σ (.lst (pairD ps)))(s:∀p∈ps,p.2.sc=true)(t:(ps.map (·.1)).Nodup)
  (k:∀p o b d,(∀j:Nat,j≠i->b[j]?=σ[j]?)->b[i]?=some (some (.ref p))->H p=none->p∉M->d p=some (.cO o (.dK (bL ps)))->ab H d->ap M d->ay (but d M) b (δ.set i none)->E.nx b d):
  eY (Ci (cD (λw H Q=>∃a g e,w=[.ref a]/\aP K H a g/\Pairs K H g e/\∀p,H p=none->Q (.ref p) (upd H p (.dK (ci [] e)))) (bo te bA))) (cv i) E σ H:=
 h M H (ab.refl _) l _ λv r f x=>by
  obtain ⟨a,g,rfl,y,z⟩:=x.d7
  refine ⟨a,g,bL ps,rfl,aP.of (ax y).2,qV s z,λp c=>⟨p,_,rfl,aR,λo=>?_⟩⟩
  rw [lE,A8 ps [] t λp _=>rfl,NK]
  have C:=n.len
  have m:ab r (upd r p (.cO o (.dK<|bL ps))):=dr c _
  refine k p o _ _ (λj A=>LB<|MC A) (LM Z4) ?_ ((l.same f).fresh c) aR (f.trans m) ((l.same f).same m)<|(n.same<|f.trans m).off i _
  cases q:H p with
  |none=>rfl
  |some u=>rw [f _ _ q] at c;cases c
end
theorem wU{H:Hp}:∀{os:ZX},(∀x∈os,∃o,H x=some o/\Seen o=false)->al (but H M) v d->al (but H (os++M)) v d
 |[],_,r=>r
 |x::os,h,r=>by
  obtain ⟨o,a,b⟩:=h x Z8
  exact al.eW (M:=os++M) a b<|wU (λy c=>h y (by simp [c])) r
structure qp (C:Addr)(G:Hp)(us:List V)(ss:List be):Prop where
 len:us.length=ss.length
 get:∀(j:Nat) s,ss[j]?=some s->∃v,us[j]?=some v/\ki C G v s
theorem qp.mono(h:qp C G d f)(e:ab G c):qp C c d f:=⟨h.len,λj s q=>let ⟨v,a,b⟩:=h.get j s q;⟨v,a,b.mono e⟩⟩
structure d6 (C:Addr)(H:Hp)(Z:List Addr)(us:List V)(oss:List (List Addr))(ss:List be):Prop where
 l1:us.length=ss.length
 l2:oss.length=ss.length
 get:∀(j:Nat) s,ss[j]?=some s->∃a os,us[j]?=some (.ref a)/\oss[j]?=some os/\gG C H Z a os s/\∀x∈os,x∈Z
 apart:∀(i j:Nat) oi oj,i≠j->oss[i]?=some oi->oss[j]?=some oj->∀x∈oi,x∉oj
theorem d6.mono(h:d6 C H Z d b f)(e:ab H c):d6 C c Z d b f:=⟨h.l1,h.l2,λj s q=>let ⟨a,os,g,i,k,l⟩:=h.get j s q;⟨a,os,g,i,k.mono e,l⟩,h.apart⟩
theorem d6.rep{M:ZX}(h:d6 C H Z c b d)(e:∀x∈M,x∈Z)(f:∀os∈b,∀x∈os,x∉M):qp C (but H M) c d:=⟨h.l1,λj s q=>by
 obtain ⟨a,os,g,i,k,l⟩:=h.get j s q
 exact ⟨_,g,k.rep e<|f os<|LD i⟩⟩
theorem d6.frame{d:Hp}{Z':ZX}(h:d6 C H Z g c i)(l:∀x∈Z,x∈Z')(k:∀b u,(∃os∈c,b∈os)->H b=some u->d b=some u)(S:ab (but H Z) (but d Z')):d6 C d Z' g c i:=⟨h.l1,h.l2,λj s q=>by
 obtain ⟨a,os,n,m,o,e⟩:=h.get j s q
 exact ⟨a,os,n,m,o.frame e (λx f=>l x<|e x f) (λb u p=>k b u ⟨os,LD m,p⟩) S,λx f=>l x<|e x f⟩,h.apart⟩
def d6.yX{d:Hp}{e:ZX}(h:d6 C H Z g c i)(l:∀os∈c,∀x∈os,x∈e)(k:∀b u,(∃os∈c,b∈os)->H b=some u->d b=some u)(S:ab (but H Z) (but d e)):d6 C d e g c i:=⟨h.l1,h.l2,λj s q=>by
 obtain ⟨a,os,n,m,o,p⟩:=h.get j s q
 have f:=LD m
 exact ⟨a,os,n,m,o.frame p (l os f) (λb u r=>k b u ⟨os,f,r⟩) S,l os f⟩,h.apart⟩
theorem eD.eW(h:eD H Z p c e)(i:H x=some o)(j:Seen o=false):eD H (x::Z) p c e:=by
 obtain ⟨d,k,m,n,f,q⟩:=h.kvs
 refine ⟨⟨d,k,m,n,λb g=>⟨(f b g).1,λv r=>?_⟩,q⟩,h.lists,h.apart⟩
 obtain ⟨l,s,t,u,w,y⟩:=(f b g).2 v r
 refine ⟨l,s,t,u,w,?_⟩
 have A:=aC.eW i j y
 rwa [kb (M':=c++p::x::Z) λa=>by
  simp only [LK,LY]
  constructor
  .rintro (z|z|z|z)
   .exact .inr (.inr (.inl z))
   .exact .inl z
   .exact .inr (.inl z)
   .exact .inr (.inr (.inr z))
  .rintro (z|z|z|z)
   .exact .inr (.inl z)
   .exact .inr (.inr (.inl z))
   .exact .inl z
   .exact .inr (.inr (.inr z))] at A
theorem d6.eW(h:d6 C H Z g b i)(d:H x=some (.ins k c l))(e:Seen (.ins k c l)=false):d6 C H (x::Z) g b i:=⟨h.l1,h.l2,λj s q=>by
 obtain ⟨a,os,n,o,p,r⟩:=h.get j s q
 refine ⟨a,os,n,o,?_,λy t=>Lv _<|r y t⟩
 obtain ⟨u,v,m,w,A,B,E,G,I,J,L,M,N⟩:=p.at_
 refine ⟨⟨u,v,m,w,A,B,E,G,I,al.eW d e J,?_,al.eW d e M,N.eW d e⟩⟩
 obtain ⟨O,f⟩:=ax L
 have Q:m≠x:=λz=>by rw [z,d] at f;cases f
 rw [bh (by simp only [LK,Qx];exact ⟨Q,O⟩)]
 exact f,h.apart⟩
def d6.put{G:Hp}{j:Nat}{os c:ZX}(h:d6 C H Z I f y)(l:ap Z H)(Y:y[j]?=some s)(ha:I[j]?=some (.ref a))(J:f[j]?=some os)
  (n:∀x∈c,x∈os\/H x=none) (k:∀b u,b∉os->H b=some u->G b=some u) (L:∀x∈os,x∈Z) (A:gG C G (c++Z) a c Q):d6 C G (c++Z) I (f.set j c) (y.set j Q):=by
 have S:=vk n L k
 have M:=(Lx.mp Y).1
 have ac:=h.l2
 have o:j<f.length:=by omega
 refine ⟨by rw [M8];exact h.l1,by rw [M8,M8];exact h.l2,λi t q=>?_,λi m T r g v p x d=>?_⟩
 .by_cases e:j=i
  .subst e
   rw [LM M] at q
   cases q
   exact ⟨a,c,ha,LM o,A,λx d=>LL _ d⟩
  .rw [LB e] at q
   obtain ⟨a2,N,h1,B,h3,E⟩:=h.get i t q
   refine ⟨a2,N,h1,by rw [LB e];exact B,h3.frame E (λx d=>LH _<|E x d) (λb u hb=>k b u λz=>h.apart j i os N e J B b z hb) S,λx d=>LH _<|E x d⟩
 .have fD:∀{m:Nat} {r:ZX} {x:Addr},f[m]?=some r->x∈r->x∈Z:=λ{m r x} q d=>by
   have hm:=(Lx.mp q).1
   have O:m<y.length:=by omega
   obtain ⟨_,N,_,B,_,E⟩:=h.get m y[m]<|Ly O
   rw [q] at B
   cases B
   exact E x d
  by_cases e:j=i
  .subst e
   rw [LM o] at v
   cases v
   rw [LB g] at p
   rcases n x d with z|z
   .exact h.apart j m os r g J p x z
   .intro w
    exact l x (fD p w) z
  .rw [LB e] at v
   by_cases U:j=m
   .subst U
    rw [LM o] at p
    cases p
    intro w
    rcases n x w with z|z
    .exact h.apart i j T os g v J x d z
    .exact l x (fD v d) z
   .rw [LB U] at p
    exact h.apart i m T r g v p x d
def pA (C:Addr)(G:Hp)(v:V)(os:List Addr)(s:be):Prop:=∃a dx v0 sa v2 ao oS,v=.ref a/\os=[a,ao]/\G a=some (.ins C dx (jc v0 sa v2 ao s.newest))/\al G v0 (.tup s.cE)/\G sa=some (.cO oS (.dK (fU s.shared)))/\al G v2 (.lst (s.gs.map kK))/\G ao=some (.dT [])/\s.of=[]
theorem pA.mono{os:ZX}(e:ab G b)(h:pA C G v os s):pA C b v os s:=by
 obtain ⟨a,c,d,f,g,i,j,k,l,m,n,o,p,q,r⟩:=h
 exact ⟨a,c,d,f,g,i,j,k,l,e _ _ m,n.mono e,e _ _ o,p.mono e,e _ _ q,r⟩
structure gF (C:Addr)(G:Hp)(us:List V)(oss:List (List Addr))(ss:List be):Prop where
 l1:us.length=ss.length
 l2:oss.length=ss.length
 get:∀(j:Nat) s,ss[j]?=some s->∃v os,us[j]?=some v/\oss[j]?=some os/\pA C G v os s
 apart:∀(i j:Nat) oi oj,i≠j->oss[i]?=some oi->oss[j]?=some oj->∀x∈oi,x∉oj
def gF.nil:gF C G [] [] []:=⟨rfl,rfl,λj s q=>by simp at q,λi j a b _ q=>by simp at q⟩
theorem gF.mono(h:gF C G c a d)(e:ab G b):gF C b c a d:=⟨h.l1,h.l2,λj s q=>let ⟨v,os,f,g,i⟩:=h.get j s q;⟨v,os,f,g,i.mono e⟩,h.apart⟩
def gF.seen(h:gF C G i b c){j:Nat}{os:ZX}(e:b[j]?=some os):∀x∈os,∃o,G x=some o/\Seen o=false:=λx f=>by
 have p:=(Lx.mp e).1
 have q:=h.l2
 have d:j<c.length:=by omega
 obtain ⟨v,r,_,g,a,s,t,u,w,k,y,A,l,m,B,E,H,n,I⟩:=h.get j c[j]<|Ly d
 rw [e] at g
 cases g
 rw [l] at f
 rcases LK.mp f with z|z
 .rw [z];exact ⟨_,m,rfl⟩
 .have:x=k:=by simpa using z
  rw [this];exact ⟨_,n,rfl⟩
def gF.snoc{os:ZX}(h:gF C G u c A)(J:pA C G v os s)(B:∀o∈c,∀x∈o,x∉os):gF C G (u++[v]) (c++[os]) (A++[s]):=by
 have f:=h.l1
 have g:=h.l2
 have a:∀{p:Type} {l:List p} {x y:p} {j:Nat},(l++[x])[j]?=some y->(j<l.length/\l[j]?=some y)\/(j=l.length/\y=x):=λ{p l x y j} q=>by
  by_cases r:j<l.length
  .rw [LZ r] at q;exact .inl ⟨r,q⟩
  .rw [Ma<|Mp r] at q
   have:j-l.length=0:=by
    have:=(Lx.mp q).1
    simp at this
    exact this
   rw [this] at q
   exact .inr ⟨by omega,by simpa using q.symm⟩
 refine ⟨by simp [f],by simp [g],λj t q=>?_,λi j E H k L I x m=>?_⟩
 .rcases a q with ⟨d,b⟩|⟨d,b⟩
  .obtain ⟨w,M,N,O,Q⟩:=h.get j t b
   exact ⟨w,M,by rw [LZ Z4];exact N,by rw [LZ Z4];exact O,Q⟩
  .subst b
   refine ⟨v,os,?_,?_,J⟩
   .rw [d,<-f,Ma<|LF _];simp
   .rw [d,<-g,Ma<|LF _];simp
 .rcases a L with ⟨d,b⟩|⟨d,b⟩
  .rcases a I with ⟨n,e⟩|⟨n,e⟩
   .exact h.apart i j E H k b e x m
   .rw [e];exact B E (LD b) x m
  .rcases a I with ⟨n,e⟩|⟨n,e⟩
   .rw [b] at m
    exact λz=>B H (LD e) x z m
   .exact absurd (d.trans n.symm) k
def gF.own(h:gF C (but H M) y b g):d6 C H (b.flatten++M) y b g:=by
 have c:∀x∈b.flatten,∃o,H x=some o/\Seen o=false:=λx e=>by
  obtain ⟨os,G,e⟩:=Mv.mp e
  obtain ⟨j,I⟩:=Mt.mp G
  obtain ⟨o,m,k⟩:=h.seen I x e
  exact ⟨o,(ax m).2,k⟩
 refine ⟨h.l1,h.l2,λj s q=>?_,h.apart⟩
 obtain ⟨v,os,m,k,a,J,L,A,N,O,Q,rfl,T,U,Y,q5,q6,q7,q8⟩:=h.get j s q
 have n:∀x∈os,x∈b.flatten++M:=λx e=>LL _<|Mv.mpr ⟨os,LD k,e⟩
 refine ⟨a,os,m,k,⟨⟨J,L,A,N,O,[],Q,T,(ax U).2,wU c Y,?_,wU c q6,?_⟩⟩,n⟩
 .obtain ⟨r1,d⟩:=ax q5
  rw [bh]
  .exact d
  .intro z
   rcases LY.mp z with z|z
   .obtain ⟨ac,p,f⟩:=Mv.mp z
    obtain ⟨i,B⟩:=Mt.mp p
    have r:i<g.length:=by have:=(Lx.mp B).1;have:=h.l2;omega
    obtain ⟨v',o2,_,E,a',af,aj,am,an,t,as,e1,e2,e3,e4,e5,e6,e7,e8⟩:=h.get i g[i]<|Ly r
    rw [B] at E
    cases E
    rw [e2] at f
    rcases LK.mp f with w|w
    .rw [w] at d;rw [(ax e3).2] at d;cases d
    .have w:A=t:=by simpa using w
     rw [w,(ax e7).2] at d;cases d
   .exact r1 z
 .rw [q8]
  exact ⟨⟨[],(ax q7).2,LF _,⟨λ_=>rfl,λ_=>rfl⟩,λa0 hk=>⟨λ_=>rfl,λv u=>by simp [bm] at u⟩,λ_ _ _ _ _ u=>by simp [bm] at u⟩,(λl hl=>nomatch hl),(λz=>nomatch z)⟩
def jm (a:List D)(B:List Str):List (Str×Nat):=((ak [] a).filter λb=>decide (b∈B)).map λb=>(b,B.idxOf b)
def og (a:List D)(B:List Str)(W:List (List D)):be:=⟨a,jm a B,(W.filter λg=>cp g (ak B a)).map λg=>(g,cX g (ak B a)),[],-1⟩
def cL:List (List D)->List Str->List (List D)->List be
 |[],_,_=>[]
 |a::r,B,W=>og a B W::cL r (ak B a) (W.filter λg=> !cp g (ak B a))
def K9 (B:ZY)(n:Str)(h:n∉B):cg (dS B) (Sum.inr n) (V.int (B.length:Nat))=dS (B++[n]):=by
 have a:=slot_get B n
 rw [LG h] at a
 unfold cg
 rw [jM,a]
 show dS B++_=_
 unfold dS
 rw [List.zipIdx_append,Me,MY]
 rfl
def CO (B:ZY):(dS B).length=B.length:=by unfold dS;rw [LA,Px]
def DY{E:Ends}{i:Nat}(l:ap M H)(y:ay (but H M) f w)(s:p∈M)(e:f[i]?=some (some (.ref p)))(t:H p=some (.dK (dS B)))(z:B.length<sizeLine)(h:ae x (but H M) f (.str n))
  (k:∀g,(∀b o,b≠p->H b=some o->g b=some o)->ap M g->g p=some (.dK (dS (if n∈B then B else B++[n])))->ay (but g M) f w->E.nx f g):ln (u6 (aW i) x (cD pQ (bo (aW i) bA))) E f H:=by
 refine ⟨.ref p,e,p,rfl,.inl ⟨_,.inl t⟩,h M H (ab.refl _) l _ λv m c A=>⟨.ref p,e,.inl ⟨p,dS B,rfl,.inl<|c _ _ t,?_⟩⟩⟩
 have a:=c _ _ t
 have u:=(fP (d:=.str n) rfl A).2
 have r:=slot_get B n
 by_cases j:n∈B
 .rw [LJ j] at r
  refine ⟨_,m,.inl ⟨by rw [u,<-r];exact cR.k a,rfl,_,a⟩,k m (λb o _ q=>c _ _ q) (l.same c) (by rw [LJ j];exact a)<|y.same c⟩
 .rw [LG j] at r
  refine ⟨_,_,.inr ⟨by rw [u,<-r];exact cR.k a,rfl,by rw [u];exact gt.k (k:=Sum.inr n) a (by rw [CO];exact z)⟩,?_⟩
  have C:but (upd m p (.dK<|cg (dS B) (Sum.inr n) (.int ((dS B).length:Nat)))) M=but m M:=dD s
  refine k _ (λb o G q=>by rw [aA G];exact c _ _ q) (l.same c).upd ?_ (by rw [C];exact y.same c)
  rw [aR,CO,K9 B n j,LG j]
section
variable {H:Hp}{M:List Addr}{b p:Addr}{σ:St}{δ:Dn}{kvs:List (aK×V)}
def xD:ab (but H (b::p::M)) (but H (b::M)):=dU λx a=>by
 rcases LK.mp a with z|z
 .rw [z];exact Lz
 .exact Lv _<|Lv _ z
def DH:ab (but H (p::b::M)) (but H (b::p::M)):=dU λx a=>by
 rcases LK.mp a with z|z
 .rw [z];exact Lv _ Lz
 .rcases LK.mp z with z|z
  .rw [z];exact Lz
  .exact Lv _<|Lv _ z
def AL (h:ay (but H (b::M)) σ δ)(a:H p=some (.dK kvs)):ay (but H (b::p::M)) σ δ:=(h.eW a rfl).mono DH
end
def FV{a L:ZY}{k:Nat}(f:L.Nodup)(h:L[k]?=some n):(if n∈a++(L.take k).filter (λx=> !decide (x∈a)) then a++(L.take k).filter (λx=> !decide (x∈a)) else a++(L.take k).filter (λx=> !decide (x∈a))++[n])=a++(L.take (k+1)).filter (λx=> !decide (x∈a)):=by
 have d:n∉L.take k:=λz=>by
  obtain ⟨i,e⟩:=Mt.mp z
  have b:i<k:=by
   have:=(Lx.mp e).1
   rw [Mr] at this
   omega
  rw [Op b] at e
  exact Mf b<|xG f e h
 rw [Mm,h,MX]
 by_cases c:n∈a
 .rw [LJ<|LL _ c]
  simp [c]
 .rw [LG (by
   intro z
   rcases LY.mp z with z|z
   .exact c z
   .exact d (LP.mp z).1),Mw]
  simp [c]
def c9 (g:List D):Bool:= !((ak [] g).map D.str).isEmpty
def pJ (as:List (List D)):Prop:=(∀a∈as,dz a)/\as.length<=100
def eJ (as:List (List D)):List be:=cL (as.filter λa=> !aE a) [] ((as.filter aE).filter c9)
def Aq (C:Addr):Sp:=λvs H Q _=>∃M as v0,vs=[v0]/\ap M H/\al (but H M) v0 (cf as)/\pJ as/\
 ∀p us oss H',ab H H'->but H' M p=some (.lst us)->gF C (but H' M) us oss (eJ as)->(∀os∈oss,∀x∈os,H x=none)->H p=none->Q (.ref p) H'
def ul (q:D->Bool)(r:ZZ->Bool)(F:D->D)(c:ZZ->D)(b:ZW)(h:∀a∈b,q (.tup a)=r a)(d:∀a∈b,F (.tup a)=c a):((b.map D.tup).filter q).map F=(b.filter r).map c:=by
 rw [Nl,Mn]
 have e:b.filter (q∘D.tup)=b.filter r:=Nf h
 rw [e]
 exact Md λa f=>d a (LP.mp f).1
def rR (r:List D->Bool):D->Bool
 |.tup a=>r a
 |_=>false
def xV (r:List D->D):D->D
 |.tup a=>r a
 |_=>.av
end FL
namespace FL
open PySem L2
structure bR where
 steps:List be
 fB:Bool
 taken:Nat
 fresh:Nat
 last:Int
abbrev iT (sl:Addr)(b:Bool)(t f l:Int):List (Str×V):=[("steps",.ref sl),("is_barred",.bl b),("taken_in",.int t),("fresh",.int f),("last_fresh_step",.int l)]
structure kO (K:PySem.W.Frag)(C:Addr):Prop where
 cl:dm K C
 nS:bO K C "steps"
 nB:bO K C "is_barred"
 nT:bO K C "taken_in"
 nF:bO K C "fresh"
 nL:bO K C "last_fresh_step"
def gM (C CL:Addr)(H:Hp)(Z:List Addr)(a:Addr)(oss:List (List Addr))(lm:bR):Prop:=∃dx sl us,H a=some (.ins CL dx (iT sl lm.fB lm.taken lm.fresh lm.last))/\but H Z sl=some (.lst us)/\d6 C H Z us oss lm.steps/\a∈Z/\∀os∈oss,a∉os
def iO (C CL:Addr)(G:Hp)(v:V)(lm:bR):Prop:=∃a dx sl us,v=.ref a/\G a=some (.ins CL dx (iT sl lm.fB lm.taken lm.fresh lm.last))/\G sl=some (.lst us)/\qp C G us lm.steps
theorem iO.mono(h:iO C b G v d)(e:ab G c):iO C b c v d:=by
 obtain ⟨a,f,g,i,j,k,l,m⟩:=h
 exact ⟨a,f,g,i,j,e _ _ k,e _ _ l,m.mono e⟩
theorem gM.rep{M:ZX}(h:gM C c H Z a b d)(e:∀x∈M,x∈Z)(f:a∉M)(g:∀os∈b,∀x∈os,x∉M):iO C c (but H M) (.ref a) d:=by
 obtain ⟨i,j,k,l,m,n,o,p⟩:=h
 exact ⟨a,i,j,k,rfl,by rw [bh f];exact l,(dU e) _ _ m,n.rep e g⟩
def lD (as:List (List D)):Bool:= !((as.filter aE).filter λg=> !c9 g).all holdsA
def bM (as:List (List D)):bR:=⟨eJ as,lD as,0,0,-1⟩
def sX (as:List (List D)):Prop:=∀g∈as,aE g=true->∃r a b,g=[.str r,a,b]
def vD (C CL:Addr):Sp:=λvs H Q _=>∃M as x dx v1,vs=[.ref x,v1]/\H x=some (.ins CL dx [])/\ap M H/\al (but H M) v1 (cf as)/\pJ as/\sX as/\
 ∀oss H',(∀b u,b≠x->H b=some u->H' b=some u)->(∀os∈oss,∀y∈os,H y=none)->ap (oss.flatten++x::M) H'->gM C CL H' (oss.flatten++x::M) x oss (bM as)->Q .av H'
def ca (s:be)(n:Nat)(facts:List (List D)):be:=(facts.zipIdx n).foldl (λs p=>cF s p.2 p.1) s
def DV {s:be}{n j:Nat}{a:ZW}{g:ZZ}(h:a[j]?=some g):ca s n (a.take (j+1))=cF (ca s n (a.take j)) (n+j) g:=by
 have c:j<a.length:=(Lx.mp h).1
 unfold ca
 rw [Mm,h,List.zipIdx_append,MS]
 have b:(a.take j).length=j:=by rw [Mr];omega
 rw [b]
 rfl
def DK (s:be)(n:Nat)(g:ZZ):(cF s n g).of.length<=s.of.length+1:=by
 unfold cF
 split
 .simp
 .omega
def D3 (s:be)(n:Nat)(g:ZZ):(cF s n g).cE=s.cE:=by
 unfold cF
 split<;>rfl
theorem uE (n:Nat)(s:be):∀(l:List (ZZ×Nat)) (s:be),((l.foldl (λs p=>cF s p.2 p.1) s).of.length<=s.of.length+l.length)/\(l.foldl (λs p=>cF s p.2 p.1) s).cE=s.cE
 |[],s=>⟨LF _,rfl⟩
 |p::r,s=>by
  obtain ⟨b,a⟩:=uE n s r<|cF s p.2 p.1
  have c:=DK s p.2 p.1
  refine ⟨?_,?_⟩
  .show (r.foldl _<|cF s p.2 p.1).of.length<=_
   rw [Mq]
   omega
  .show (r.foldl _<|cF s p.2 p.1).cE=_
   rw [a,D3]
def ze (s:be)(n:Nat)(a:ZW):(ca s n a).of.length<=s.of.length+a.length:=by
 have:=(uE n s (a.zipIdx n) s).1
 rw [Px] at this
 exact this
def Dj (s:be)(n:Nat)(a:ZW):(ca s n a).cE=s.cE:=(uE n s (a.zipIdx n) s).2
def kj (ss:List be)(n:Nat):Int:=fh (((List.range ss.length).filter λj=>decide ((n:Int)<=(ss.getD j ⟨[],[],[],[],-1⟩).newest)).map λj=>((j:Nat):Int)) (-1)
def bT (lm:bR)(facts:List (List D)):bR:=⟨lm.steps.map λs=>ca s lm.taken facts,lm.fB,lm.taken+facts.length,lm.taken,kj (lm.steps.map λs=>ca s lm.taken facts) lm.taken⟩
def AJ (C CL:Addr):Sp:=λvs H Q _=>∃Z oss lm facts a v1,vs=[.ref a,v1]/\ap Z H/\gM C CL H Z a oss lm/\al (but H Z) v1 (.lst (facts.map D.tup))/\(∀g∈facts,i6 g)/\(∀s∈lm.steps,dz s.cE/\s.of.length+facts.length<1000)/\lm.steps.length<=100/\lm.taken+facts.length<2^60/\
 ∀oss' H',(∀os∈oss',∀x∈os,(∃o∈oss,x∈o)\/H x=none)->(∀b u,b≠a->(∀os∈oss,b∉os)->H b=some u->H' b=some u)->ap (oss'.flatten++Z) H'->gM C CL H' (oss'.flatten++Z) a oss' (bT lm facts)->Q .av H'
structure iJ (C:Addr)(us:List V)(H2:Hp)(Z2:List Addr)(oss:List (List Addr))(H':Hp)(Z':List Addr)(oss':List (List Addr))(ss':List be):Prop where
 st:d6 C H' Z' us oss' ss'
 own:∀os∈oss',∀x∈os,(∃o∈oss,x∈o)\/H2 x=none
 keep:∀b u,(∀os∈oss,b∉os)->H2 b=some u->H' b=some u
 live:ap Z' H'
 sub:∀x∈Z2,x∈Z'
 sup:∀x∈Z',x∈Z2\/∃os∈oss',x∈os
section
variable {C:Addr}{us:List V}{H2 H' H'':Hp}{Z2 Z':List Addr}{oss oss':List (List Addr)}{ss':List be}
def iJ.same (h:iJ C us H2 Z2 oss H' Z' oss' ss')(j:∀os∈oss,∀x∈os,x∈Z2):ab (but H2 Z2) (but H' Z'):=λb u e=>by
 obtain ⟨g,a⟩:=ax e
 have i:∀os∈oss,b∉os:=λos c z=>g<|j os c b z
 rw [bh]
 .exact h.keep b u i a
 .intro z
  rcases h.sup b z with w|⟨os,c,w⟩
  .exact g w
  .rcases h.own os c b w with ⟨o,d,f⟩|f
   .exact i o d f
   .rw [f] at a;cases a
theorem iJ.mono (h:iJ C us H2 Z2 oss H' Z' oss' ss')(e:ab H' H''):iJ C us H2 Z2 oss H'' Z' oss' ss':=⟨h.st.mono e,h.own,λb u a q=>e _ _<|h.keep b u a q,h.live.same e,h.sub,h.sup⟩
theorem iJ.put{j:Nat}{os c:ZX}(h:iJ C us H2 Z2 oss H' Z' oss' ss')(G:ss'[j]?=some s)(H:us[j]?=some (.ref a))(m:oss'[j]?=some os)(r:∀x∈os,x∈Z')
  (n:∀x∈c,x∈os\/H' x=none) (t:∀x∈os,x∈c) (k:∀b u,b∉os->H' b=some u->H'' b=some u) (l:ap (c++Z') H'') (A:gG C H'' (c++Z') a c B):iJ C us H2 Z2 oss H'' (c++Z') (oss'.set j c) (ss'.set j B):=by
 have p:j<oss'.length:=(Lx.mp m).1
 have mem_set:∀{o:ZX},o∈oss'.set j c->o=c\/o∈oss':=λ{o} q=>by
  rcases Ny q with z|z
  .exact .inr z
  .exact .inl z
 have g:∀{x:Addr},H' x=none->(∃o∈oss,x∈o)\/H2 x=none:=λ{x} e=>by
  by_cases z:∃o∈oss,x∈o
  .exact .inl z
  .cases q:H2 x with
   |none=>exact .inr rfl
   |some u=>
    have:=h.keep x u (λo d f=>z ⟨o,d,f⟩) q
    rw [e] at this;cases this
 refine ⟨h.st.put h.live G H m n k r A,λo I x f=>?_,λb u E q=>?_,l,λx f=>LH _<|h.sub x f,λx f=>?_⟩
 .rcases mem_set I with z|z
  .subst z
   rcases n x f with w|w
   .exact h.own os (LD m) x w
   .exact g w
  .exact h.own o z x f
 .have v:=h.keep b u E q
  refine k b u (λz=>?_) v
  rcases h.own os (LD m) b z with ⟨o,d,w⟩|w
  .exact E o d w
  .rw [q] at w;cases w
 .rcases LY.mp f with z|z
  .exact .inr ⟨c,Mt.mpr ⟨j,LM p⟩,z⟩
  .rcases h.sup x z with w|⟨o,d,w⟩
   .exact .inl w
   .obtain ⟨i,y⟩:=Mt.mp d
    by_cases e:j=i
    .subst e
     rw [m] at y
     cases y
     exact .inr ⟨c,Mt.mpr ⟨j,LM p⟩,t x w⟩
    .exact .inr ⟨o,Mt.mpr ⟨i,by rw [LB e];exact y⟩,w⟩
end
end FL
namespace FL
open PySem L2
def ef (lm:bR):List aH:=if (lm.fB||(decide (lm.last<0)&&decide ((0:Int)<lm.fresh)))=true then [] else if (lm.steps.all λs=>decide ((0:Int)<=s.newest))=true then [([],[])] else []
def gL (lm:bR)(w:aH):Int:=if (decide (((w.2.length:Nat):Int)=lm.last)&&decide (fh (w.2.map λn=>((n:Nat):Int)) (-1)<lm.fresh))=true then lm.fresh else 0
def ck (lm:bR)(w:aH):List aH:=match lm.steps[w.2.length]? with
 |some st=>fg st w (gL lm w)
 |none=>[]
def cJ (lm:bR):Nat->aH->List aH
 |0,w=>[w]
 |n+1,w=>(ck lm w).reverse.flatMap (cJ lm n)
def dF (lm:bR):Nat->aH->Nat
 |0,_=>1
 |n+1,w=>1+((ck lm w).map (dF lm n)).sum
def Ad (a:bR):∀(n:Nat) (w:aH),1<=dF a n w
 |0,_=>LF _
 |n+1,w=>MF _ _
def bP (lm:bR)(w:aH):Nat:=lm.steps.length-w.2.length
def kD(h:x∈ck lm w):x.2.length=w.2.length+1:=by
 unfold ck at h
 split at h
 .unfold fg at h
  obtain ⟨o,a,rfl⟩:=LS.mp (LP.mp h).1
  show (w.2++[o.2.1]).length=_
  rw [LR]
  rfl
 .cases h
def Kt {a:bR}{w:aH}(h:w.2.length<a.steps.length):cJ a (bP a w) w=(ck a w).reverse.flatMap λx=>cJ a (bP a x) x:=by
 have e:bP a w=bP a w-1+1:=by unfold bP;omega
 rw [e]
 show (ck a w).reverse.flatMap (cJ a<|bP a w-1)=_
 have:∀(L:List aH),(∀x∈L,x.2.length=w.2.length+1)->L.flatMap (cJ a<|bP a w-1)=L.flatMap λx=>cJ a (bP a x) x:=by
  intro L
  induction L with
  |nil=>exact λ_=>rfl
  |cons x r c=>
   intro b
   have d:bP a x=bP a w-1:=by have:=b x Lz;unfold bP;omega
   rw [MI,MI,c λy f=>b y<|Lv _ f,d]
 exact this _ λx b=>kD<|Nh.mp b
def D9 {a:bR}{w:aH}(h:w.2.length<a.steps.length):dF a (bP a w) w=1+((ck a w).map λx=>dF a (bP a x) x).sum:=by
 have e:bP a w=bP a w-1+1:=by unfold bP;omega
 rw [e]
 show 1+((ck a w).map<|dF a<|bP a w-1).sum=_
 congr 2
 exact Md λx b=>by
  have c:bP a x=bP a w-1:=by have:=kD b;unfold bP;omega
  rw [c]
theorem xn (a:bR):∀(l:List aH),l.length<=(l.map λw=>dF a (bP a w) w).sum
 |[]=>LF _
 |w::r=>by
  rw [Mu,PQ,Mq]
  have:=xn a r
  have:=Ad a (bP a w) w
  omega
structure jQ (sz:Nat->Nat)(ss:List be):Prop where
 zero:sz 0=0
 st:∀k s,ss[k]?=some s->jZ (sz k) s/\∀o∈s.of,sz k+o.2.2.length=sz (k+1)
 le:∀k,sz k<=500
 len:ss.length<=100
structure GoodW (sz:Nat->Nat)(ss:List be)(w:aH):Prop where
 one:w.1.length=sz w.2.length
 two:w.2.length<=ss.length
 ok:jn w.1
def GoodW.nil(h:jQ a b):GoodW a b ([],[]):=⟨h.zero.symm,Mb _,λp c=>nomatch c⟩
def A2{e:bR}(h:jQ d e.steps)(g:GoodW d e.steps w):∀x∈ck e w,GoodW d e.steps x:=λx a=>by
 have b:=kD a
 unfold ck at a
 split at a
 .rename_i s i
  unfold fg at a
  obtain ⟨o,j,rfl⟩:=LS.mp (LP.mp a).1
  have f:o∈(e9 s.of<|fQ w.1<|gz s).reverse:=(N7 _).subset j
  have c:o∈s.of:=(LP.mp<|Nh.mp f).1
  obtain ⟨k,l⟩:=h.st _ s i
  have m:=(Lx.mp i).1
  refine ⟨?_,?_,λp n=>?_⟩
  .show (w.1++o.2.2).length=d (w.2++[o.2.1]).length
   have b:(w.2++[o.2.1]).length=w.2.length+1:=b
   rw [LR,g.one,l o c,b]
  .have b:(fI w o).2.length=w.2.length+1:=b
   rw [b];omega
  .rcases LY.mp n with z|z
   .exact g.ok p z
   .exact (k.of o c).1 p z
 .cases a
def CD (C CL:Addr):Sp:=λvs H Q _=>∃M lm v0,vs=[v0]/\ap M H/\iO C CL (but H M) v0 lm/\lm.steps.length<=100/\∀p us H',ab H H'->H p=none->H' p=some (.lst us)->aC (but H' (p::M)) us ((ef lm).map cZ)->Q (.ref p) H'
def vX (C CL:Addr):Sp:=λvs H Q _=>∃M lm w0 v0 v1,vs=[v0,v1]/\ap M H/\iO C CL (but H M) v0 lm/\al (but H M) v1 (cZ w0)/\∀H',ab H H'->Q (.bl (decide (w0.2.length=lm.steps.length))) H'
def wF (C CL:Addr):Sp:=λvs H Q _=>∃M lm w0 v0 v1 sz,vs=[v0,v1]/\ap M H/\iO C CL (but H M) v0 lm/\al (but H M) v1 (cZ w0)/\jQ sz lm.steps/\GoodW sz lm.steps w0/\w0.2.length<lm.steps.length/\∀v H',ab H H'->al (but H' M) v (.lst ((ck lm w0).map cZ))->Q v H'
def gj (as facts:List (List D)):List aH:=(ef (bT (bM as) facts)).flatMap λw=>cJ (bT (bM as) facts) (bP (bT (bM as) facts) w) w
section
variable {K:PySem.W.Frag}{G:Hp}{σ:St}{te:TE}{a:Addr}{us:List V}
def DW (h:md te G σ a)(d:G a=some (.lst us)):ae (cD (λe H Q=>∃p b,e=[.ref p]/\(aP K H p b\/bq K H p b)/\Q (.int b.length) H) (bo te bA)) G σ (.int (us.length:Nat)):=
 λM H s l Q k=>h M H s l _ λf c=>⟨a,us,rfl,.inl<|aP.of<|c _ _ (ax<|s _ _ d).2,k _ f c (.int _)⟩
def Br{st:be}{d:aH}{lo:Int}(h:md te G σ a)(A:G a=some (.lst us))(B:ae (aW i) G σ (.int (m:Nat)))(E:us[m]?=some v)(j:ki C G v st)(I:jn d.1)(o:d.1.length<=500)(p:d.2.length<=500)(J:jZ d.1.length st)(L:ae (aW n) G σ (cZ d))(r:ae (aW q) G σ (.int lo)):
  ae (lq C "carry_on" (vI C) [] L2.E0 (bY (gf K) te (aW i)) (bo (aW n) (bo (aW q) bA))) G σ (.lst ((fg st d lo).map cZ)):=λM H s l Q k=>by
 refine h M H s l _ λN f=>B M N (s.trans<|f.but M) (l.same f) _ λy O w T=>.inl ⟨a,us,_,v,rfl,T.eC,aP.of<|w _ _<|f _ _ (ax<|s _ _ A).2,qK E,?_⟩
 have b:=f.trans w
 have c:=j.mono<|s.trans<|b.but M
 obtain ⟨x,t,w1,sa,w3,U,oS,rfl,Y,g2,g3,g4,g5⟩:=id c
 refine ⟨x,t,_,rfl,(ax Y).2,rfl,L M O (s.trans<|b.but M) (l.same b) _ λu H2 e ru=>r M H2 (s.trans<|(b.trans e).but M) (l.same<|b.trans e) _ λz H3 g rz=>?_⟩
 have ez:=rz.eC
 subst ez
 exact ⟨M,st,d,lo,.ref x,u,rfl,l.same<|b.trans<|e.trans g,c.mono<|(e.trans g).but M,ru.mono<|g.but M,I,o,p,J,λv' H4 s4 r4=>k v' H4 (b.trans<|e.trans<|g.trans s4) r4⟩
def G5 {C CL:Addr}{i j:Nat}{lm:bR}{w0:aH}(e:σ[i]?=some (some (.ref a)))(hL:iO C CL G (.ref a) lm)(h:ae (aW j) G σ (cZ w0)):br (tB (lq CL "is_whole" (vX C CL) [] L2.E0 (aW i) (bo (aW j) bA))) G σ (decide (w0.2.length=lm.steps.length)):=λM H s l Q k=>by
 obtain ⟨a',dx',sl,us,e1,g1,g2,g3⟩:=id hL
 cases e1
 refine ⟨.ref a,e,a,dx',_,rfl,(ax (s _ _ g1)).2,rfl,h M H s l _ λv H1 s1 r1=>?_⟩
 exact ⟨M,lm,w0,.ref a,v,rfl,l.same s1,hL.mono (s.trans (s1.but M)),r1,λH2 s2=>⟨_,rfl,k H2 (s1.trans s2)⟩⟩
def Lk {C CL:Addr}{i j:Nat}{lm:bR}{w0:aH}{sz:Nat->Nat}(e:σ[i]?=some (some (.ref a)))(hL:iO C CL G (.ref a) lm)(hR:jQ sz lm.steps)(hW:GoodW sz lm.steps w0)(hlt:w0.2.length<lm.steps.length)(h:ae (aW j) G σ (cZ w0)):ae (lq CL "carried_on" (wF C CL) [] L2.E0 (aW i) (bo (aW j) bA)) G σ (.lst ((ck lm w0).map cZ)):=λM H s l Q k=>by
 obtain ⟨a',dx',sl,us,e1,g1,g2,g3⟩:=id hL
 cases e1
 refine ⟨.ref a,e,a,dx',_,rfl,(ax (s _ _ g1)).2,rfl,h M H s l _ λv H1 s1 r1=>?_⟩
 exact ⟨M,lm,w0,.ref a,v,sz,rfl,l.same s1,hL.mono (s.trans (s1.but M)),r1,hR,hW,hlt,λv2 H2 s2 r2=>k v2 H2 (s1.trans s2) r2⟩
def gR(s:ab H b)(h:b p=none):H p=none:=by
 cases q:H p with
 |none=>rfl
 |some u=>rw [s _ _ q] at h;cases h
def uA{E:Ends}(l:ap M H)(h:d8 t (but H M) σ ds)(g:ds.length<=sizeLine)(k:∀p b c,ab H c->H p=none->c p=some (.lst b)->aC (but c (p::M)) b ds->E.rt (.ref p) c):o0 (jF t) E σ H:=
 h M H (ab.refl _) l _ λb i e f=>⟨by rw [f.length];exact g,λp d=>k p b _ (e.trans<|dr d _) (by
  cases q:H p with
  |none=>rfl
  |some u=>rw [e _ _ q] at d;cases d) aR<|sk d f⟩
end
theorem xq:∀(b:ZW) (B:ZY) (W:ZW) (s:be),s∈cL b B W->s.cE∈b/\s.of=[]/\s.newest=-1
 |[],_,_,s,h=>by cases h
 |a::r,B,W,s,h=>by
  rcases LK.mp h with z|z
  .subst z;exact ⟨Lz,rfl,rfl⟩
  .obtain ⟨c,d,e⟩:=xq r _ _ s z
   exact ⟨Lv _ c,d,e⟩
theorem lM:∀(b:ZW) (B:ZY) (W:ZW),(cL b B W).length=b.length
 |[],_,_=>rfl
 |a::r,B,W=>MA (· +1)<|lM r _ _
end FL
namespace O5
open PySem L2 FL
structure js where
 shared:List Nat
 of:List dq
 gs:List (List D×List Nat)
structure jZ (n:Nat)(st:js):Prop where
 sh:∀i∈st.shared,i<n
 shl:st.shared.length<=100
 of:∀o∈st.of,jn o.2.2/\o.2.2.length<=100/\∀g∈st.gs,uk (n+o.2.2.length) g
 xB:st.of.length<=200
def ib (st:js)(w:aH):List aH:=(np st.of (fQ w.1 st.shared) w).filter λx=>eX x.1 st.gs
def cL (facts:List (List D)):List (List D)->List Str->List (List D)->List js
 |[],_,_=>[]
 |a::r,B,W=>⟨cX a B,el a facts B,(W.filter λg=>cp g (ak B a)).map λg=>(g,cX g (ak B a))⟩::cL facts r (ak B a) (W.filter λg=> !cp g (ak B a))
def eJ (facts as:List (List D)):List js:=cL facts (as.filter λa=> !aE a) [] ((as.filter aE).filter c9)
def hJ:List js->aH->List aH
 |[],w=>[w]
 |s::r,w=>(ib s w).flatMap (hJ r)
def nodes:List js->aH->Nat
 |[],_=>1
 |s::r,w=>1+((ib s w).map (nodes r)).sum
def rh (facts as:List (List D)):List aH:=if (((as.filter aE).filter λg=> !c9 g).all holdsA&&(eJ facts as).all λs=> !s.of.isEmpty)=true then hJ (eJ facts as) ([],[]) else []
structure jQ (sz:Nat->Nat)(ss:List js):Prop where
 zero:sz 0=0
 st:∀k s,ss[k]?=some s->jZ (sz k) s/\∀o∈s.of,sz k+o.2.2.length=sz (k+1)
 le:∀k,sz k<=500
 len:ss.length<=100
def Hi (A:ZZ)(a:ZW)(b:ZY):(el A a b).length<=a.length:=by
 unfold el
 have:=List.length_filterMap_le (λp:ZZ×Nat=>(bE A p.1 []).map λst=>(dv b st,(p.2,restOf b st))) a.zipIdx
 rw [Px] at this
 exact this
def EI{V:Str->D}{B:ZY}(h:b∈B)(d:Str×D):(ar V B).getD (B.idxOf b) d=(b,V b):=by
 have a:=Pm h
 unfold ar
 rw [List.getD,LO,Ly a]
 show (B[B.idxOf b],V B[B.idxOf b])=(b,V b)
 rw [OG a]
def B7 (V:Str->D)(B:ZY)(g:ZZ):eh (ar V B) (cX g B)=ar V ((ak [] g).filter λb=>decide (b∈B)):=by
 unfold eh cX
 rw [Mn]
 unfold ar
 refine Md λb a=>?_
 have:=LW (LP.mp a).2
 exact EI this _
def zP (V:Str->D)(B:ZY)(a:ZZ):fQ (ar V B) (cX a B)=((ak [] a).filter λb=>decide (b∈B)).map V:=by
 unfold fQ
 rw [B7]
 unfold ar
 rw [Mn]
 rfl
def Ce(h:cp g B=true):(ak [] g).filter (λb=>decide (b∈B))=ak [] g:=by
 have:=LW h
 unfold cX at this
 rw [LA] at this
 exact MG.mpr<|List.length_filter_eq_length_iff.mp this
def wI{V:Str->D}(a:cr B)(h:∀b∈ak [] g,b∈B):g.map (cb (ar V B))=g.map (bb V):=
 Md λx c=>kL a λe=>h _<|ma c e
def io (W:List (List D))(B:List Str)(S:aO):Bool:=(W.filter λg=>cp g B).all λg=>holdsA (g.map (cb S))
def Il{V:Str->D}(W:ZW)(f:cr B):eX (ar V B) ((W.filter λg=>cp g B).map λg=>(g,cX g B))=io W B (ar V B):=by
 unfold eX io
 rw [Pk]
 have e:∀L:ZW,(∀g∈L,cp g B=true)->L.all ((λg=>holdsA<|g.1.map<|cb<|eh (ar V B) g.2)∘λg=>(g,cX g B))=L.all λg=>holdsA (g.map<|cb<|ar V B):=by
  intro L
  induction L with
  |nil=>exact λ_=>rfl
  |cons g r i=>
   intro h
   rw [Og,Og,i λx j=>h x<|Lv _ j]
   congr 1
   have c:=Ce<|h g Lz
   show holdsA (g.map<|cb<|eh (ar V B)<|cX g B)=holdsA (g.map<|cb<|ar V B)
   have a:∀b∈ak [] g,b∈B:=λb d=>by
    rw [<-c] at d
    exact LW (LP.mp d).2
   rw [B7,c,wI (iS eM) λb d=>d,wI f a]
 exact e _ λg c=>(LP.mp c).2
def ie:List (List D)->List Str->List (List D)->List jr
 |[],_,_=>[]
 |a::r,B,W=>⟨a,io W (ak B a)⟩::ie r (ak B a) (W.filter λg=> !cp g (ak B a))
def wO{V:Str->D}(e:cr B)(f:x∈ext b a (ar V B,d)):∃c,x.1=ar c (ak B a):=by
 obtain ⟨S,h⟩:=x
 obtain ⟨i,g,_,j,_⟩:=nn.mp f
 obtain ⟨c,_,k,_⟩:=iB e j
 exact ⟨c,k⟩
theorem Cp (b:ZW):∀(d:ZW) (B:ZY) (W:ZW) (V:Str->D) (f:List Nat),cr B->(∀a∈d,jt a)->hJ (cL b d B W) (ar V B,f)=fq b (ie d B W) [(ar V B,f)]
 |[],B,W,V,f,_,_=>rfl
 |a::r,B,W,V,f,k,p=>by
  have i:=iS (l:=a) k
  have q:ib ⟨cX a B,el a b B,(W.filter λg=>cp g<|ak B a).map λg=>(g,cX g<|ak B a)⟩ (ar V B,f)=nh b ⟨a,io W<|ak B a⟩ (ar V B,f):=by
   unfold ib nh
   show (np (el a b B) (fQ (ar V B)<|cX a B) (ar V B,f)).filter _=(ext b a (ar V B,f)).filter _
   rw [zP,vn k<|p a Lz]
   refine Nf λx m=>?_
   obtain ⟨j,e⟩:=wO k m
   rw [e]
   exact Il W i
  show (ib ⟨cX a B,el a b B,_⟩ (ar V B,f)).flatMap (hJ<|cL b r (ak B a) _)=fq b (ie r (ak B a) _) ([(ar V B,f)].flatMap<|nh b ⟨a,io W<|ak B a⟩)
  rw [q,M9,zU]
  have n:∀L:List aH,(∀x∈L,∃j,x.1=ar j (ak B a))->L.flatMap (hJ<|cL b r (ak B a)<|W.filter λg=> !cp g (ak B a))=L.flatMap λw=>fq b (ie r (ak B a)<|W.filter λg=> !cp g (ak B a)) [w]:=by
   intro L
   induction L with
   |nil=>exact λ_=>rfl
   |cons x t s=>
    intro h
    obtain ⟨j,e⟩:=h x Lz
    obtain ⟨S,o⟩:=x
    have e:S=ar j (ak B a):=e
    subst e
    rw [MI,MI,s λy u=>h y<|Lv _ u,Cp b r (ak B a) _ j o i λc v=>p c<|Lv _ v]
  exact n _ λx m=>wO k (LP.mp m).1
def gv (gs:List (List D))(S:aO):Bool:=gs.all λg=>holdsA (g.map (cb S))
def wQ:cp g B=true↔∀b∈ak [] g,b∈B:=by
 constructor
 .intro h b a
  rw [<-Ce h] at a
  exact LW (LP.mp a).2
 .intro h
  unfold cp cX
  rw [LA,MG.mpr λb a=>LV<|h b a]
  exact LV rfl
theorem wM(p f:a->Bool):∀l:List a,l.all f=((l.filter p).all f&&(l.filter λx=> !p x).all f)
 |[]=>rfl
 |x::r=>by
  rw [Og,wM p f r,Nt,Nt]
  by_cases h:p x=true
  .rw [LJ h,LG (by simp [h]),Og,Bool.and_assoc]
  .have b:p x=false:=by simpa using h
   rw [LG h,LJ (by simp [b]),Og]
   cases f x<;>simp
theorem zL (S:aO):∀(c:ZW) (B:ZY) (W:ZW),(∀g∈W,cp g B=false)->(∀g∈W,∀b∈ak [] g,b∈aT B c)->((ie c B W).all λs=>s.ok S)=gv W S
 |[],B,W,f,d=>by
  have:W=[]:=by
   cases W with
   |nil=>rfl
   |cons g r=>
    have a:=f g Lz
    have b:=wQ.mpr<|d g Lz
    rw [show cp g B=true from b] at a;cases a
  rw [this];rfl
 |a::r,B,W,f,d=>by
  show (io W (ak B a) S&&(ie r (ak B a) _).all λs=>s.ok S)=_
  rw [zL S r (ak B a) _ (λg e=>by simpa using (LP.mp e).2) λg e=>d g (LP.mp e).1]
  unfold gv io
  exact (wM (λg=>cp g<|ak B a) _ W).symm
theorem uN:∀(b:ZW) (B:ZY) (W:ZW),(ie b B W).map (·.atom)=b
 |[],_,_=>rfl
 |a::r,B,W=>by
  show a::(ie r _ _).map (·.atom)=a::r
  rw [uN r]
theorem zg:∀(b:ZW) (B:ZY) (W:ZW) (i:Nat) (s:jr),(ie b B W)[i]?=some s->∃c,s.ok=io c (aT B (b.take (i+1)))
 |[],_,_,i,s,h=>by simp [ie] at h
 |a::r,B,W,0,s,h=>by
  have h:jr.mk a (io W<|ak B a)=s:=LQ h
  refine ⟨W,?_⟩
  rw [<-h]
  rfl
 |a::r,B,W,i+1,s,h=>by
  have h:(ie r (ak B a)<|W.filter λg=> !cp g (ak B a))[i]?=some s:=h
  obtain ⟨c,e⟩:=zg r _ _ i s h
  exact ⟨c,by rw [e];rfl⟩
def IM(V a:Str->D)(C:ZY)(i:cr (B++C))(h:∀b∈B,a b=V b):io W B (ar a (B++C))=io W B (ar V B):=by
 unfold io
 have c:∀L:ZW,(∀g∈L,cp g B=true)->L.all (λg=>holdsA<|g.map<|cb<|ar a<|B++C)=L.all λg=>holdsA (g.map<|cb<|ar V B):=by
  intro L
  induction L with
  |nil=>exact λ_=>rfl
  |cons g r l=>
   intro j
   rw [Og,Og,l λx d=>j x<|Lv _ d]
   congr 2
   have m:=wQ.mp<|j g Lz
   refine Md λx d=>?_
   by_cases e:aJ x=true
   .have f:=m _ (ma d e)
    have n:=ou (V:=a) (B:=B++C)<|LL _ f
    have o:=ou (V:=V) f
    rw [jl e,n,o,h _ f]
   .have k:aJ x=false:=by simpa using e
    rw [jE<|n9 i k,jE<|n9 (λb p=>i b<|LL _ p) k]
 exact c _ λg q=>(LP.mp q).2
def Ih{c:ZW}{W:ZW}(j:∀a∈c,jt a)(k:∀g∈W,cp g []=false)(l:∀g∈W,∀b∈ak [] g,b∈aT [] c):hJ (cL facts c [] W) ([],[])=(fA facts c [([],[])]).filter λw=>gv W w.1:=by
 have m:=Cp facts c [] W (λ_=>.av) [] eM j
 have d:=Cj facts (ie c [] W) [] [([],[])] eM (λw n=>⟨λ_=>.av,by rw [L4.mp n];rfl⟩) (λi s o V p C f h=>by
  obtain ⟨q,e⟩:=zg c [] W i s o
  rw [PR,uN] at f h⊢
  rw [e]
  exact IM V p C f h)
 rw [uN] at d
 refine (show hJ (cL facts c [] W) ([],[])=_ from m).trans<|d.trans ?_
 refine Nf λw _=>?_
 exact zL w.1 c [] W k l
theorem yM (b:ZW):∀(d:ZW) (B:ZY) (W:ZW) (i:List aH),cr B->(∀a∈d,jt a)->(∀w∈i,∃V,w.1=ar V B)->((cL b d B W).all λs=> !s.of.isEmpty)=false->fA b d i=[]
 |[],_,_,_,_,_,_,h=>by cases h
 |a::r,B,W,i,j,m,n,h=>by
  show fA b r (i.flatMap<|ext b a)=[]
  by_cases o:el a b B=[]
  .have:i.flatMap (ext b a)=[]:=by
    rw [List.flatMap_eq_nil_iff]
    intro w f
    obtain ⟨V,e⟩:=n w f
    obtain ⟨S,p⟩:=w
    have e:S=ar V B:=e
    subst e
    rw [<-vn j (m a Lz),o]
    rfl
   rw [this,xL]
  .refine yM b r (ak B a) (W.filter λg=> !cp g (ak B a)) _ (iS j) (λc q=>m c<|Lv _ q) (λx k=>?_) ?_
   .obtain ⟨w,f,k⟩:=M4.mp k
    obtain ⟨V,e⟩:=n w f
    obtain ⟨S,p⟩:=w
    have e:S=ar V B:=e
    subst e
    exact wO j k
   .have h:((!(el a b B).isEmpty)&&(cL b r (ak B a)<|W.filter λg=> !cp g (ak B a)).all λs=> !s.of.isEmpty)=false:=h
    have l:(!(el a b B).isEmpty)=true:=by
     cases t:el a b B with
     |nil=>exact absurd t o
     |cons _ _=>rfl
    rw [l,OX] at h
    exact h
def K8{S:aO}(b:∀p∈S,aJ (.str p.1)=true)(h:c9 g=false):g.map (cb S)=g:=by
 have c:ak [] g=[]:=by
  unfold c9 at h
  cases e:ak [] g with
  |nil=>rfl
  |cons x r=>rw [e] at h;cases h
 have:∀x∈g,cb S x=x:=λx d=>by
  have a:aJ x=false:=by
   cases e:aJ x with
   |false=>rfl
   |true=>
    have:=ma (B:=[]) d e
    rw [c] at this;cases this
  refine jE ?_
  cases q:eZ S x with
  |false=>rfl
  |true=>
   obtain ⟨p,f,e⟩:=NX.mp q
   have e:D.str p.1=x:=LW e
   have:=b p f
   rw [e,a] at this;cases this
 exact (Md this).trans<|Ol g
def FG{as:ZW}(z:∀a∈as,aE a=false->jt a)(A:∀g∈as,aE g=true->∀b∈ak [] g,b∈aT [] (as.filter λa=> !aE a)):rh facts as=(fA facts (as.filter λa=> !aE a) [([],[])]).filter λw=>gv (as.filter aE) w.1:=by
 have d:∀a∈as.filter λa=> !aE a,jt a:=λa v=>z a (LP.mp v).1 (by simpa using (LP.mp v).2)
 have l:∀g∈(as.filter aE).filter c9,cp g []=false:=λg f=>by
  have m:=(LP.mp f).2
  cases e:cp g [] with
  |false=>rfl
  |true=>
   have:=wQ.mp e
   have n:ak [] g=[]:=by
    cases q:ak [] g with
    |nil=>rfl
    |cons x r=>have:=this x (by rw [q];exact Lz);cases this
   unfold c9 at m
   rw [n] at m;cases m
 have o:∀g∈(as.filter aE).filter c9,∀b∈ak [] g,b∈aT [] (as.filter λa=> !aE a):=λg f=>by
  have:=(LP.mp f).1
  exact A g (LP.mp this).1 (LP.mp this).2
 have B:=Ih (facts:=facts) d l o
 have t:∀w∈fA facts (as.filter λa=> !aE a) [([],[])],∀p∈w.1,aJ (.str p.1)=true:=λw i p C=>by
  obtain ⟨S,H⟩:=w
  obtain ⟨V,rfl,_⟩:=(pZ d).mp i
  obtain ⟨b,n,rfl⟩:=LS.mp C
  exact jz eM b n
 have c:∀w∈fA facts (as.filter λa=> !aE a) [([],[])],gv (as.filter aE) w.1=(gv ((as.filter aE).filter c9) w.1&&((as.filter aE).filter λg=> !c9 g).all holdsA):=λw i=>by
  unfold gv
  rw [wM c9]
  congr 1
  have:∀L:ZW,(∀g∈L,c9 g=false)->(L.all λg=>holdsA<|g.map<|cb w.1)=L.all holdsA:=by
   intro L
   induction L with
   |nil=>exact λ_=>rfl
   |cons g r E=>
    intro h
    rw [Og,Og,E λx G=>h x<|Lv _ G,K8 (t w i)<|h g Lz]
  exact this _ λg f=>by simpa using (LP.mp f).2
 rw [Nf c]
 unfold rh
 by_cases u:((as.filter aE).filter λg=> !c9 g).all holdsA=true
 .by_cases y:((eJ facts as).all λs=> !s.of.isEmpty)=true
  .rw [LJ (by rw [u,y];rfl)]
   unfold eJ
   rw [B]
   refine Nf λw _=>?_
   rw [u,OW]
  .have j:((eJ facts as).all λs=> !s.of.isEmpty)=false:=by simpa using y
   rw [LG (by rw [j];simp),yM facts _ [] _ _ eM d (λw i=>⟨λ_=>.av,by rw [L4.mp i];rfl⟩) j]
   rfl
 .have k:((as.filter aE).filter λg=> !c9 g).all holdsA=false:=by simpa using u
  rw [LG (by rw [k];simp),Nq.mpr λw _=>by rw [k,Pp];exact LI]
def sm (g:List D):Prop:=dz g/\∃r x y,g=[.str r,x,y]/\aJ (.str r)=false
def BA:∀i∈cX g B,i<B.length:=λi a=>by
 obtain ⟨b,c,rfl⟩:=LS.mp a
 exact Pm<|LW (LP.mp c).2
def Ck (g:ZZ)(B:ZY):(cX g B).length<=g.length:=by
 unfold cX
 rw [LA]
 have c:=Ml (λb=>decide<|b∈B)<|ak [] g
 have a:=jT g []
 rw [NI] at a
 omega
def DI{c:ZW}{B:ZY}{W:ZW}(v:∀g∈c,i6 g)(w:c.length<=200)(s:dz a)(z:∀g∈W,sm g):
  jZ B.length ⟨cX a B,el a c B,(W.filter λg=>cp g (ak B a)).map λg=>(g,cX g (ak B a))⟩/\∀o∈el a c B,B.length+o.2.2.length=(ak B a).length:=by
 have k:∀o∈el a c B,jn o.2.2/\o.2.2.length<=100/\B.length+o.2.2.length=(ak B a).length:=λo j=>by
  unfold el at j
  obtain ⟨⟨g,i⟩,m,e⟩:=OB.mp j
  have n:g∈c:=LD<|N9.mp m
  cases l:bE a g [] with
  |none=>
   have e:(bE a g []).map (λst=>(dv B st,(i,restOf B st)))=some o:=e
   rw [l] at e;cases e
  |some st=>
   have e:(bE a g []).map (λst=>(dv B st,(i,restOf B st)))=some o:=e
   rw [l] at e
   have e:=LQ e
   rw [<-e]
   have cG:=BH l (λt A=>nomatch A) (v g n).2
   have C:=zQ l
   have E:=s.len
   obtain ⟨U,_,d,_⟩:=iB (V:=λ_=>.av) (B:=[]) eM l
   have d:st=ar U (ak [] a):=d
   refine ⟨λp G=>?_,?_,?_⟩
   .have f:=(LP.mp (show p∈restOf B st from G)).1
    refine ⟨cG p f,?_⟩
    rw [d] at f
    obtain ⟨b,H,rfl⟩:=LS.mp f
    exact iS eM b H
   .have:=Ml (λp:Str×D=> !decide (p.1∈B)) st
    show (restOf B st).length<=100
    unfold restOf
    omega
   .show B.length+(restOf B st).length=_
    have I:(restOf B st).length=((ak [] a).filter λb=> !decide (b∈B)).length:=by
     unfold restOf
     rw [d,uW U _ λb=> !decide (b∈B)]
     unfold ar
     rw [LA]
    rw [I,mT a B,LR]
 refine ⟨⟨BA,L8 (Ck a B) s.len,λo j=>?_,L8 (Hi a c B) w⟩,λo j=>(k o j).2.2⟩
 obtain ⟨J,L,M⟩:=k o j
 refine ⟨J,L,λg m=>?_⟩
 obtain ⟨u,q,rfl⟩:=LS.mp m
 obtain ⟨h,r,x,y,e,N⟩:=z u (LP.mp q).1
 refine ⟨⟨r,x,y,e,(h.sc x (by rw [e];simp)).1,(h.sc y (by rw [e];simp)).1,N⟩,?_,L8 (Ck u _) h.len⟩
 rw [M]
 exact BA
theorem zI {b:ZW}(i:∀g∈b,i6 g)(j:b.length<=200):∀(d:ZW) (B:ZY) (W:ZW),(∀a∈d,dz a)->(∀g∈W,sm g)->∀(k:Nat) (s:js),(cL b d B W)[k]?=some s->
  jZ (aT B (d.take k)).length s/\∀o∈s.of,(aT B (d.take k)).length+o.2.2.length=(aT B (d.take (k+1))).length
 |[],_,_,_,_,k,s,h=>by simp [cL] at h
 |a::r,B,W,e,f,0,s,h=>by
  have h:=LQ h
  rw [<-h]
  exact DI i j (e a Lz) f
 |a::r,B,W,e,f,k+1,s,h=>by
  have h:(cL b r (ak B a)<|W.filter λg=> !cp g (ak B a))[k]?=some s:=h
  exact zI i j r (ak B a) _ (λc l=>e c<|Lv _ l) (λg m=>f g (LP.mp m).1) k s h
theorem lM (b:ZW):∀(c:ZW) (B:ZY) (W:ZW),(cL b c B W).length=c.length
 |[],_,_=>rfl
 |a::r,B,W=>MA (· +1)<|lM b r _ _
def xj {b c:ZW}(e:∀g∈b,i6 g)(f:b.length<=200)(i:∀a∈c,dz a)(j:c.length<=100)(l:∀g∈c,aE g=true->sm g)(m:∀k,(aT [] ((c.filter λa=> !aE a).take k)).length<=500):
  jQ (λk=>(aT [] ((c.filter λa=> !aE a).take k)).length) (eJ b c):=by
 refine ⟨rfl,λk s h=>?_,m,?_⟩
 .exact zI e f _ [] _ (λa n=>i a (LP.mp n).1) (λg d=>l g (LP.mp (LP.mp d).1).1 (LP.mp (LP.mp d).1).2) k s h
 .unfold eJ
  rw [lM]
  exact L8 (Ml _ _) j
def pw (F:Nat):Nat->Nat
 |0=>1
 |n+1=>1+F*pw F n
theorem Cd(f:a->Nat)(c:Nat):∀l:List a,(∀x∈l,f x<=c)->(l.map f).sum<=l.length*c
 |[],_=>Mb _
 |x::r,h=>by
  rw [Mu,PQ,Mq,Qa]
  have d:=Cd f c r λy b=>h y<|Lv _ b
  have e:=h x Lz
  omega
end O5
namespace FL
open PySem L2
def pD (a:List D)(B:List Str)(l:List (List D×Nat)):List dq:=l.filterMap λp=>(bE a p.1 []).map λst=>(dv B st,(p.2,restOf B st))
theorem Cw:∀(l:List (ZZ×Nat)) (s:be),let t:=l.foldl (λs p=>cF s p.2 p.1) s
  t.cE=s.cE/\t.shared=s.shared/\t.gs=s.gs/\t.of=s.of++pD s.cE (fo s) l
 |[],s=>⟨rfl,rfl,rfl,(Mi _).symm⟩
 |p::r,s=>by
  obtain ⟨a,b,c,d⟩:=Cw r<|cF s p.2 p.1
  have e:(cF s p.2 p.1).cE=s.cE/\(cF s p.2 p.1).shared=s.shared/\(cF s p.2 p.1).gs=s.gs/\(cF s p.2 p.1).of=s.of++(match bE s.cE p.1 [] with|some st=>[(dv (fo s) st,(p.2,restOf (fo s) st))]|none=>[]):=by
   unfold cF
   cases f:bE s.cE p.1 [] with
   |none=>exact ⟨rfl,rfl,rfl,(Mi _).symm⟩
   |some st=>exact ⟨rfl,rfl,rfl,rfl⟩
  have g:fo (cF s p.2 p.1)=fo s:=by unfold fo;rw [e.2.1]
  refine ⟨a.trans e.1,b.trans e.2.1,c.trans e.2.2.1,d.trans ?_⟩
  rw [e.2.2.2,e.1,g,Mw]
  congr 1
  unfold pD
  rw [Nm]
  cases f:bE s.cE p.1 [] with
  |none=>rfl
  |some st=>rfl
def pp (s:be):Prop:=decide ((0:Int)<=s.newest)= !s.of.isEmpty
theorem CM:∀(l:List (ZZ×Nat)) (s:be),pp s->pp (l.foldl (λs p=>cF s p.2 p.1) s)
 |[],s,h=>h
 |p::r,s,h=>by
  refine CM r (cF s p.2 p.1) ?_
  unfold cF
  cases a:bE s.cE p.1 [] with
  |none=>exact h
  |some st=>
   show decide ((0:Int)<=((p.2:Nat):Int))= !(s.of++[_]).isEmpty
   simp
def G7{st:aO}(h:bE a g []=some st):∀p∈st,p.1∈ak [] a:=λp c=>by
 obtain ⟨U,_,rfl,_⟩:=iB (V:=λ_=>.av) (B:=[]) eM h
 obtain ⟨b,d,rfl⟩:=LS.mp c
 exact d
def FO (a:ZZ)(B:ZY):(jm a B).map (·.1)=(ak [] a).filter λb=>decide (b∈B):=by
 unfold jm
 rw [Mn]
 exact Ol _
def Lc (a:ZZ)(B:ZY):(jm a B).map (·.2)=cX a B:=by
 unfold jm cX
 rw [Mn]
 rfl
def Ch{B:ZY}(h:b∈ak [] a):decide (b∈(ak [] a).filter λb=>decide (b∈B))=decide (b∈B):=
 Om.mpr ⟨λw=>LW (LP.mp w).2,λz=>LP.mpr ⟨h,LV z⟩⟩
def Lg (a:ZZ)(B:ZY)(c:ZW):pD a ((ak [] a).filter λb=>decide (b∈B)) (c.zipIdx 0)=el a c B:=by
 unfold pD el
 have:∀l:List (ZZ×Nat),l.filterMap (λp=>(bE a p.1 []).map λst=>(dv ((ak [] a).filter λb=>decide<|b∈B) st,(p.2,restOf ((ak [] a).filter λb=>decide<|b∈B) st)))=l.filterMap λp=>(bE a p.1 []).map λst=>(dv B st,(p.2,restOf B st)):=by
  intro l
  induction l with
  |nil=>rfl
  |cons p r f=>
   rw [Nm,Nm,f]
   cases g:bE a p.1 [] with
   |none=>rfl
   |some st=>
    have e:=G7 g
    have h:dv ((ak [] a).filter λb=>decide<|b∈B) st=dv B st:=by
     unfold dv
     rw [Nf λq d=>Ch<|e q d]
    have i:restOf ((ak [] a).filter λb=>decide<|b∈B) st=restOf B st:=by
     unfold restOf
     refine Nf λq d=>?_
     rw [Ch<|e q d]
    show (_,_)::_=(_,_)::_
    rw [h,i]
 exact this _
def dN (s:be):O5.js:=⟨gz s,s.of,s.gs⟩
def JJ (a:ZZ)(B:ZY)(W facts:ZW):dN (ca (og a B W) 0 facts)=⟨cX a B,el a facts B,(W.filter λg=>cp g (ak B a)).map λg=>(g,cX g (ak B a))⟩/\pp (ca (og a B W) 0 facts):=by
 obtain ⟨h1,h2,h3,h4⟩:=Cw (facts.zipIdx 0) (og a B W)
 refine ⟨?_,CM _ _ (show decide ((0:Int)<= -1)= !([]:List dq).isEmpty from rfl)⟩
 have e:(ca (og a B W) 0 facts).of=el a facts B:=by
  unfold ca
  rw [h4]
  show []++pD a ((jm a B).map (·.1)) _=_
  rw [NK,FO,Lg]
 unfold dN gz
 rw [e]
 unfold ca
 rw [h2,h3]
 show O5.js.mk ((jm a B).map (·.2)) _ _=_
 rw [Lc]
 rfl
theorem ur (facts:ZW):∀(asks:ZW) (B:ZY) (W:ZW),((cL asks B W).map λs=>ca s 0 facts).map dN=O5.cL facts asks B W/\∀s∈(cL asks B W).map λs=>ca s 0 facts,pp s
 |[],_,_=>⟨rfl,λs h=>nomatch h⟩
 |a::r,B,W=>by
  obtain ⟨h1,h2⟩:=ur facts r (ak B a) (W.filter λg=> !cp g (ak B a))
  obtain ⟨h3,h4⟩:=JJ a B W facts
  refine ⟨?_,λs hs=>?_⟩
  .show dN _::List.map dN (List.map _ (cL r _ _))=_::O5.cL facts r _ _
   rw [h1,h3]
  .rcases LK.mp hs with z|z
   .rw [z];exact h4
   .exact h2 s z
def zY (s:be)(w:aH):fg s w 0=(O5.ib (dN s) w).reverse:=by
 unfold fg O5.ib np
 rw [qh λo _=>(by unfold FL.fresh;exact LV Z4),P2,List.filter_reverse]
 rfl
def tj {a:bR}(h:a.fresh=0)(w:aH):gL a w=0:=by
 unfold gL
 rw [h]
 split<;>rfl
theorem wa {lm:bR}(h:lm.fresh=0):∀(n:Nat) (w:aH),w.2.length+n=lm.steps.length->cJ lm n w=O5.hJ ((lm.steps.map dN).drop w.2.length) w/\dF lm n w=O5.nodes ((lm.steps.map dN).drop w.2.length) w
 |0,w,hn=>by
  rw [OP (by rw [LA];omega)]
  exact ⟨rfl,rfl⟩
 |n+1,w,hn=>by
  have hlt:w.2.length<lm.steps.length:=by omega
  have hs:=Ly hlt
  have hc:ck lm w=(O5.ib (dN lm.steps[w.2.length]) w).reverse:=by
   unfold ck
   rw [hs,tj h]
   exact zY _ w
  have hl:∀x∈O5.ib (dN lm.steps[w.2.length]) w,x.2.length=w.2.length+1:=λx hx=>kD (lm:=lm) (by rw [hc];exact Nh.mpr hx)
  have ed:(lm.steps.map dN).drop w.2.length=dN lm.steps[w.2.length]::(lm.steps.map dN).drop (w.2.length+1):=by
   rw [Nx (by rw [LA];exact hlt),List.getElem_map]
  rw [ed]
  constructor
  .show (ck lm w).reverse.flatMap (cJ lm n)=(O5.ib _ w).flatMap (O5.hJ _)
   rw [hc,List.reverse_reverse]
   have:∀L:List aH,(∀x∈L,x.2.length=w.2.length+1)->L.flatMap (cJ lm n)=L.flatMap (O5.hJ ((lm.steps.map dN).drop (w.2.length+1))):=by
    intro L
    induction L with
    |nil=>exact λ_=>rfl
    |cons x r ih=>
     intro hx
     have e:=hx x Lz
     rw [MI,MI,ih λy hy=>hx y (Lv _ hy),(wa h n x Z4).1,e]
   exact this _ hl
  .show 1+((ck lm w).map (dF lm n)).sum=1+((O5.ib _ w).map (O5.nodes _)).sum
   rw [hc,P2,List.sum_reverse]
   congr 2
   refine Md λx hx=>?_
   rw [(wa h n x (by have:=hl x hx;omega)).2,hl x hx]
def EJ {ss:List be}(h:∀s∈ss,pp s):(ss.all λs=>decide ((0:Int)<=s.newest))=(ss.map dN).all λs=> !s.of.isEmpty:=by
 induction ss with
 |nil=>rfl
 |cons s r a=>
  rw [Og,Mu,Og,a λx b=>h x<|Lv _ b]
  congr 1
  exact h s Lz
def Ju (as facts:ZW):gj as facts=O5.rh facts as:=by
 obtain ⟨h1,h2⟩:=ur facts (as.filter λa=> !aE a) [] ((as.filter aE).filter c9)
 have e1:(bT (bM as) facts).steps.map dN=O5.eJ facts as:=h1
 have e2:=EJ (ss:=(bT (bM as) facts).steps) h2
 rw [e1] at e2
 have hb:(bT (bM as) facts).fB=lD as:=rfl
 have hf:(bT (bM as) facts).fresh=0:=rfl
 unfold gj ef O5.rh
 generalize bT (bM as) facts=lm at e1 e2 hb hf
 rw [hb,hf,e2]
 unfold lD
 generalize ((as.filter aE).filter λg=> !c9 g).all holdsA=c1
 cases c1 with
 |false=>simp
 |true=>
  have e0:((!true)||(decide (lm.last<0)&&decide ((0:Int)<((0:Nat):Int))))=false:=by simp
  rw [LG (by rw [e0];exact LI),OX]
  split
  .rw [M9]
   have:=(wa hf (bP lm ([],[])) ([],[]) (by unfold bP;simp)).1
   rw [this]
   show O5.hJ ((lm.steps.map dN).drop 0) _=_
   rw [List.drop_zero,e1]
  .rfl
def FE {facts as:ZW}(hF:∀g∈facts,i6 g)(hz:facts.length<=200)(hA:∀a∈as,dz a)(hl:as.length<=100)(hg:∀g∈as,aE g=true->O5.sm g)(hb:∀k,(aT [] ((as.filter λa=> !aE a).take k)).length<=500):
  jQ (λk=>(aT [] ((as.filter λa=> !aE a).take k)).length) (bT (bM as) facts).steps:=by
 obtain ⟨h1,_⟩:=ur facts (as.filter λa=> !aE a) [] ((as.filter aE).filter c9)
 have e1:(bT (bM as) facts).steps.map dN=O5.eJ facts as:=h1
 have R:=O5.xj hF hz hA hl hg hb
 refine ⟨R.zero,λk s hs=>?_,R.le,?_⟩
 .have ho:(O5.eJ facts as)[k]?=some (dN s):=by rw [<-e1,LO,hs];rfl
  obtain ⟨q1,q2⟩:=R.st k _ ho
  refine ⟨⟨q1.sh,?_,q1.of,L8 q1.xB Z1⟩,q2⟩
  have:=q1.shl
  unfold dN gz at this
  rw [LA] at this
  exact this
 .have:=R.len
  rw [<-e1,LA] at this
  exact this
end FL
namespace L2
open PySem PySem.Spec PyProof.Rows
section
variable {X:Cx}
def A5:List V->Hp->VK->Prop:=λxs H Q=>∃a kvs,xs=[.ref a]/\Rd H a (.dK kvs)/\∀p,H p=none->Q (.ref p) (upd H p (.dK kvs))
def Fh:il X (.type "dict") A5:=by
 intro f s l H m n Q I r h
 obtain ⟨a,c,rfl,e,q⟩:=h
 obtain ⟨u,rfl,g⟩:=PV r
 cases g
 obtain ⟨z,i,p,bB,j⟩:=ic I.az e
 have t:=bB.length
 refine kt_call_dict i j Z4 λv d k=>?_
 refine ⟨.ref s.heap.objs.size,_,I.laid (a:=s.heap.objs.size) (o:=.dK c) (t':=s.toks) (λb o e=>?_) (LF _)<|uh z (ML.mpr<|MC<|Mf I.rM) bB d,rfl,q _<|I.az.fresh<|LF _⟩
 exact (k.2 b<|Mf<|L1 e).trans<|LC _ e
end
end L2
namespace FL
open PySem L2
section
variable {X:Cx}{e:Expr}{te:TE}{p pos:Pos}
def F7 (B:Bl X.mg)(h:PE X e te)(b:Gl X "dict":=by rfl)(a:starEach [e] X.env=(false,eval e X.env)::starEach [] X.env:=by rfl):PE X (.Call (.Name "dict" p) [e] [] pos) (cD A5 (bo te bA)):=
 qd Fh b B.dict P9 (ai h aw a) (he:=a)
end
def dn:List D:=[.str "X",.str "Xy",.str "Z"]
structure yc (as:List (List D)):Prop where
 ne:∀a∈as,a≠[]/\aJ (a.headD .av)=false
 sc:∀a∈as,∀x∈a,x.sc=true
 bl:∀a∈as,∀x∈a.tail,aJ x=decide (x∈dn)
 dH:as.length<=100/\∀a∈as,a.length<=10
def GI (B:ZY)(x:D)(c:x.sc=true):cm B x=if (aJ x&& !decide (x∈B.map D.str))=true then B++[x.name] else B:=by
 unfold cm
 have:decide (x∈B.map D.str)=decide (x.name∈B)\/aJ x=false:=by
  by_cases e:aJ x=true
  .left
   rw [jl e]
   refine Om.mpr ⟨λh=>?_,λh=>LS.mpr ⟨_,h,rfl⟩⟩
   obtain ⟨y,a,b⟩:=LS.mp h
   have:y=x.name:=by injection b
   rw [<-this];exact a
  .right;simpa using e
 rcases this with e|e
 .rw [e]
 .simp [e]
def Hn(b:ZW)(j:Nat)(h:b[j]?=some a):aT [] (b.take (j+1))=ak (aT [] (b.take j)) a:=by
 unfold aT
 rw [Mm,h,MS]
 rfl
def Gi(h:a≠[])(b:aJ (a.headD .av)=false):ak B a=ak B a.tail:=by
 cases a with
 |nil=>exact absurd rfl h
 |cons x r=>
  show ak (cm B x) r=ak B r
  rw [uK (show aJ x=false from b)]
def KL {B:ZY}{l:ZZ}{j:Nat}{x:D}(h:l[j]?=some x):ak B (l.take (j+1))=cm (ak B (l.take j)) x:=by
 unfold ak
 rw [Mm,h,MS]
 rfl
def wS {a b:ZZ}(j:∀x∈a,x.sc=true)(d:∀x∈b,x.sc=true):cn (.tup a) (.tup b)=true/\(D.tup a).cI<=40:=by
 have h:∀a b:ZZ,(∀x∈a,x.sc=true)->(∀x∈b,x.sc=true)->fY a b=true/\D.fw a<=0:=by
  intro a
  induction a with
  |nil=>
   intro b _ _
   cases b<;>exact ⟨rfl,LF _⟩
  |cons x r k=>
   intro b f d
   have g:=k b.tail (λy e=>f y<|Lv _ e) λy e=>d y<|List.mem_of_mem_tail e
   have c:=f x Lz
   have l:x.cI=0:=by
    cases x with
    |int _=>rfl
    |str _=>rfl
    |_=>simp [D.sc] at c
   have i:D.fw (x::r)<=0:=by
    show Nat.max x.cI (D.fw r)<=0
    rw [l]
    exact Nat.max_le.mpr ⟨LF _,g.2⟩
   cases b with
   |nil=>exact ⟨rfl,i⟩
   |cons y t=>
    refine ⟨?_,i⟩
    show (cn x y&&fY r t)=true
    rw [(fu c<|d y Lz).1]
    exact g.1
 obtain ⟨m,n⟩:=h a b j d
 exact ⟨m,L8 (show (D.tup a).cI<=D.fw a+1 from LF _) Z4⟩
def bQ (S:aO)(a:List D):List D:=a.headD .av::a.tail.map (cb S)
def rm:List Da->D->Prop:=λxs d=>∃a S,xs=[.d (.tup a),.k (ci [] (bL S))]/\a≠[]/\(∀x∈a,x.sc=true)/\(∀p∈S,p.2.sc=true)/\a.length<=10/\d=.tup (bQ S a)
def fb (fs:List (List D))(a:List D):Bool:=if a.headD .av=.str "unlike" then (match a with|[_,x,y]=> !decide (x=y)|_=>false) else if a.headD .av=.str "less" then (match a with|[_,.int i,.int j]=>decide (i<j)|_=>false) else decide (a∈fs)
def zS (a:List D):Prop:=a≠[]/\(∀x∈a,x.sc=true)/\(aE a=true->∃r x y,a=[.str r,x,y])
structure gP (G:Hp)(us:List V)(cs:List aO):Prop where
 len:us.length=cs.length
 get:∀(j:Nat) c,cs[j]?=some c->∃a,us[j]?=some (.ref a)/\G a=some (.dK (ci [] (bL c)))
def gP.mono(h:gP G d f)(e:ab G b):gP b d f:=⟨h.len,λj c q=>let ⟨a,g,i⟩:=h.get j c q;⟨a,g,e _ _ i⟩⟩
def gP.nil:gP G [] []:=⟨rfl,λj c q=>by simp at q⟩
def gP.snoc(h:gP G g f)(k:G a=some (.dK (ci [] (bL c)))):gP G (g++[.ref a]) (f++[c]):=by
 have l:=h.len
 refine ⟨by simp [l],λj d q=>?_⟩
 by_cases i:j<f.length
 .rw [LZ i] at q
  obtain ⟨b,m,n⟩:=h.get j d q
  exact ⟨b,by rw [LZ Z4];exact m,n⟩
 .rw [Ma<|Mp i] at q
  have o:j-f.length=0:=by
   have:=(Lx.mp q).1
   simp at this
   exact this
  rw [o] at q
  have e:c=d:=by simpa using q
  subst e
  exact ⟨a,by rw [Ma Z4,show j-g.length=0 by omega];rfl,k⟩
theorem yQ (a:ZZ)(b:Str):∀(l:ZY) (d:List aO),cM a (l++[b]) d=(cM a l d).flatMap λc=>a.map λt=>c++[(b,t)]
 |[],d=>rfl
 |x::r,d=>yQ a b r _
theorem Bo (a:ZZ):∀(l:ZY) (b:List aO),(cM a l b).length=b.length*a.length^l.length
 |[],b=>by simp [cM]
 |x::r,b=>by
  show (cM a r _).length=_
  rw [Bo a r,List.length_flatMap]
  have:(b.map λc=>(a.map λt=>c++[(x,t)]).length).sum=b.length*a.length:=by
   have e:(λc:aO=>(a.map λt=>c++[(x,t)]).length)=λ_=>a.length:=by funext c;exact LA _
   rw [e]
   induction b with
   |nil=>simp
   |cons m t d=>rw [Mu,PQ,d,Mq,Qa,Qu]
  rw [this,Mq,Nat.pow_succ,Nat.mul_assoc,Nat.mul_comm a.length]
theorem tZ (a:ZZ):∀(l:ZY) (b:List aO) (c:aO),(∀x∈a,x.sc=true)->(∀m∈b,(∀p∈m,p.2.sc=true))->c∈cM a l b->∀p∈c,p.2.sc=true
 |[],b,c,_,d,h=>d c h
 |x::r,b,c,f,d,h=>by
  refine tZ a r _ c f (λm e=>?_) h
  obtain ⟨g,i,j⟩:=M4.mp e
  obtain ⟨t,k,rfl⟩:=LS.mp j
  exact wX (d g i)<|f t k
theorem xO (a:ZZ):∀(l:ZY) (b:List aO) (k:Nat),(∀m∈b,m.length=k)->∀c∈cM a l b,c.length=k+l.length
 |[],b,k,d,c,h=>d c h
 |x::r,b,k,d,c,h=>by
  have:=xO a r _ (k+1) (λm e=>by
   obtain ⟨f,g,i⟩:=M4.mp e
   obtain ⟨t,j,rfl⟩:=LS.mp i
   rw [LR,d f g]
   rfl) c h
  rw [this,Mq]
  omega
def ut:Sp:=λvs H Q _=>∃M Bs pool v0 v1,vs=[v0,v1]/\ap M H/\al (but H M) v0 (fX Bs)/\al (but H M) v1 (.lst pool)/\(∀x∈pool,x.sc=true)/\Bs.length<=3/\pool.length<=10/\
 ∀p us H',ab H H'->but H' M p=some (.lst us)->gP (but H' M) us (cM pool Bs [[]])->Q (.ref p) H'
end FL
namespace FL
open PySem L2
def jB (pre:List D->Prop)(post:List D->D->Prop):Sp:=λvs H Q _=>∃M ds,ap M H/\aC (but H M) vs ds/\pre ds/\∀d v H',post ds d->ab H H'->al (but H' M) v d->Q v H'
def qF{a:ZZ->Prop}(f:∀c,a c->c.length=n):∀d H Q E,jB a b d H Q E->d.length=n:=λd H Q E g=>by obtain ⟨M,c,l,r,e,k⟩:=g;rw [r.length];exact f c e
section
variable {σ:St}{δ:Dn}{M:List Addr}{H:Hp}{t:TA}{E:Ends}{ds:List D}
end
def GP (x:D):Prop:=x.sc=true/\lT x/\aJ x=decide (x∈dn)
structure lF (a:List D):Prop where
 ne:a≠[]
 hd:aJ (a.headD .av)=false
 ok:∀x∈a,x.sc=true/\lT x
 bl:∀x∈a.tail,aJ x=decide (x∈dn)
 len:a.length<=10
def DT{a:ZZ}(d:lT (.str r))(e:aJ (.str r)=false)(b:∀x∈a,GP x)(f:a.length<=9):lF (.str r::a):=
 ⟨(λz=>nomatch z),e,(λx c=>by
  rcases LK.mp c with z|z
  .rw [z];exact ⟨rfl,d⟩
  .exact ⟨(b x z).1,(b x z).2.1⟩),(λx c=>(b x c).2.2),(by rw [Mq];omega)⟩
def lF.lw(h:lF a):dz a:=⟨h.ok,h.ne,by have:=h.len;omega⟩
def GA {c:ZW}(h:∀a∈c,lF a)(d:c.length<=100):yc c:=⟨λa b=>⟨(h a b).ne,(h a b).hd⟩,λa b x e=>((h a b).ok x e).1,λa b=>(h a b).bl,d,λa b=>(h a b).len⟩
def qY:GP (.str "X"):=⟨rfl,⟨by decide,_,_,rfl⟩,Z9⟩
def tH:GP (.str "Xy"):=⟨rfl,⟨by decide,_,_,rfl⟩,Z9⟩
def uw:GP (.str "Z"):=⟨rfl,⟨by decide,_,_,rfl⟩,Z9⟩
def pU:∀x∈dn,GP x:=λx a=>by
 simp only [dn,LK,Mj,ME] at a
 rcases a with rfl|rfl|rfl
 .exact qY
 .exact tH
 .exact uw
def rn (i:Int):GP (.int i):=⟨rfl,trivial,by simp [dn,aJ]⟩
structure rC (pool:List D):Prop where
 len:pool.length=3
 nodup:pool.Nodup
 gp:∀x∈pool,GP x
 nb:∀x∈pool,aJ x=false
structure BI (base bs:List (List D)):Prop where
 ask:bs.filter (fun a=> !aE a)=base
 at_:∀a∈bs,lF a
 gd:∀g∈bs,aE g=true->(∃r x y,g=[.str r,x,y])/\∀b∈ak [] g,b∈aT [] base
 ph:base.length<=3
def Ez{B:ZY}(g:aJ (.str r)=false)(i:aJ x=true->x.name∈B)(j:aJ y=true->y.name∈B):∀b∈ak [] [.str r,x,y],b∈B:=λb d=>by
 have e:ak [] [.str r,x,y]=cm (cm (cm [] (.str r)) x) y:=rfl
 rw [e,uK (B:=[]) g] at d
 have a:∀{C:ZY} {z:D},b∈cm C z->b∈C\/(aJ z=true/\b=z.name):=λ{C z} h=>by
  unfold cm at h
  split at h
  .rename_i f
   rcases LY.mp h with w|w
   .exact .inl w
   .exact .inr ⟨by simp at f;exact f.1,by simpa using w⟩
  .exact .inl h
 rcases a d with w|⟨w,c⟩
 .rcases a w with w|⟨k,c⟩
  .cases w
  .rw [c];exact i k
 .rw [c];exact j w
def Kb{d:ZW}(h:∀a∈d,lF a)(g:b∈aT [] d):D.str b∈dn/\aJ (.str b)=true:=by
 rcases tM g with z|⟨a,i,x,f,c,rfl⟩
 .cases z
 .have A:=h a i
  have e:=jl c
  cases a with
  |nil=>cases f
  |cons y r=>
   rcases LK.mp f with z|z
   .subst z
    have:=A.hd
    rw [show aJ x=false from this] at c;cases c
   .have:=A.bl x z
    rw [c] at this
    rw [<-e]
    exact ⟨LW this.symm,c⟩
end FL
namespace FL
open PySem L2
theorem vv:∀{l:ZZ},(∀x∈l,x.fz=true)->D.jy l=true
 |[],_=>by simp [D.jy]
 |x::r,h=>by
  rw [D.jy,h x Lz,vv λy a=>h y<|Lv _ a]
  rfl
def oq {d:D}(h:d.sc=true):d.fz=true:=by
 cases d<;>first|rfl|(simp [D.sc] at h)
def uo {l:ZZ}(h:∀x∈l,x.fz=true):(D.tup l).fz=true:=by rw [D.fz];exact vv h
def iy {l:ZZ}(h:∀x∈l,x.sc=true):(D.tup l).fz=true:=uo λx a=>oq<|h x a
def m5:HO->Bool
 |.lst _=>true|.dK _=>true|.dT _=>true|_=>false
mutual
theorem al.narrow {H:Hp}{M own:List Addr}(hk:∀a∈own,∃o,H a=some o/\m5 o=true):∀{v:V} {d:D},d.fz=true->al (but H M) v d->al (but H (own++M)) v d
 |_,_,_,.av=>.av
 |_,_,_,.bl b=>.bl b
 |_,_,_,.int b=>.int b
 |_,_,_,.str b=>.str b
 |_,_,hd,.tup (a:=c) h r=>by
  refine .tup ?_ (aC.narrow hk (by rw [D.fz] at hd;exact hd) r)
  obtain ⟨h1,h2⟩:=ax h
  rw [bh]
  ·exact h2
  ·intro z
   rcases mem_append.mp z with z|z
   ·obtain ⟨o,e,ko⟩:=hk c z
    rw [e] at h2;cases h2;cases ko
   ·exact h1 z
 |_,_,hd,.lst _ _=>by cases hd
theorem aC.narrow {H:Hp}{M own:List Addr}(hk:∀a∈own,∃o,H a=some o/\m5 o=true):∀{vs:List V} {ds:List D},D.jy ds=true->aC (but H M) vs ds->aC (but H (own++M)) vs ds
 |_,_,_,.nil=>.nil
 |_,_,hd,.cons h r=>by
  rw [D.jy,Bool.and_eq_true] at hd
  exact .cons (al.narrow hk hd.1 h) (aC.narrow hk hd.2 r)
end
inductive dP (G:Hp):List (List aK×V)->List (List D×D)->Prop
 |nil:dP G [] []
 |cons {v:V} {ks:List (List aK×V)} {ps:List (List D×D)} {key:List D} {d:D}:bV key->al G v d->dP G ks ps->dP G ((bZ key,v)::ks) ((key,d)::ps)
theorem dP.mono(e:ab G a):∀{b:List (List aK×V)} {c:List (ZZ×D)},dP G b c->dP a b c
 |_,_,.nil=>.nil
 |_,_,.cons h r t=>.cons h (r.mono e)<|t.mono e
theorem dP.length:∀{a:List (List aK×V)} {b:List (ZZ×D)},dP G a b->a.length=b.length
 |_,_,.nil=>rfl
 |_,_,.cons _ _ t=>MA (· +1) t.length
def dX (ps:List (List D×D))(key:List D):Option D:=(ps.find? λp=>decide (p.1=key)).map (·.2)
def iI (ps:List (List D×D))(key:List D)(d:D):List (List D×D):=
 if (ps.any λp=>decide (p.1=key))=true then ps.map (λp=>if p.1=key then (p.1,d) else p) else ps++[(key,d)]
theorem dP.val(f:bV a):∀{c:List (List aK×V)} {b:List (ZZ×D)},dP G c b->(bm c (bZ a)=none/\dX b a=none)\/∃v d,bm c (bZ a)=some v/\dX b a=some d/\al G v d
 |_,_,.nil=>.inl ⟨rfl,rfl⟩
 |_,_,.cons (v:=v) (ks:=c) (ps:=b) (key:=k) (d:=d) h r t=>by
  by_cases e:k=a
  .subst e
   exact .inr ⟨v,d,ge rfl,by simp [dX],r⟩
  .have g:¬bZ k=bZ a:=λz=>e (pe h f z)
   have i:dX ((k,d)::b) a=dX b a:=by simp [dX,MK,e]
   rw [fZ (p:=(bZ k,v)) g,i]
   exact t.val f
theorem dP.app:∀{a b:List (List aK×V)} {c d:List (ZZ×D)},dP G a c->dP G b d->dP G (a++b) (c++d)
 |_,_,_,_,.nil,s=>s
 |_,_,_,_,.cons h r t,s=>.cons h r<|t.app s
theorem dP.mf(b:bV a)(r:al G v d):∀{f:List (List aK×V)} {g:List (ZZ×D)},dP G f g->dP G (f.map λc=>if c.1=bZ a then (c.1,v) else c) (g.map λp=>if p.1=a then (p.1,d) else p)
 |_,_,.nil=>.nil
 |_,_,.cons (v:=j) (key:=k) (d:=l) h i t=>by
  rw [Mu,Mu]
  by_cases e:k=a
  .rw [LJ (by rw [e]),LJ e];exact .cons h r<|t.mf b r
  .rw [LG λz=>e<|pe h b z,LG e];exact .cons h i<|t.mf b r
theorem vY (a:ZZ):∀b:List (ZZ×D),(b.any λp=>decide (p.1=a))=(dX b a).isSome
 |[]=>rfl
 |p::r=>by
  rw [OV,vY a r]
  by_cases e:p.1=a
  .simp [dX,MK,e]
  .simp [dX,MK,e]
def dP.put(b:bV a)(r:al G v d)(t:dP G c f):dP G (cg c (bZ a) v) (iI f a d):=by
 unfold cg iI
 have e:(c.any λi=>decide<|i.1=bZ a)=(f.any λp=>decide<|p.1=a):=by
  rw [jM,vY]
  rcases t.val b with ⟨g,h⟩|⟨v,d,g,h,_⟩<;>rw [g,h]<;>rfl
 rw [e]
 split
 .exact t.mf b r
 .exact t.app (.cons b r .nil)
def Jy(h:dX b a=none):iI b a d=b++[(a,d)]:=by
 unfold iI
 rw [vY,h]
 rfl
theorem pW (a:ZZ):∀b:List (ZZ×D),(dX b a).isSome=decide (a∈b.map (·.1))
 |[]=>rfl
 |p::r=>by
  by_cases e:p.1=a
  .simp [dX,MK,e]
  .have c:dX (p::r) a=dX r a:=by simp [dX,MK,e]
   have d:¬a=p.1:=λz=>e z.symm
   rw [c,pW a r]
   simp [d]
inductive Sl where
 |no
 |d (x:D)
 |l (xs:List D)
 |k (S:aO)
 |t (ps:List (List D×D))
 |kd (S:aO)
 |td (ps:List (List D×D))
def Sl.own:Sl->Bool
 |.l _=>true|.k _=>true|.t _=>true|_=>false
def Sl.oR:Sl->Option D
 |.d x=>some x|.l xs=>some (.lst xs)|_=>none
def Sl.dat:Sl->Option D
 |.d x=>some x|_=>none
def mM (G H:Hp)(own:List Addr)(o:Option (Option V)):Sl->Prop
 |.no=>True
 |.d x=>∃v,o=some (some v)/\al G v x
 |.l xs=>∃a us,o=some (some (.ref a))/\a∈own/\H a=some (.lst us)/\aC G us xs
 |.k S=>∃a,o=some (some (.ref a))/\a∈own/\H a=some (.dK (ci [] (bL S)))/\∀p∈S,p.2.sc=true
 |.t ps=>∃a kvs,o=some (some (.ref a))/\a∈own/\H a=some (.dT kvs)/\dP G kvs ps
 |.kd S=>∃a,o=some (some (.ref a))/\G a=some (.dK (ci [] (bL S)))/\∀p∈S,p.2.sc=true
 |.td ps=>∃a kvs,o=some (some (.ref a))/\G a=some (.dT kvs)/\dP G kvs ps
def j9 (G:Hp)(o:Option (Option V)):Sl->Prop
 |.no=>True
 |.d x=>∃v,o=some (some v)/\al G v x
 |.l xs=>∃v,o=some (some v)/\al G v (.lst xs)
 |.k S=>∃a,o=some (some (.ref a))/\G a=some (.dK (ci [] (bL S)))/\∀p∈S,p.2.sc=true
 |.t ps=>∃a kvs,o=some (some (.ref a))/\G a=some (.dT kvs)/\dP G kvs ps
 |.kd S=>∃a,o=some (some (.ref a))/\G a=some (.dK (ci [] (bL S)))/\∀p∈S,p.2.sc=true
 |.td ps=>∃a kvs,o=some (some (.ref a))/\G a=some (.dT kvs)/\dP G kvs ps
theorem j9.mono(e:ab G c):∀{s:Sl},j9 G o s->j9 c o s
 |.no,_=>trivial
 |.d _,⟨v,h,r⟩=>⟨v,h,r.mono e⟩
 |.l _,⟨v,h,r⟩=>⟨v,h,r.mono e⟩
 |.k _,⟨a,h,r,z⟩=>⟨a,h,e _ _ r,z⟩
 |.t _,⟨a,b,h,r,z⟩=>⟨a,b,h,e _ _ r,z.mono e⟩
 |.kd _,⟨a,h,r,z⟩=>⟨a,h,e _ _ r,z⟩
 |.td _,⟨a,b,h,r,z⟩=>⟨a,b,h,e _ _ r,z.mono e⟩
structure bS (G:Hp)(σ:St)(δ:List Sl):Prop where
 len:σ.length=δ.length
 get:∀(i:Nat) (s:Sl),δ[i]?=some s->j9 G σ[i]? s
theorem bS.mono(h:bS G b c)(e:ab G a):bS a b c:=⟨h.len,λi s q=>(h.get i s q).mono e⟩
def bS.env(h:bS G b a):ay G b (a.map Sl.oR):=by
 refine ⟨by rw [LA];exact h.len,λi d q=>?_⟩
 rw [LO] at q
 cases e:a[i]? with
 |none=>rw [e] at q;cases q
 |some s=>
  rw [e] at q
  have q:s.oR=some d:=LQ q
  have w:=h.get i s e
  cases s with
  |no=>cases q
  |d x=>cases q;exact w
  |l x=>cases q;exact w
  |k x=>cases q
  |t x=>cases q
  |kd x=>cases q
  |td x=>cases q
def bS.v{i:Nat}(h:bS G b a)(e:(a[i]?).bind Sl.oR=some d):ae (aW i) G b d:=by
 refine aG h.env (d:=d) ?_
 rw [LO]
 cases q:a[i]? with
 |none=>rw [q] at e;cases e
 |some s=>rw [q] at e;exact MA some e
def ay.vd{a:List Sl}{i:Nat}(h:ay G b (a.map Sl.dat))(e:(a[i]?).bind Sl.dat=some d):ae (aW i) G b d:=by
 refine aG h (d:=d) ?_
 rw [LO]
 cases q:a[i]? with
 |none=>rw [q] at e;cases e
 |some s=>rw [q] at e;exact MA some e
structure Bx (B:Hp)(M0 own:List Addr)(σ:St)(H:Hp)(δ:List Sl):Prop where
 len:σ.length=δ.length
 same:ab B H
 hX:ap M0 B
 kind:∀a∈own,B a=none/\∃o,H a=some o/\m5 o=true
 slot:∀(i:Nat) (s:Sl),δ[i]?=some s->mM (but H (own++M0)) H own σ[i]? s
 apart:∀(i j:Nat) (s t:Sl) (a:Addr),i≠j->δ[i]?=some s->δ[j]?=some t->s.own=true->t.own=true->σ[i]?=some (some (.ref a))->σ[j]?=some (some (.ref a))->False
section
variable {B:Hp}{M0 own:List Addr}{σ:St}{H H':Hp}{δ:List Sl}
theorem mM.mono(e:ab G c)(k:∀a∈own,∀u,H a=some u->H' a=some u):∀{s:Sl},mM G H own o s->mM c H' own o s
 |.no,_=>trivial
 |.d _,⟨v,h,r⟩=>⟨v,h,r.mono e⟩
 |.l _,⟨a,f,h,m,q,r⟩=>⟨a,f,h,m,k a m _ q,r.mono e⟩
 |.k _,⟨a,h,m,q,z⟩=>⟨a,h,m,k a m _ q,z⟩
 |.t _,⟨a,b,h,m,q,z⟩=>⟨a,b,h,m,k a m _ q,z.mono e⟩
 |.kd _,⟨a,h,r,z⟩=>⟨a,h,e _ _ r,z⟩
 |.td _,⟨a,b,h,r,z⟩=>⟨a,b,h,e _ _ r,z.mono e⟩
def Bx.live (b:Bx B M0 own σ H δ):ap M0 H:=b.hX.same b.same
def Bx.out(b:Bx B M0 own σ H δ)(h:a∈own):a∉M0:=λz=>b.hX a z (b.kind a h).1
def Bx.kd (b:Bx B M0 own σ H δ):∀a∈own,∃o,H a=some o/\m5 o=true:=λa h=>(b.kind a h).2
def Bx.j8 (b:Bx B M0 own σ H δ):ap (own++M0) H:=λa c=>by
 rcases LY.mp c with z|z
 .obtain ⟨o,e,_⟩:=b.kd a z
  rw [e];exact λz=>nomatch z
 .exact b.live a z
def Bx.seen (b:Bx B M0 own σ H δ):ab (but H (own++M0)) (but H M0):=dU λa h=>LH _ h
def Bx.wide (b:Bx B M0 own σ H δ):bS (but H M0) σ δ:=⟨b.len,λi s q=>by
 have w:=b.slot i s q
 cases s with
 |no=>trivial
 |d x=>obtain ⟨v,h,r⟩:=w;exact ⟨v,h,r.mono b.seen⟩
 |l x=>obtain ⟨a,f,h,m,e,r⟩:=w;exact ⟨.ref a,h,.lst (by rw [bh<|b.out m];exact e)<|r.mono b.seen⟩
 |k x=>obtain ⟨a,h,m,e,r⟩:=w;exact ⟨a,h,by rw [bh<|b.out m];exact e,r⟩
 |t x=>obtain ⟨a,c,h,m,e,r⟩:=w;exact ⟨a,c,h,by rw [bh<|b.out m];exact e,r.mono b.seen⟩
 |kd x=>exact j9.mono (s:=.kd x) b.seen w
 |td x=>exact j9.mono (s:=.td x) b.seen w⟩
def Bx.lA (b:Bx B M0 own σ H δ):ay (but H (own++M0)) σ (δ.map Sl.dat):=by
 refine ⟨by rw [LA];exact b.len,λi d q=>?_⟩
 rw [LO] at q
 cases e:δ[i]? with
 |none=>rw [e] at q;cases q
 |some s=>
  rw [e] at q
  have q:s.dat=some d:=LQ q
  have w:=b.slot i s e
  cases s with
  |no=>cases q
  |d x=>cases q;exact w
  |l x=>cases q
  |k x=>cases q
  |t x=>cases q
  |kd x=>cases q
  |td x=>cases q
def Bx.grow (b:Bx B M0 own σ H δ)(s:ab H H'):Bx B M0 own σ H' δ:=
 ⟨b.len,b.same.trans s,b.hX,λa h=>⟨(b.kind a h).1,let ⟨o,e,k⟩:=b.kd a h;⟨o,s _ _ e,k⟩⟩,λi t q=>(b.slot i t q).mono (s.but _) λa _ u e=>s _ _ e,b.apart⟩
def NG{l:List b}{j:Nat}(h:(l.set i x)[j]?=some s):(i=j/\s=x/\i<l.length)\/(i≠j/\l[j]?=some s):=by
 by_cases e:i=j
 .subst e
  by_cases a:i<l.length
  .rw [LM a] at h
   exact .inl ⟨rfl,(LQ h).symm,a⟩
  .rw [Mx (by simpa using Mp a)] at h;cases h
 .rw [LB e] at h
  exact .inr ⟨e,h⟩
theorem Bx.set(b:Bx B M0 own σ H δ)(i:Nat)(r:al (but H (own++M0)) v x):Bx B M0 own (σ.set i (some v)) H (δ.set i (.d x)):=by
 refine ⟨by simp [b.len],b.same,b.hX,b.kind,λj s q=>?_,λj k s t a m c e f g h l=>?_⟩
 .rcases NG q with ⟨rfl,rfl,n⟩|⟨o,q⟩
  .exact ⟨v,LM (by rw [b.len];exact n),r⟩
  .rw [LB o];exact b.slot j s q
 .rcases NG c with ⟨rfl,rfl,_⟩|⟨p,c⟩
  .cases f
  .rcases NG e with ⟨rfl,rfl,_⟩|⟨u,e⟩
   .cases g
   .rw [LB p] at h
    rw [LB u] at l
    exact b.apart j k s t a m c e f g h l
def Im {H:Hp}{M:ZX}{p:Addr}{o:HO}(h:H p=none):but (upd H p o) (p::M)=but H M:=by
 funext c
 unfold FL.but
 by_cases e:c=p
 .subst e
  rw [LJ Lz]
  split
  .rfl
  .exact h.symm
 .by_cases z:c∈M
  .rw [LJ (Lv _ z),LJ z]
  .rw [LG (λw=>by rcases LK.mp w with w|w;exact e w;exact z w),LG z,aA e]
def Bx.new(b:Bx B M0 own σ H δ)(i:Nat)(n:H p=none)(ho:m5 o=true)(hs:mM (but H (own++M0)) (upd H p o) (p::own) (some (some (.ref p))) s):Bx B M0 (p::own) (σ.set i (some (.ref p))) (upd H p o) (δ.set i s):=by
 have eb:but (upd H p o) (p::own++M0)=but H (own++M0):=Im n
 have c:∀{a:Addr},a∈own->a≠p:=λ{a} G=>by
  obtain ⟨u,e,_⟩:=b.kd a G
  exact da e n
 have hB:B p=none:=by
  cases q:B p with
  |none=>rfl
  |some u=>rw [b.same _ _ q] at n;cases n
 refine ⟨by simp [b.len],b.same.trans<|dr n o,b.hX,λa G=>?_,λj t q=>?_,λj k s' t' a M h1 N O Q v g=>?_⟩
 .rcases LK.mp G with z|z
  .exact ⟨by rw [z];exact hB,o,by rw [z];exact aR,ho⟩
  .obtain ⟨u,e,ku⟩:=b.kd a z
   exact ⟨(b.kind a z).1,u,by rw [aA<|c z];exact e,ku⟩
 .rw [eb]
  rcases NG q with ⟨rfl,rfl,y⟩|⟨ne,q⟩
  .rw [LM (by rw [b.len];exact y)];exact hs
  .rw [LB ne]
   have w:=b.slot j t q
   have keep:∀{a:Addr} {u:HO},a∈own->H a=some u->upd H p o a=some u:=λ{a u} m e=>by rw [aA<|c m];exact e
   cases t with
   |no=>trivial
   |d x=>exact w
   |l x=>obtain ⟨a,T,h,m,e,r⟩:=w;exact ⟨a,T,h,Lv _ m,keep m e,r⟩
   |k x=>obtain ⟨a,h,m,e,r⟩:=w;exact ⟨a,h,Lv _ m,keep m e,r⟩
   |t x=>obtain ⟨a,A,h,m,e,r⟩:=w;exact ⟨a,A,h,Lv _ m,keep m e,r⟩
   |kd x=>exact w
   |td x=>exact w
 .have f:∀{m:Nat} {s:Sl},δ[m]?=some s->s.own=true->∀{a:Addr},σ[m]?=some (some (.ref a))->a∈own:=λ{m s} h E {a} I=>by
   have w:=b.slot m s h
   cases s with
   |no=>cases E
   |d x=>cases E
   |l x=>obtain ⟨U,T,h,C,_⟩:=w;rw [I] at h;cases h;exact C
   |k x=>obtain ⟨U,h,C,_⟩:=w;rw [I] at h;cases h;exact C
   |t x=>obtain ⟨U,A,h,C,_⟩:=w;rw [I] at h;cases h;exact C
   |kd x=>cases E
   |td x=>cases E
  rcases NG h1 with ⟨rfl,_,y⟩|⟨n1,Y⟩
  .rw [LM (by rw [b.len];exact y)] at v
   cases v
   rcases NG N with ⟨rfl,_,_⟩|⟨J,L⟩
   .exact M rfl
   .rw [LB J] at g
    exact c (f L Q g) rfl
  .rw [LB n1] at v
   rcases NG N with ⟨rfl,_,y⟩|⟨J,L⟩
   .rw [LM (by rw [b.len];exact y)] at g
    cases g
    exact c (f Y O v) rfl
   .rw [LB J] at g
    exact b.apart j k s' t' a M Y L O Q v g
def Bx.put(b:Bx B M0 own σ H δ){i:Nat}(v:δ[i]?=some s)(y:s.own=true)(A:a∈own)(e:σ[i]?=some (some (.ref a)))(G:m5 o=true)(h:mM (but H (own++M0)) (upd H a o) own (some (some (.ref a))) g)(I:g.own=true):Bx B M0 own σ (upd H a o) (δ.set i g):=by
 have J:but (upd H a o) (own++M0)=but H (own++M0):=dD<|LL _ A
 refine ⟨by simp [b.len],λc u q=>?_,b.hX,λc C=>?_,λj t q=>?_,λj k s1 t1 c L M N O Q T U=>?_⟩
 .rw [aA λz:c=a=>by rw [z,(b.kind a A).1] at q;cases q];exact b.same _ _ q
 .refine ⟨(b.kind c C).1,?_⟩
  by_cases z:c=a
  .exact ⟨o,by rw [z];exact aR,G⟩
  .rw [aA z];exact b.kd c C
 .rw [J]
  rcases NG q with ⟨rfl,rfl,_⟩|⟨Y,q⟩
  .rw [e];exact h
  .have w:=b.slot j t q
   have keep:∀{c:Addr} {u:HO},t.own=true->σ[j]?=some (some (.ref c))->H c=some u->upd H a o c=some u:=λ{c u} kt ec hu=>by
    rw [aA λz:c=a=>by subst z;exact b.apart i j s t c Y v q y kt e ec];exact hu
   cases t with
   |no=>trivial
   |d x=>exact w
   |l x=>obtain ⟨c,us,h,m,e,r⟩:=w;exact ⟨c,us,h,m,keep rfl h e,r⟩
   |k x=>obtain ⟨c,h,m,e,r⟩:=w;exact ⟨c,h,m,keep rfl h e,r⟩
   |t x=>obtain ⟨c,n,h,m,e,r⟩:=w;exact ⟨c,n,h,m,keep rfl h e,r⟩
   |kd x=>exact w
   |td x=>exact w
 .have f:∀{m:Nat} {u:Sl},(δ.set i g)[m]?=some u->u.own=true->∃E,δ[m]?=some E/\E.own=true:=λ{m u} p ku=>by
   rcases NG p with ⟨rfl,rfl,_⟩|⟨_,p⟩
   .exact ⟨s,v,y⟩
   .exact ⟨u,p,ku⟩
  obtain ⟨u1,g1,m1⟩:=f M O
  obtain ⟨u2,g2,m2⟩:=f N Q
  exact b.apart j k u1 u2 c L g1 g2 m1 m2 T U
def Bx.base (b:Bx B M0 own σ H δ):Bx (but H own) M0 own σ H δ:=by
 refine ⟨b.len,tm H own,λa ha=>?_,λa ha=>⟨by unfold FL.but;rw [LJ ha],b.kd a ha⟩,b.slot,b.apart⟩
 rw [bh (λz=>b.out z ha)]
 exact b.live a ha
def Bx.back(b:Bx c M0 own σ H δ)(s:ab B c)(l:ap M0 B):Bx B M0 own σ H δ:=
 ⟨b.len,s.trans b.same,l,λa d=>⟨(by
  cases q:B a with
  |none=>rfl
  |some u=>exact absurd (b.kind a d).1 (by rw [s _ _ q];exact λz=>nomatch z)),b.kd a d⟩,b.slot,b.apart⟩
def Bx.sub (b:Bx B M0 own σ H δ):ab B (but H own):=λc u q=>by
 rw [bh λz=>by rw [(b.kind c z).1] at q;cases q]
 exact b.same _ _ q
end
def a8 (B:Hp)(M0:List Addr)(δ:List Sl)(P:St->Hp->Prop):Prop:=∀own σ H,Bx B M0 own σ H δ->P σ H
def a8.run(b:Bx B d a c H e)(h:a8 B d e P):P c H:=h a c H b
theorem a8.back(h:a8 B a e P)(s:ab B d)(l:ap a B):a8 d a e P:=λc f H b=>h c f H<|b.back s l
def gW {M:ZX}{H:Hp}{vs:List V}{ds:ZZ}(l:ap M H)(r:aC (but H M) vs ds)(N:ZY):Bx H M [] (L2.start N vs) H (ds.map Sl.d++List.replicate (N.length-ds.length) .no):=by
 have E:=gH r N
 refine ⟨?_,ab.refl _,l,(λa ha=>nomatch ha),λi s q=>?_,λi j s t a _ hs _ ks _ _ _=>?_⟩
 .rw [E.len];simp
 .by_cases hi:i<ds.length
  .rw [LZ (by simpa using hi),LO,Ly hi] at q
   have q:=LQ q
   subst q
   refine E.get i ds[i] ?_
   rw [LZ (by simpa using hi),LO,Ly hi]
   rfl
  .rw [Ma (by simpa using Mp hi)] at q
   obtain ⟨h1,h2⟩:=Lx.mp q
   simp at h2
   subst h2
   trivial
 .by_cases hi:i<ds.length
  .rw [LZ (by simpa using hi),LO,Ly hi] at hs
   have q:=LQ hs
   subst q
   cases ks
  .rw [Ma (by simpa using Mp hi)] at hs
   obtain ⟨h1,h2⟩:=Lx.mp hs
   simp at h2
   subst h2
   cases ks
section
variable {B:Hp}{M0:List Addr}{δ:List Sl}{E:Ends}{te ty tv:TE}{t:TA}{tt:TT}{d:D}{ds xs:List D}{K:PySem.W.Frag}
def dZ(h:∀G a,bS G a δ->ae te G a d)(e:d.fz=true)(k:a8 B M0 (δ.set i (.d d)) E.nx):a8 B M0 δ (eY te (cv i) E):=λc a H b=>
 (h _ a b.wide).at b.live λv f s r=>k c _ f<|(b.grow s).set i<|al.narrow (b.grow s).kd e r
def gI(h:∀G a,ay G a (δ.map Sl.dat)->ae te G a d)(k:a8 B M0 (δ.set i (.d d)) E.nx):a8 B M0 δ (eY te (cv i) E):=λc a H b=>
 (h _ a b.lA).at b.j8 λv e s r=>k c _ e<|(b.grow s).set i r
def fk (h:∀G c,bS G c δ->ae te G c d)(k:∀v a,ab B a->al (but a M0) v d->E.rt v a):a8 B M0 δ (o0 te E):=λe c H b=>
 (h _ c b.wide).at b.live λv a s r=>k v a (b.same.trans s) r
def eO{i j:TS}(h:∀G a,bS G a δ->br tt G a b)(k:b=true->a8 B M0 δ (i E))(l:b=false->a8 B M0 δ (j E)):a8 B M0 δ (lQ tt i j E):=λc a H f=>
 Bf f.live (h _ a f.wide) (λe g s=>k e c a g<|f.grow s) (λe g s=>l e c a g<|f.grow s)
def Hb{c e:TS}(P:List Sl->Prop)(h:∀G f,bS G f δ->br tt G f b)(i:(∀a,P a->a8 B M0 a E.nx)->b=true->a8 B M0 δ (c E))(j:(∀a,P a->a8 B M0 a E.nx)->b=false->a8 B M0 δ (e E))(g:∀a,P a->a8 B M0 a E.nx):a8 B M0 δ (lQ tt c e E):=
 eO h (i g) (j g)
def fW (h:a8 B M0 δ E.nx):a8 B M0 δ (sv E):=h
def Hv(h:∀G a,ay G a (δ.map Sl.dat)->d8 t G a ds)(f:ds.length<=sizeLine)(k:a8 B M0 (δ.set i (.l ds)) E.nx):a8 B M0 δ (eY (jF t) (cv i) E):=λc a H b=>
 h _ a b.lA _ H (ab.refl _) b.j8 _ λg n j e=>⟨by rw [e.length];exact f,λp m=>k (p::c) _ _<|(b.grow j).new i m rfl ⟨p,g,rfl,Lz,aR,e⟩⟩
def BX(k:a8 B M0 (δ.set i (.l [])) E.nx):a8 B M0 δ (eY (jF bA) (cv i) E):=Hv (λ_ _ _=>ag) (Mb _) k
def BD {j:Nat}(g:δ[j]?=some (.l xs))(h:∀G c,bS G c δ->ae te G c d)(p:d.fz=true)(q:xs.length<sizeLine)(k:a8 B M0 (δ.set j (.l (xs++[d]))) E.nx):a8 B M0 δ (ln (ny K "list" nI (aW j) (bo te bA)) E):=λf c H b=>by
 obtain ⟨a,i,e,m,n,r⟩:=b.slot j _ g
 refine ⟨.ref a,e,(show gX K "list" (.ref a) H from .inl ⟨rfl,i,aP.of n⟩),(h _ c b.wide).at b.live λv w s u=>?_⟩
 have o:=b.grow s
 refine ⟨a,i,v,rfl,rfl,s _ _ n,by rw [r.length];exact q,k f c _<|o.put g rfl m e rfl ⟨a,_,rfl,m,aR,?_⟩ rfl⟩
 exact (r.mono<|s.but _).snoc<|al.narrow o.kd p u
def BZ(k:a8 B M0 (δ.set i (.t [])) E.nx):a8 B M0 δ (eY zb (cv i) E):=λa e H b=>λp c=>
 k (p::a) _ _ (b.new i c rfl ⟨p,[],rfl,Lz,aR,.nil⟩)
def BV{j:Nat}(n:δ[j]?=some (.t i))(o:bV key)(q:∀G f,ay G f (δ.map Sl.dat)->ae tv G f d)(r:∀G f,bS G f δ->ae ty G f (.tup key))(s:i.length<1000)(k:a8 B M0 (δ.set j (.t (iI i key d))) E.nx):a8 B M0 δ (tW (aW j) ty tv E):=λl f H b=>by
 refine (q _ f b.lA).at b.j8 λv J u w=>?_
 have b1:=b.grow u
 obtain ⟨a,x,e,m,z,p⟩:=b1.slot j _ n
 refine ⟨.ref a,e,(r _ f b1.wide).at b1.live λy L h A=>?_⟩
 have b2:=b1.grow h
 obtain ⟨c,M,rfl,C,I⟩:=A.fe
 have g:=(ax C).2
 rw [lW o I] at g
 refine ⟨a,_,rfl,gt.t (k:=bZ key) (h _ _ z) g<|cy (by rw [p.length];exact Nc s),k l f _<|b2.put n rfl m e rfl ⟨a,_,rfl,m,aR,(p.mono<|h.but _).put o<|w.mono<|h.but _⟩ rfl⟩
end
section
variable {G:Hp}{σ:St}{δ:List Sl}{ty:TE}{d:D}{j:Nat}
def cR.vC{H:Hp}{ps:List (ZZ×D)}(g:H a=some (.dT e))(h:bV b)(r:al (but H M) v (.tup b)):cR H a v (bm e (bZ b)):=by
 obtain ⟨c,l,rfl,i,k⟩:=r.fe
 have f:=(ax i).2
 rw [lW h k] at f
 exact cR.t g f
def bS.Ay(e:bS G σ δ)(o:δ[j]?=some (.t c))(g:bV b)(h:ae ty G σ (.tup b)):ae (pP ty (aW j)) G σ (.bl (decide (b∈c.map (·.1)))):=λM H s l Q k=>h M H s l _ λv p i q=>by
 obtain ⟨a,f,r,u,w⟩:=(e.mono s).get j _ o
 have x:=i _ _ (ax u).2
 refine ⟨.ref a,r,a,_,rfl,cR.vC (ps:=c) x g q,?_⟩
 have y:(bm f<|bZ b).isSome=decide (b∈c.map (·.1)):=by
  rw [<-pW]
  rcases w.val g with ⟨m,n⟩|⟨v,d,m,n,_⟩<;>rw [m,n]<;>rfl
 rw [y]
 exact k _ p i (.bl _)
def bS.GC(e:bS G σ δ)(o:δ[j]?=some (.t c))(g:bV b)(h:ae ty G σ (.tup b)):ae (nZ ty (aW j)) G σ (.bl (!decide (b∈c.map (·.1)))):=λM H s l Q k=>h M H s l _ λv p i q=>by
 obtain ⟨a,f,r,u,w⟩:=(e.mono s).get j _ o
 have x:=i _ _ (ax u).2
 refine ⟨.ref a,r,a,_,rfl,cR.vC (ps:=c) x g q,?_⟩
 have y:(bm f<|bZ b).isSome=decide (b∈c.map (·.1)):=by
  rw [<-pW]
  rcases w.val g with ⟨m,n⟩|⟨v,d,m,n,_⟩<;>rw [m,n]<;>rfl
 rw [y]
 exact k _ p i (.bl _)
def bS.atT(e:bS G σ δ)(o:δ[j]?=some (.t f))(i:bV b)(m:dX f b=some d)(h:ae ty G σ (.tup b)):ae (rP (aW j) ty) G σ d:=λM H s l Q k=>by
 obtain ⟨a,p,q,r,w⟩:=(e.mono s).get j _ o
 refine ⟨.ref a,q,h M H s l _ λv x g y=>?_⟩
 have z:=g _ _ (ax r).2
 rcases w.val i with ⟨n,c⟩|⟨u,B,n,c,A⟩
 .rw [m] at c;cases c
 .rw [m] at c
  cases c
  exact ⟨a,u,rfl,by rw [<-n];exact cR.vC (ps:=f) z i y,k u x g<|A.mono<|g.but M⟩
end
def eU (B:Hp)(M0:List Addr)(δ:List Sl)(wi:TI)(ds:List D):Prop:=∀own σ H,Bx B M0 own σ H δ->∀R:It->Hp->Prop,
 (∀J H1,ab H H1->(∀(j:Nat) d M' H',ds[j]?=some d->ab (but H1 (own++M0)) (but H' M')->ap M' H'->J.go j H'/\∀x H'',J.on j H' x H''->ab H' H''/\al (but H'' M') x d)->(∀M' H',ab (but H1 (own++M0)) (but H' M')->J.stop ds.length H')->R J H1)->wi σ H R
section
variable {B:Hp}{M0:List Addr}{δ:List Sl}{E:Ends}{wi:TI}{g:TG}{tb:TS}{t:TA}{ds:List D}
def eU.of (h:∀G a,ay G a (δ.map Sl.dat)->Walk wi G a ds):eU B M0 δ wi ds:=λc a H b R k=>h _ a b.lA _ H (ab.refl _) b.j8 R k
def eU.rG {n:Nat}(w:n<2^62)(h:∀G a,bS G a δ->d8 t G a [.int n]):eU B M0 δ (wJ t) ((List.range n).map λ(k:Nat)=>D.int (0+k)):=λc a H b R k=>h _ a b.wide _ H (ab.refl _) b.live _ λy f i l=>by
 obtain ⟨x,rfl,m⟩:=iu l
 refine ⟨(n:Int),by rw [m.eC],by omega,by omega,?_⟩
 refine k _ f i (λj d o p q r z=>?_) λo p r=>?_
 .obtain ⟨A,rfl⟩:=nE 0 n j d q
  refine ⟨by show j<((n:Int)).toNat;omega,λx s u=>?_⟩
  obtain ⟨e,v⟩:=u
  subst e;subst v
  exact ⟨ab.refl _,.int _⟩
 .show ((n:Int)).toNat<=_
  simp
abbrev pC (E:Ends)(B:Hp)(M0:List Addr)(P:List Sl->Prop):Ends:={E with nx:=λσ H=>∃own δ,Bx B M0 own σ H δ/\P δ,ct:=λσ H=>∃own δ,Bx B M0 own σ H δ/\P δ,bk:=E.nx}
def fc {P:List Sl->Prop}(h:P δ):a8 B M0 δ (pC E B M0 P).nx:=λa c H b=>⟨a,δ,b,h⟩
def A6 (Q:eU B M0 δ wi ds)(Pv:Nat->List Sl->Prop)(T:Pv 0 δ)
  (k:∀A,ab B A->(∀a,a8 B M0 a E.nx->a8 A M0 a E.nx)->∀(j:Nat) x a,ds[j]?=some x->Pv j a->∀f C H v,Bx A M0 f C H a->al (but H (f++M0)) v x->g v C H (tb (pC E A M0 (Pv (j+1)))))
  (o:∀a,Pv ds.length a->a8 B M0 a E.nx):a8 B M0 δ (mK wi g tb E):=λf C H b=>Q f C H b _ λJ r U G l=>by
 have b1:=b.grow U
 have I:ab B (but r f):=b1.sub
 refine ⟨λj m i n=>m=ds.length-j/\j<=ds.length/\∃d a,Bx (but r f) M0 d i n a/\Pv j a,⟨ds.length,by simp,Mb _,f,δ,b1.base,T⟩,?_⟩
 rintro j m i n ⟨rfl,hj,d,a,s,p⟩
 have M:ab (but r<|f++M0) (but n<|d++M0):=λc u q=>by
  obtain ⟨N,Y⟩:=ax q
  have L:but r f c=some u:=by rw [bh λz=>N<|LL _ z];exact Y
  rw [bh]
  .exact s.same _ _ L
  .intro z
   rcases LY.mp z with z|z
   .rw [(s.kind c z).1] at L;cases L
   .exact N<|LH _ z
 by_cases w:j<ds.length
 .have O:ds[j]?=some ds[j]:=Ly w
  obtain ⟨go,gy⟩:=G j _ (d++M0) n O M s.j8
  refine .inr ⟨go,_,λac H2 p2=>⟨ds.length-(j+1),by omega,rfl,w,p2⟩,λx y hy=>?_⟩
  obtain ⟨s3,rx⟩:=gy x y hy
  exact k (but r f) I (λa h=>h.back I b.hX) j _ a O p d i y x (s.grow s3) rx
 .have e:j=ds.length:=by omega
  subst e
  exact .inl ⟨l (d++M0) n M,o a p d i n<|s.back I b.hX⟩
def iR(l:eU B M0 δ wi ds)(Pv:Nat->List Sl->Prop)(m:Pv 0 δ)
  (c:∀e,ab B e->(∀a,a8 B M0 a E.nx->a8 e M0 a E.nx)->∀(j:Nat) x a,ds[j]?=some x->Pv j a->a8 e M0 (a.set i (.d x)) (tb (pC E e M0 (Pv (j+1)))))
  (f:∀a,Pv ds.length a->a8 B M0 a E.nx):a8 B M0 δ (mK wi (cv i) tb E):=
 A6 l Pv m (λe s k j x a n p h o H v b r=>c e s k j x a n p h _ H<|b.set i r) f
def FS{K:W.Frag}(o:eU B M0 δ wi ds)(Pv:Nat->List Sl->Prop)(q:Pv 0 δ)
  (c:∀e,ab B e->(∀a,a8 B M0 a E.nx->a8 e M0 a E.nx)->∀(j:Nat) x a,ds[j]?=some x->Pv j a->∃l m,x=.tup [l,m]/\a8 e M0 ((a.set i (.d l)).set i' (.d m)) (tb (pC E e M0 (Pv (j+1)))))
  (f:∀a,Pv ds.length a->a8 B M0 a E.nx):a8 B M0 δ (mK wi (nK K 2 (j7 (cv i) (j7 (cv i') pc))) tb E):=
 A6 o Pv q (λe s k j x a u p n z H v b r=>by
  obtain ⟨l,m,rfl,h⟩:=c e s k j x a u p
  exact oG r λA C w y=>h n _ H<|(b.set i w).set i' y) f
end
def bS.caps {G n:Hp}{f:St}{g:List Sl}(e:bS G f g)(s:ab G n)(b:List Nat)(k i:Nat){v:V}{x:D}(r:al n v x):bS n ((aY b k f).set i (some v)) ((b.map (λj=>g.getD j Sl.no)++List.replicate k Sl.no).set i (.d x)):=by
 have y:=e.mono s
 have o:(aY b k f).length=(b.map (λj=>g.getD j Sl.no)++List.replicate k Sl.no).length:=by simp [aY]
 refine ⟨by rw [M8,M8];exact o,λq t h=>?_⟩
 rcases NG h with ⟨rfl,rfl,A⟩|⟨B,h⟩
 .exact ⟨v,LM (by rw [o];exact A),r⟩
 .rw [LB B]
  by_cases m:q<b.length
  .rw [LZ (by simpa using m),LO,Ly m] at h
   have h:g.getD b[q] Sl.no=t:=LQ h
   have C:(aY b k f)[q]?=some ((f[b[q]]?).join):=by
    unfold aY
    rw [LZ (by simpa using m),LO,Ly m]
    rfl
   rw [C]
   cases z:g[b[q]]? with
   |none=>
    have:t=.no:=by rw [<-h];simp [List.getD,z]
    rw [this];trivial
   |some u=>
    have:t=u:=by rw [<-h];simp [List.getD,z]
    subst this
    have w:=y.get _ _ z
    cases t with
    |no=>trivial
    |d x=>obtain ⟨v,h,r⟩:=w;exact ⟨v,by rw [h];rfl,r⟩
    |l x=>obtain ⟨v,h,r⟩:=w;exact ⟨v,by rw [h];rfl,r⟩
    |k x=>obtain ⟨a,h,r⟩:=w;exact ⟨a,by rw [h];rfl,r⟩
    |t x=>obtain ⟨a,c,h,r⟩:=w;exact ⟨a,c,by rw [h];rfl,r⟩
    |kd x=>obtain ⟨a,h,r⟩:=w;exact ⟨a,by rw [h];rfl,r⟩
    |td x=>obtain ⟨a,c,h,r⟩:=w;exact ⟨a,c,by rw [h];rfl,r⟩
  .rw [Ma (by simpa using Mp m)] at h
   obtain ⟨E,p⟩:=Lx.mp h
   simp at p
   subst p
   trivial
def bS.comp{a:List Nat}(e:bS G h l)(p:D->Bool)(f:D->D)(t:Walk n G h g)
  (u:∀c b d,d∈g->bS c b ((a.map (λj=>l.getD j Sl.no)++List.replicate k Sl.no).set i (.d d))->br o c b (p d))
  (w:∀c b d,d∈g->p d=true->bS c b ((a.map (λj=>l.getD j Sl.no)++List.replicate k Sl.no).set i (.d d))->ae q c b (f d)) (x:g.length<sizeLine):
  ae (iP n (aY a k) (cv i) o q) G h (.lst ((g.filter p).map f)):=
 gm t (λc v d s m r=>u c _ d m<|e.caps s a k i r) (λc v d s m y r=>w c _ d m y<|e.caps s a k i r) x
end FL
namespace FL
open PySem L2
def oO{V:Str->D}(c:cr B)(b:a≠[])(d:aJ (a.headD .av)=false)(h:∀x∈a,aJ x=true->x.name∈B):bQ (ar V B) a=a.map (bb V):=by
 cases a with
 |nil=>exact absurd rfl b
 |cons x r=>
  have e:aJ x=false:=d
  show x::r.map (cb<|ar V B)=bb V x::r.map (bb V)
  have f:bb V x=x:=by unfold bb;rw [LG (by rw [e];exact LI)]
  rw [f]
  congr 1
  exact Md λy g=>kL c<|h y<|Lv _ g
def Gq(V:Str->D)(c:a≠[])(f:aJ (a.headD .av)=false)(b:aE a=false):fb d (a.map (bb V))=decide (a.map (bb V)∈d):=by
 have e:=CP (V:=V) c f
 unfold aE at b
 rw [NF] at b
 unfold fb
 rw [<-e,LG<|MB b.2,LG<|MB b.1]
def HE(d:aE [.str r,x,y]=true)(h:aJ (.str r)=false)(V:Str->D):fb c ([.str r,x,y].map (bb V))=holdsA ([.str r,x,y].map (bb V)):=by
 have e:bb V (.str r)=.str r:=by unfold bb;rw [LG (by rw [h];exact LI)]
 show fb c [bb V (.str r),bb V x,bb V y]=holdsA [bb V (.str r),bb V x,bb V y]
 rw [e]
 generalize bb V x=a
 generalize bb V y=b
 show fb c [.str r,a,b]=holdsD r a b
 have f:r="less"\/r="unlike":=by
  unfold aE at d
  rw [Bool.or_eq_true] at d
  rcases d with z|z
  .have:D.str r=D.str "less":=LW z
   injection this with q
   exact .inl q
  .have:D.str r=D.str "unlike":=LW z
   injection this with q
   exact .inr q
 rcases f with rfl|rfl
 .unfold fb holdsD
  have i:¬(([D.str "less",a,b]:ZZ).headD .av=.str "unlike"):=λz=>by
   have z:D.str "less"=D.str "unlike":=z
   injection z with z
   exact absurd z Z1
  have g:(([D.str "less",a,b]:ZZ).headD .av=.str "less"):=rfl
  rw [LG i,LJ g,LG Z1]
  cases a<;>cases b<;>rfl
 .unfold fb holdsD
  have g:(([D.str "unlike",a,b]:ZZ).headD .av=.str "unlike"):=rfl
  rw [LJ g,LJ rfl]
def gk (fs body:List (List D))(S:aO):Bool:=body.all λa=>fb fs (bQ S a)
def B8 {base body fs:ZW}(h:BI base body){V:Str->D}{B:ZY}(hB:cr B)(hc:∀a∈body,∀x∈a,aJ x=true->x.name∈B):gk fs body (ar V B)=true↔(∀a∈base,a.map (bb V)∈fs)/\O5.gv (body.filter aE) (ar V (aT [] base))=true:=by
 have hBb:cr (aT [] base):=jz eM
 have key:∀a∈body,fb fs (bQ (ar V B) a)=if aE a=true then holdsA (a.map (cb (ar V (aT [] base)))) else decide (a.map (bb V)∈fs):=λa ha=>by
  have A:=h.at_ a ha
  rw [oO hB A.ne A.hd (hc a ha)]
  by_cases g:aE a=true
  .rw [LJ g]
   obtain ⟨⟨r,x,y,rfl⟩,hb⟩:=h.gd a ha g
   rw [HE g A.hd V,O5.wI hBb hb]
  .rw [LG g]
   exact Gq V A.ne A.hd (by simpa using g)
 have hbase:∀a,a∈base↔a∈body/\aE a=false:=λa=>by
  rw [<-h.ask,LP]
  simp
 unfold gk O5.gv
 rw [NV,NV]
 constructor
 .intro z
  refine ⟨λa ha=>?_,λg hg=>?_⟩
  .obtain ⟨h1,h2⟩:=(hbase a).mp ha
   have:=z a h1
   rw [key a h1,LG (by rw [h2];exact LI)] at this
   exact LW this
  .obtain ⟨h1,h2⟩:=LP.mp hg
   have:=z g h1
   rw [key g h1,LJ h2] at this
   exact this
 .rintro ⟨z1,z2⟩ a ha
  rw [key a ha]
  by_cases g:aE a=true
  .rw [LJ g];exact z2 a (LP.mpr ⟨ha,g⟩)
  .rw [LG g];exact LV (z1 a ((hbase a).mpr ⟨ha,by simpa using g⟩))
def BI.good{base:ZW}(h:BI base b):∀a∈base,jt a:=λa c=>by
 rw [<-h.ask] at c
 have A:=h.at_ a (LP.mp c).1
 exact ⟨A.ne,A.hd⟩
def BI.nc {base body:ZW}(h:BI base body)(facts:ZW):gj body facts=(fA facts base [([],[])]).filter λw=>O5.gv (body.filter aE) w.1:=by
 have:=O5.FG (facts:=facts) (as:=body) (λa ha _=>⟨(h.at_ a ha).ne,(h.at_ a ha).hd⟩) (λg hg e=>by rw [h.ask];exact (h.gd g hg e).2)
 rw [Ju,this,h.ask]
def JI{V:Str->D}(h:eG a V b c):c.length=b.length:=by
 have:=MA List.length h
 simpa using this
def bS.C5{j:Nat}(e:bS G c b)(d:b[j]?=some (.k S)\/b[j]?=some (.kd S)):∃a,c[j]?=some (some (.ref a))/\G a=some (.dK (ci [] (bL S)))/\∀p∈S,p.2.sc=true:=by
 rcases d with h|h
 .exact e.get j _ h
 .exact e.get j _ h
def bS.yf{j:Nat}(e:bS G b c)(f:c[j]?=some (.k S)\/c[j]?=some (.kd S))(g:a≠[])(i:∀x∈a,x.sc=true)(l:a.length<=10)(h:ae d G b (.tup a)):ae (iF (iX rm) [] E (bo d (bo (aW j) bA))) G b (.tup (bQ S a)):=by
 obtain ⟨p,m,n,o⟩:=e.C5 f
 exact qk ⟨a,S,rfl,g,i,o,l,rfl⟩<|px h<|oU m n oK
def vc{S:aO}(b:a≠[])(c:∀x∈a,x.sc=true)(d:∀p∈S,p.2.sc=true):∀x∈bQ S a,x.sc=true:=λx e=>by
 cases a with
 |nil=>exact absurd rfl b
 |cons y r=>
  rcases LK.mp e with z|z
  .rw [z];exact c y Lz
  .obtain ⟨u,f,rfl⟩:=LS.mp z
   exact (ly (c u<|Lv _ f) d).2
def AW(h:a≠[]):aE (bQ S a)=aE a:=by
 cases a with
 |nil=>exact absurd rfl h
 |cons x r=>rfl
def Ev{S:aO}(b:a≠[])(c:∀x∈a,x.sc=true)(d:∀p∈S,p.2.sc=true)(e:aE a=true->∃r x y,a=[.str r,x,y]):zS (bQ S a):=by
 refine ⟨(λz=>by cases z),vc b c d,λg=>?_⟩
 rw [AW b] at g
 obtain ⟨r,x,y,rfl⟩:=e g
 exact ⟨r,_,_,rfl⟩
section
variable {B:Hp}{M0 own:List Addr}{σ:St}{H:Hp}{δ:List Sl}{E:Ends}{t:TA}{ds:List D}
def Bx.JB(b:Bx B M0 own σ H δ)(i:Nat){s:Sl}(g:s.own=false)(r:mM (but H (own++M0)) H own (some (some v)) s):Bx B M0 own (σ.set i (some v)) H (δ.set i s):=by
 refine ⟨by simp [b.len],b.same,b.hX,b.kind,λj t q=>?_,λj k m t a n c d e f h l=>?_⟩
 .rcases NG q with ⟨rfl,rfl,o⟩|⟨p,q⟩
  .rw [LM (by rw [b.len];exact o)];exact r
  .rw [LB p];exact b.slot j t q
 .rcases NG c with ⟨rfl,rfl,_⟩|⟨u,c⟩
  .rw [g] at e;cases e
  .rcases NG d with ⟨rfl,rfl,_⟩|⟨w,d⟩
   .rw [g] at f;cases f
   .rw [LB u] at h
    rw [LB w] at l
    exact b.apart j k m t a n c d e f h l
def Bx.Dx{δ:List Sl}(l:ap M H)(c:∀s∈δ,s=.no\/∃x,s=.d x)(e:ay (but H M) σ (δ.map Sl.dat)):Bx H M [] σ H δ:=by
 have b:∀{j:Nat} {s:Sl},δ[j]?=some s->s.own=true->False:=λ{j s} h k=>by
  rcases c s (LD h) with rfl|⟨x,rfl⟩<;>cases k
 refine ⟨by rw [e.len,LA],ab.refl _,l,(λa f=>nomatch f),λi s q=>?_,λi j s t a _ g _ m _ _ _=>b g m⟩
 rcases c s (LD q) with rfl|⟨x,rfl⟩
 .trivial
 .exact e.get i x (by rw [LO,q];rfl)
def a8.En(b:Bx B M0 own (σ.set i (some v)) H δ)(h:a8 B M0 δ P):cv i v σ H P:=h own _ H b
def bI{b:TS}(h:a8 B M0 δ (a {E with nx:=b E})):a8 B M0 δ (n0 a b E):=h
def iN{cc:TS}(h:∀G σ,bS G σ δ->br a G σ false)(k:a8 B M0 δ (cc E)):a8 B M0 δ (n0 (lQ a c sv) cc E):=bI<|eO (b:=false) h (λz=>nomatch z) λ_=>fW k
def vW{c:ZZ->Prop}{a:ZZ->D->Prop}(h:∀G σ,ay G σ (δ.map Sl.dat)->d8 t G σ ds)(j:c ds)(k:∀d,a ds d->a8 B M0 (δ.set i (.d d)) E.nx):a8 B M0 δ (eY (iF (jB c a) [] g t) (cv i) E):=λe σ H b=>
 h _ σ b.lA _ H (ab.refl _) b.j8 _ λq r f l=>⟨e++M0,ds,b.j8.same f,by rw [Mi];exact l,j,λd v m n o p=>k d n e _ m<|(b.grow<|f.trans o).set i p⟩
def Gz{K:W.Frag}{U:TS}(h:∀G σ,ay G σ (δ.map Sl.dat)->d8 t G σ [fX Bs,.lst pool])(o:∀x∈pool,x.sc=true)(hz:Bs.length<=3)(C:pool.length<=10)(Pv:Nat->List Sl->Prop)(h0:Pv 0 δ)
  (k:∀y,ab B y->(∀d,a8 B M0 d E.nx->a8 y M0 d E.nx)->∀(j:Nat) c d,(cM pool Bs [[]])[j]?=some c->Pv j d->a8 y M0 (d.set i (.kd c)) (U (pC E y M0 (Pv (j+1)))))
  (q:∀d,Pv (cM pool Bs [[]]).length d->a8 B M0 d E.nx):a8 B M0 δ (mK (λσ H R=>kg K (iF ut [] T t) σ H R\/lN K (iF ut [] T t) σ H R) (cv i) U E):=λf σ H b=>
 .inl (h _ σ b.lA _ H (ab.refl _) b.j8 _ λvs H1 Y rs=>by
  obtain ⟨v0,v1,rfl,r0,r1⟩:=sL rs
  refine ⟨f++M0,Bs,pool,v0,v1,rfl,b.j8.same Y,r0,r1,o,hz,C,λp r s s2 u hD=>⟨p,rfl,⟨r,aP.of (ax u).2⟩,?_⟩⟩
  have b1:=b.grow (Y.trans s2)
  have I:ab B (but s f):=b1.sub
  have J:but s f p=some (.lst r):=by
   obtain ⟨A,L⟩:=ax u
   rw [bh λz=>A<|LL _ z];exact L
  have hn:=hD.len
  refine ⟨λj m l M=>m=(cM pool Bs [[]]).length-j/\j<=(cM pool Bs [[]]).length/\∃g d,Bx (but s f) M0 g l M d/\Pv j d,⟨_,rfl,Mb _,f,δ,b1.base,h0⟩,?_⟩
  rintro j m l M ⟨rfl,hj,g,d,v,pj⟩
  have N:=v.same _ _ J
  by_cases w:j<(cM pool Bs [[]]).length
  .have O:=Ly w
   obtain ⟨a,hu,Q⟩:=hD.get j _ O
   refine .inr ⟨⟨r,.ref a,aP.of N,hu⟩,_,λac H3 p2=>⟨(cM pool Bs [[]]).length-(j+1),by omega,rfl,w,p2⟩,λx af q0=>?_⟩
   obtain ⟨e,hy⟩:=q0
   subst e
   have hx:=hy r (aP.of N)
   rw [hu] at hx
   cases hx
   refine k (but s f) I (λd h=>h.back I b.hX) j _ d O pj g _ _ (v.JB i rfl ⟨a,rfl,?_,tZ pool Bs [[]] _ o (λm hm p o=>by rw [L4.mp hm] at o;cases o)<|LD O⟩)
   obtain ⟨A,L⟩:=ax Q
   have n:but s f a=some (.dK<|ci []<|bL (cM pool Bs [[]])[j]):=by rw [bh λz=>A<|LL _ z];exact L
   rw [bh]
   .exact v.same _ _ n
   .intro z
    rcases LY.mp z with z|z
    .rw [(v.kind a z).1] at n;cases n
    .exact A (LH _ z)
  .have e:j=(cM pool Bs [[]]).length:=by omega
   subst e
   exact .inl ⟨⟨r,aP.of N,by rw [hn];exact LF _⟩,q d pj g l M<|v.back I b.hX⟩)
end
def zh {as:ZW}:∀{B:ZY},(∀a∈as,a.length<=10)->(aT B as).length<=B.length+10*as.length:=by
 induction as with
 |nil=>intro B _;exact MF _ _
 |cons a r b=>
  intro B h
  have e:=b (B:=ak B a) λc d=>h c<|Lv _ d
  have f:=jT a B
  have g:=h a Lz
  show (aT (ak B a) r).length<=_
  rw [Mq]
  omega
def mJ{k:Nat}(h:l[k]?=some d):dO l ((k:Nat):Int)=some d:=qK h
def sW{k:Nat}(h:l[k]?=some d):dO l (0+((k:Nat):Int))=some d:=by rw [Qv];exact qK h
end FL
namespace FL
open PySem L2
def nY (seed:Int):List D:=[.lst [.str "ashenashenashen",.int 0,.str "ashenashxnashen"],.lst [.str "ashenashenashen",.int 2,.int (-1)],.lst [.int (10^(30:Int).toNat),.int 0,.int (-1)],.lst [.str "qu",.int (seed+4),.int (-4-seed)]]
def yt:GP (.str "ashenashenashen")/\aJ (.str "ashenashenashen")=false:=⟨⟨rfl,⟨by decide,_,_,rfl⟩,Z9⟩,Z9⟩
def ED:GP (.str "ashenashxnashen")/\aJ (.str "ashenashxnashen")=false:=⟨⟨rfl,⟨by decide,_,_,rfl⟩,Z9⟩,Z9⟩
def KJ:GP (.str "qu")/\aJ (.str "qu")=false:=⟨⟨rfl,⟨by decide,_,_,rfl⟩,Z9⟩,Z9⟩
def kF (i:Int):GP (.int i)/\aJ (.int i)=false:=⟨rn i,rfl⟩
def sr(b:GP x/\aJ x=false)(c:GP y/\aJ y=false)(d:GP z/\aJ z=false)(e:[x,y,z].Nodup):rC [x,y,z]:=by
 have h:∀u∈[x,y,z],GP u/\aJ u=false:=λu a=>by
  simp only [LK,Mj,ME] at a
  rcases a with rfl|rfl|rfl
  .exact b
  .exact c
  .exact d
 exact ⟨rfl,e,λu a=>(h u a).1,λu a=>(h u a).2⟩
def BC(h:0<=a):∀d∈nY a,∃b,d=.lst b/\rC b:=λd c=>by
 simp only [nY,LK,Mj,ME] at c
 rcases c with rfl|rfl|rfl|rfl
 .exact ⟨_,rfl,sr yt (kF _) ED Z9⟩
 .exact ⟨_,rfl,sr yt (kF _) (kF _) Z9⟩
 .exact ⟨_,rfl,sr (kF _) (kF _) (kF _) Z9⟩
 .refine ⟨_,rfl,sr KJ (kF _) (kF _) ?_⟩
  simp only [NH,LK,Mj,ME,Qx,D.int.injEq,reduceCtorEq,not_false_eq_true,and_true,true_and,NQ,and_self]
  omega
def IR (facts bs body:List (List D))(w:aH):Prop:=∃V,w.1=ar V (aT [] bs)/\eG facts V bs w.2/\O5.gv (body.filter aE) w.1=true
def BI.mem(h:BI c a)(d:w∈gj a b):IR b c a w:=by
 rw [h.nc] at d
 obtain ⟨f,g⟩:=LP.mp d
 obtain ⟨S,j⟩:=w
 obtain ⟨V,e,i⟩:=(pZ h.good).mp f
 exact ⟨V,e,i,g⟩
theorem m8:∀{l:List b} {i j:Nat} {x y:b},l.Pairwise R->i<j->l[i]?=some x->l[j]?=some y->R x y
 |[],_,_,_,_,_,_,h,_=>by simp at h
 |a::r,0,j+1,x,y,h,_,c,d=>by
  simp at c
  subst c
  exact (Py.mp h).1 y<|LD (by simpa using d)
 |a::r,i+1,j+1,x,y,h,e,c,d=>m8 (i:=i) (j:=j) (Py.mp h).2 Z4 (by simpa using c) (by simpa using d)
end FL
namespace FL
open PySem L2
def tO (s:be)(n:Nat)(g:ZZ)(r:ZW):ca s n (g::r)=ca (cF s n g) (n+1) r:=by
 unfold ca;rw [Qk];rfl
def zj (s:be)(n:Nat):ca s n []=s:=rfl
theorem yn:∀(F G:ZW) (s:be) (n:Nat),ca s n (F++G)=ca (ca s n F) (n+F.length) G
 |[],G,s,n=>by rw [zj];rfl
 |g::r,G,s,n=>by
  rw [OI,tO,tO,yn r G,Mq]
  congr 1
  omega
structure f8 (s:be)(n:Nat):Prop where
 inc:s.of.Pairwise fun a b=>a.2.1<b.2.1
 lt:∀o∈s.of,o.2.1<n
 nw:∀k:Nat,decide ((k:Int)<=s.newest)=s.of.any fun o=>decide (k<=o.2.1)
def f8.Ii(h:f8 s n)(g:ZZ):f8 (cF s n g) (n+1):=by
 unfold cF
 split
 .refine ⟨List.pairwise_append.mpr ⟨h.inc,List.pairwise_singleton _ _,λa d b e=>by rw [L4.mp e];exact h.lt a d⟩,λo c=>?_,λk=>?_⟩
  .rcases LY.mp c with z|z
   .exact ND<|h.lt o z
   .rw [L4.mp z];exact Nu n
  .show decide ((k:Int)<=((n:Nat):Int))=(s.of++[_]).any _
   rw [List.any_append]
   simp only [OV,List.any_nil,PM]
   by_cases z:k<=n
   .rw [LV (show (k:Int)<=((n:Nat):Int) by omega),LV z,Bool.or_true]
   .have f:(s.of.any λo=>decide<|k<=o.2.1)=false:=NB.mpr λo c=>by
     have:=h.lt o c
     simp only [Nk]
     omega
    rw [f,Mc z,Mc (show¬(k:Int)<=((n:Nat):Int) by omega)]
    rfl
 .exact ⟨h.inc,λo c=>ND<|h.lt o c,h.nw⟩
theorem f8.yq:∀(a:ZW) {s:be} {n:Nat},f8 s n->f8 (ca s n a) (n+a.length)
 |[],s,n,h=>h
 |g::r,s,n,h=>by
  rw [tO,Mq,show n+(r.length+1)=n+1+r.length by omega]
  exact f8.yq r<|h.Ii g
def f8.start {s:be}(a:s.of=[])(c:s.newest=-1):f8 s 0:=by
 refine ⟨by rw [a];exact List.Pairwise.nil,(λo b=>by rw [a] at b;cases b),λk=>?_⟩
 rw [a,c]
 exact Mc Z4
def eV (lm:bR)(Ns:List (List (List D))):bR:=Ns.foldl bT lm
theorem nX:∀(b:List ZW) (a:bR),(eV a b).steps=a.steps.map (λs=>ca s a.taken b.flatten)/\(eV a b).fB=a.fB/\(eV a b).taken=a.taken+b.flatten.length
 |[],a=>⟨by
   show a.steps=a.steps.map λs=>ca s a.taken []
   have:(λs=>ca s a.taken [])=λs=>s:=by funext s;rfl
   rw [this,Ol],rfl,rfl⟩
 |N::r,a=>by
  obtain ⟨c,d,e⟩:=nX r<|bT a N
  refine ⟨?_,d,?_⟩
  .show (eV (bT a N) r).steps=_
   rw [c]
   show (a.steps.map λs=>ca s a.taken N).map (λs=>ca s (a.taken+N.length) r.flatten)=_
   rw [Mn]
   refine Md λs _=>?_
   show ca (ca s a.taken N) (a.taken+N.length) r.flatten=ca s a.taken (N++r.flatten)
   rw [yn]
  .show (eV (bT a N) r).taken=_
   rw [e]
   show a.taken+N.length+r.flatten.length=a.taken+(N++r.flatten).length
   rw [LR]
   omega
def qw (a:bR)(b:List ZW)(N:ZW):eV a (b++[N])=bT (eV a b) N:=by
 unfold eV;rw [MS];rfl
theorem Qp:∀(r:List Int) (i:Int),(r.foldl max i=i\/r.foldl max i∈r)/\i<=r.foldl max i/\∀x∈r,x<=r.foldl max i
 |[],i=>⟨.inl rfl,Int.le_refl _,λx a=>nomatch a⟩
 |j::r,i=>by
  obtain ⟨b,d,c⟩:=Qp r<|max i j
  show (r.foldl max (max i j)=i\/r.foldl max (max i j)∈j::r)/\i<=r.foldl max (max i j)/\∀x∈j::r,x<=r.foldl max (max i j)
  refine ⟨?_,by omega,λx a=>?_⟩
  .rcases b with z|z
   .by_cases q:i<=j
    .exact .inr (by rw [z,show max i j=j by omega];exact Lz)
    .exact .inl (by rw [z];omega)
   .exact .inr<|Lv _ z
  .rcases LK.mp a with z|z
   .subst z;omega
   .exact c x z
def xp (is:List Int)(n:Int):(is=[]/\fh is n=n)\/(fh is n∈is/\∀x∈is,x<=fh is n):=by
 cases is with
 |nil=>exact .inl ⟨rfl,rfl⟩
 |cons i r=>
  obtain ⟨a,b,c⟩:=Qp r i
  refine .inr ⟨?_,λx d=>?_⟩
  .show r.foldl max i∈i::r
   rcases a with z|z
   .rw [z];exact Lz
   .exact Lv _ z
  .show x<=r.foldl max i
   rcases LK.mp d with z|z
   .subst z;exact b
   .exact c x z
def xm (a:List be)(n:Nat):(kj a n=-1\/∃j:Nat,j<a.length/\kj a n=j)/\∀(j:Nat) s,a[j]?=some s->((n:Nat):Int)<=s.newest->((j:Nat):Int)<=kj a n:=by
 have c:∀(j:Nat) s,a[j]?=some s->((n:Nat):Int)<=s.newest->((j:Nat):Int)∈((List.range a.length).filter λj=>decide<|(n:Int)<=(a.getD j ⟨[],[],[],[],-1⟩).newest).map λj=>((j:Nat):Int):=λj s b d=>by
  refine LS.mpr ⟨j,LP.mpr ⟨Qo.mpr (Lx.mp b).1,?_⟩,rfl⟩
  rw [List.getD,b]
  exact LV d
 unfold kj
 rcases xp (((List.range a.length).filter λj=>decide<|(n:Int)<=(a.getD j ⟨[],[],[],[],-1⟩).newest).map λj=>((j:Nat):Int)) (-1) with ⟨f,g⟩|⟨f,g⟩
 .refine ⟨.inl g,λj s b d=>?_⟩
  have:=c j s b d
  rw [f] at this;cases this
 .refine ⟨.inr ?_,λj s b d=>g _<|c j s b d⟩
  obtain ⟨j,h,e⟩:=LS.mp f
  exact ⟨j,Qo.mp (LP.mp h).1,e.symm⟩
def cQ (fr:Nat)(w:aH):Bool:=w.2.any λp=>decide (fr<=p)
def vH (a:Nat)(w:aH)(o:dq):cQ a (fI w o)=(cQ a w||decide (a<=o.2.1)):=by
 show (w.2++[o.2.1]).any _=_
 rw [List.any_append]
 simp [cQ]
def zE (b:Nat)(a:List Nat):decide (fh (a.map λn=>((n:Nat):Int)) (-1)<((b:Nat):Int))= !(a.any λp=>decide (b<=p)):=by
 rcases xp (a.map λn=>((n:Nat):Int)) (-1) with ⟨c,d⟩|⟨c,d⟩
 .rw [d]
  have:a=[]:=by simpa using c
  rw [this]
  exact LV Z4
 .by_cases z:fh (a.map λn=>((n:Nat):Int)) (-1)<((b:Nat):Int)
  .rw [LV z]
   have:(a.any λp=>decide<|b<=p)=false:=NB.mpr λp g=>by
    have:=d _<|Pf (f:=λn:Nat=>((n:Nat):Int)) g
    simp only [Nk]
    omega
   rw [this];rfl
  .rw [Mc z]
   obtain ⟨p,g,e⟩:=LS.mp c
   have:(a.any λp=>decide<|b<=p)=true:=NX.mpr ⟨p,g,LV Z4⟩
   rw [this];rfl
theorem zt{p:c->Bool}:∀{l:List c},l.Pairwise (λa b=>p b=true->p a=true)->l.takeWhile p=l.filter p
 |[],_=>rfl
 |x::r,h=>by
  obtain ⟨d,f⟩:=Py.mp h
  by_cases e:p x=true
  .rw [NO,e,Nt,LJ e,LJ rfl,zt f]
  .rw [NO,LG e,Nt,LG e]
   exact (Nq.mpr λy g z=>e<|d y g z).symm
def I0(h:f8 s n)(w:aH)(c:Nat):fg s w ((c:Nat):Int)=(((e9 s.of (fQ w.1 (gz s))).reverse.filter λo=>decide (c<=o.2.1)).map (fI w)).filter λx=>eX x.1 s.gs:=by
 unfold fg
 congr 2
 have e:∀o:dq,fresh ((c:Nat):Int) o=decide (c<=o.2.1):=λo=>by
  unfold fresh
  exact Om.mpr ⟨λh=>by omega,λh=>by omega⟩
 rw [zt]
 .exact Nf λo _=>e o
 .rw [List.pairwise_reverse]
  refine (Qm _ h.inc).imp λ{a b} f d=>?_
  rw [e] at d⊢
  have:=LW d
  exact LV Z4
def Dm (s:be)(w:aH):fg s w 0=((e9 s.of (fQ w.1 (gz s))).reverse.map (fI w)).filter λx=>eX x.1 s.gs:=by
 unfold fg
 rw [qh]
 intro o _
 unfold fresh
 exact LV Z4
section
variable {lm lm0:bR}{n:Nat}
theorem wn (l:lm0.fresh=0)(a:Nat):∀(m:Nat) (w:aH),w.2.length+m=lm0.steps.length->cQ a w=false->(∀(i:Nat) s,w.2.length<=i->lm0.steps[i]?=some s->∀o∈s.of,o.2.1<a)->(cJ lm0 m w).filter (cQ a)=[]
 |0,w,_,d,_=>by
  show [w].filter (cQ a)=[]
  rw [P4 (by rw [d];exact LI)]
  rfl
 |m+1,w,t,d,k=>by
  show ((ck lm0 w).reverse.flatMap<|cJ lm0 m).filter (cQ a)=[]
  rw [Nq]
  intro x p e
  obtain ⟨y,b,f⟩:=M4.mp p
  rw [Nh] at b
  have q:=kD b
  have g:w.2.length<lm0.steps.length:=by omega
  have c:=Ly g
  have h:cQ a y=false:=by
   unfold ck at b
   rw [c] at b
   obtain ⟨o,r,rfl⟩:=LS.mp (LP.mp b).1
   have j:=(LP.mp<|Nh.mp<|(N7 _).subset r).1
   rw [vH,d]
   have:=k _ _ (LF _) c o j
   exact Mc Z4
  have:=wn l a m y Z4 h λi s u=>k i s Z4
  rw [Nq] at this
  exact this x f e
theorem wE(p:b->Bool)(f:a->List b):∀l:List a,(l.flatMap f).filter p=l.flatMap λx=>(f x).filter p
 |[]=>rfl
 |x::r=>by rw [MI,MI,MX,wE p f r]
theorem qy{f g:a->List b}:∀{l:List a},(∀x∈l,f x=g x)->l.flatMap f=l.flatMap g
 |[],_=>rfl
 |x::r,h=>by rw [MI,MI,h x Lz,qy λy c=>h y<|Lv _ c]
theorem yh{f:a->List c}(p:a->Bool):∀{l:List a},(∀x∈l,p x=false->f x=[])->l.flatMap f=(l.filter p).flatMap f
 |[],_=>rfl
 |x::r,h=>by
  have b:=yh p (l:=r) λy d=>h y<|Lv _ d
  by_cases e:p x=true
  .rw [Nt,LJ e,MI,MI,b]
  .rw [Nt,LG e,MI,h x Lz (by simpa using e),NK,b]
theorem uy (u:∀s∈lm.steps,f8 s n)(e:lm0.steps=lm.steps)(v:lm0.fresh=0)(a:lm.last=kj lm.steps lm.fresh):∀(m:Nat) (w:aH),w.2.length+m=lm.steps.length->(((w.2.length:Nat):Int)<=lm.last\/cQ lm.fresh w=true)->cJ lm m w=(cJ lm0 m w).filter (cQ lm.fresh)
 |0,w,U,y=>by
  have f:cQ lm.fresh w=true:=by
   rcases y with z|z
   .exfalso
    rcases (xm lm.steps lm.fresh).1 with q|⟨j,hj,q⟩
    .rw [a,q] at z;omega
    .rw [a,q] at z;omega
   .exact z
  show [w]=[w].filter _
  rw [Nt,LJ f]
  rfl
 |m+1,w,U,y=>by
  have g:w.2.length<lm.steps.length:=by omega
  have h:=Ly g
  have A:=u _<|NW g
  have B:ck lm0 w=fg lm.steps[w.2.length] w 0:=by
   unfold ck
   rw [e,h,tj v]
  have N:ck lm w=fg lm.steps[w.2.length] w (gL lm w):=by
   unfold ck
   rw [h]
  show (ck lm w).reverse.flatMap (cJ lm m)=((ck lm0 w).reverse.flatMap<|cJ lm0 m).filter _
  rw [wE]
  by_cases C:((w.2.length:Nat):Int)=lm.last/\cQ lm.fresh w=false
  .
   obtain ⟨k,l⟩:=C
   have b:gL lm w=((lm.fresh:Nat):Int):=by
    unfold gL
    rw [zE,LJ]
    rw [LV k]
    have:(w.2.any λp=>decide<|lm.fresh<=p)=false:=l
    rw [this];rfl
   rw [N,B,b,I0 A,Dm]
   have r:∀x∈(((e9 lm.steps[w.2.length].of<|fQ w.1<|gz lm.steps[w.2.length]).reverse.map<|fI w).filter λx=>eX x.1 lm.steps[w.2.length].gs).reverse,cQ lm.fresh x=false->(cJ lm0 m x).filter (cQ lm.fresh)=[]:=λx c E=>by
    rw [Nh] at c
    obtain ⟨o,O,rfl⟩:=LS.mp (LP.mp c).1
    have t:(fI w o).2.length=w.2.length+1:=by show (w.2++[o.2.1]).length=_;rw [LR];rfl
    refine wn v lm.fresh m (fI w o) (by rw [e];omega) E λi s hi d Q G=>?_
    rw [e] at d
    have H:=u s<|LD d
    by_cases z:Q.2.1<lm.fresh
    .exact z
    .exfalso
     have T:(s.of.any λo=>decide<|lm.fresh<=o.2.1)=true:=NX.mpr ⟨Q,G,LV Z4⟩
     rw [<-H.nw] at T
     have:=(xm lm.steps lm.fresh).2 i s d<|LW T
     rw [<-a,<-k] at this
     omega
   have Y:∀X:List aH,X.reverse.filter (cQ lm.fresh)=(X.filter<|cQ lm.fresh).reverse:=λX=>by simp
   rw [yh (cQ lm.fresh) r,Y]
   have e2:∀L:List dq,((L.filter λo=>decide<|lm.fresh<=o.2.1).map<|fI w)=(L.map<|fI w).filter (cQ lm.fresh):=λL=>by
    rw [Nl]
    congr 1
    refine Nf λo _=>?_
    show decide (lm.fresh<=o.2.1)=cQ lm.fresh (fI w o)
    rw [vH,l]
    rfl
   rw [e2,Pu,Pu]
   have e3:(λx:aH=>eX x.1 lm.steps[w.2.length].gs&&cQ lm.fresh x)=λx=>cQ lm.fresh x&&eX x.1 lm.steps[w.2.length].gs:=by funext x;exact Bool.and_comm _ _
   rw [e3]
   refine qy λx c=>?_
   rw [Nh] at c
   obtain ⟨I,J⟩:=LP.mp c
   obtain ⟨o,O,rfl⟩:=LS.mp I
   have t:(fI w o).2.length=w.2.length+1:=by show (w.2++[o.2.1]).length=_;rw [LR];rfl
   exact uy u e v a m (fI w o) Z4 (.inr (O0.mp J).1)
  .have b:gL lm w=0:=by
    unfold gL
    rw [zE,LG]
    intro z
    rw [MD] at z
    refine C ⟨LW z.1,?_⟩
    have:=z.2
    show (w.2.any λp=>decide<|lm.fresh<=p)=false
    simpa using this
   rw [N,b,B]
   refine qy λx c=>?_
   rw [Nh] at c
   have M:x∈ck lm0 w:=by rw [B];exact c
   have t:=kD M
   refine uy u e v a m x Z4 ?_
   by_cases f:cQ lm.fresh w=true
   .right
    obtain ⟨o,O,rfl⟩:=LS.mp (LP.mp c).1
    rw [vH,f];rfl
   .rcases y with z|z
    .left
     have:¬((w.2.length:Nat):Int)=lm.last:=λq=>C ⟨q,by simpa using f⟩
     omega
    .exact absurd z f
def fO (lm:bR):List aH:=(ef lm).flatMap λw=>cJ lm (bP lm w) w
def uI (a:lm0.fresh=0):ef lm0=if lm0.fB=true then [] else if (lm0.steps.all λs=>decide ((0:Int)<=s.newest))=true then [([],[])] else []:=by
 unfold ef
 rw [a]
 have:decide ((0:Int)<((0:Nat):Int))=false:=rfl
 rw [this,Pp,PM]
def Gy (p:∀s∈lm.steps,f8 s n)(e:lm0.steps=lm.steps)(q:lm0.fB=lm.fB)(f:lm0.fresh=0)(g:lm.last=kj lm.steps lm.fresh):fO lm=(fO lm0).filter λw=>decide (lm.fresh=0)||cQ lm.fresh w:=by
 have r:∀w,bP lm0 w=bP lm w:=λw=>by unfold bP;rw [e]
 by_cases j:lm.fresh=0
 .have u:∀w,ck lm w=ck lm0 w:=λw=>by unfold ck;rw [e,tj j,tj f]
  have v:∀m w,cJ lm m w=cJ lm0 m w:=λm=>by
   induction m with
   |zero=>exact λw=>rfl
   |succ m y=>
    intro w
    show (ck lm w).reverse.flatMap (cJ lm m)=(ck lm0 w).reverse.flatMap (cJ lm0 m)
    rw [u]
    exact qy λx _=>y x
  unfold fO
  rw [uI j,uI f,e,q,MG.mpr λw _=>by rw [LV j];rfl]
  exact qy λx _=>by rw [r];exact v _ x
 .have A:(λw=>decide (lm.fresh=0)||cQ lm.fresh w)=cQ lm.fresh:=by funext w;rw [Mc j];rfl
  rw [A]
  unfold fO
  rw [wE,uI f,e,q]
  unfold ef
  by_cases b:lm.fB=true
  .rw [b,LJ rfl,LJ (by rfl)]
   rfl
  .have c:lm.fB=false:=by simpa using b
   rw [c,LG LI,Bool.false_or]
   have h:decide ((0:Int)<((lm.fresh:Nat):Int))=true:=LV Z4
   rw [h,OW]
   by_cases a:lm.last<0
   .rw [LJ<|LV a]
    have k:∀(i:Nat) s,(([],[]):aH).2.length<=i->lm0.steps[i]?=some s->∀o∈s.of,o.2.1<lm.fresh:=λi s _ d o B=>by
     rw [e] at d
     have l:=p s<|LD d
     by_cases z:o.2.1<lm.fresh
     .exact z
     .exfalso
      have t:(s.of.any λo=>decide<|lm.fresh<=o.2.1)=true:=NX.mpr ⟨o,B,LV Z4⟩
      rw [<-l.nw] at t
      have:=(xm lm.steps lm.fresh).2 i s d<|LW t
      rw [<-g] at this
      omega
    split
    .show []=[(([],[]):aH)].flatMap _
     rw [M9]
     rw [wn f lm.fresh _ ([],[]) (by unfold bP;simp) rfl k]
    .rfl
   .rw [LG (by rw [Mc a];exact LI)]
    split
    .rw [M9,M9,r]
     exact uy p e f g _ ([],[]) (by unfold bP;simp) (.inl (by show ((0:Nat):Int)<=lm.last;omega))
    .rfl
end
def Kj (b:ZW)(a:List ZW)(N:ZW):fO (eV (bM b) (a++[N]))=(gj b (a++[N]).flatten).filter λw=>decide (a.flatten.length=0)||cQ a.flatten.length w:=by
 obtain ⟨e,g,n⟩:=nX (a++[N])<|bM b
 obtain ⟨o,p,h⟩:=nX a<|bM b
 have i:(eV (bM b)<|a++[N]).fresh=a.flatten.length:=by
  rw [qw]
  show (eV (bM b) a).taken=_
  rw [h]
  exact MY _
 have c:(eV (bM b)<|a++[N]).last=kj (eV (bM b)<|a++[N]).steps (eV (bM b)<|a++[N]).fresh:=by
  rw [qw]
  rfl
 have j:∀s∈(eV (bM b)<|a++[N]).steps,f8 s (0+(a++[N]).flatten.length):=λs f=>by
  rw [e] at f
  obtain ⟨k,d,rfl⟩:=LS.mp f
  obtain ⟨_,l,m⟩:=xq _ _ _ k d
  exact f8.yq _<|f8.start l m
 have:=Gy (lm:=eV (bM b)<|a++[N]) (lm0:=bT (bM b) (a++[N]).flatten) j (by rw [e];rfl) (by rw [g];rfl) rfl c
 rw [this,i]
 rfl
end FL
namespace FL
open PySem L2
abbrev bJ:=List D×List (List D)
abbrev bH:=List D×(Nat×List Nat)
def bn (h:List D)(w:aH):List D:=h.map (cb w.1)
def cz (h:List D)(n:Nat):List aH->List (List D)->List bH
 |[],_=>[]
 |w::r,T=>if bn h w∈T then cz h n r T else (bn h w,(n,w.2))::cz h n r (T++[bn h w])
def aI (rs:List bH):List (List D):=rs.map (·.1)
def oo (a b:List bH):aI (a++b)=aI a++aI b:=Me
section
variable {h:List D}{n:Nat}
def mB{T:ZW}(e:bn h w∈T):cz h n (w::r) T=cz h n r T:=by
 show (if bn h w∈T then _ else _)=_
 rw [LJ e]
def oz{T:ZW}(e:bn h w∉T):cz h n (w::r) T=(bn h w,(n,w.2))::cz h n r (T++[bn h w]):=by
 show (if bn h w∈T then _ else _)=_
 rw [LG e]
theorem AF:∀(a b:List aH) (T:ZW),(∀w∈a,bn h w∈T)->cz h n (a++b) T=cz h n b T
 |[],b,T,_=>rfl
 |w::r,b,T,c=>by
  rw [OI,mB<|c w Lz]
  exact AF r b T λx d=>c x<|Lv _ d
theorem rD (p:aH->Bool):∀(a:List aH) (T:ZW),(∀w∈a,p w=false->bn h w∈T)->cz h n (a.filter p) T=cz h n a T
 |[],T,_=>rfl
 |w::r,T,d=>by
  have b:∀x∈r,p x=false->bn h x∈T:=λx c=>d x<|Lv _ c
  by_cases e:p w=true
  .rw [Nt,LJ e]
   by_cases z:bn h w∈T
   .rw [mB z,mB z,rD p r T b]
   .rw [oz z,oz z,rD p r _ λx c q=>LL _<|b x c q]
  .rw [Nt,LG e,mB<|d w Lz (by simpa using e),rD p r T b]
theorem oN:∀(g:List aH) (T:ZW) (x:bH),x∈cz h n g T->x.2.1=n/\x.1∉T/\∃w∈g,x.1=bn h w/\x.2.2=w.2
 |[],T,x,a=>nomatch a
 |w::r,T,x,a=>by
  by_cases z:bn h w∈T
  .rw [mB z] at a
   obtain ⟨b,c,v,d,f⟩:=oN r T x a
   exact ⟨b,c,v,Lv _ d,f⟩
  .rw [oz z] at a
   rcases LK.mp a with e|e
   .rw [e];exact ⟨rfl,z,w,Lz,rfl,rfl⟩
   .obtain ⟨b,c,v,d,f⟩:=oN r _ x e
    exact ⟨b,λq=>c<|LL _ q,v,Lv _ d,f⟩
theorem w8:∀(b:List aH) (T:ZW),∀w∈b,bn h w∈T\/bn h w∈aI (cz h n b T)
 |[],T,w,a=>nomatch a
 |v::r,T,w,a=>by
  by_cases z:bn h v∈T
  .rw [mB z]
   rcases LK.mp a with e|e
   .rw [e];exact .inl z
   .exact w8 r T w e
  .rw [oz z]
   rcases LK.mp a with e|e
   .rw [e];exact .inr Lz
   .rcases w8 r (T++[bn h v]) w e with q|q
    .rcases LY.mp q with q|q
     .exact .inl q
     .rw [L4.mp q];exact .inr Lz
    .exact .inr<|Lv _ q
theorem xr:∀(a:List aH) (T:ZW),(aI (cz h n a T)).Nodup
 |[],T=>NQ
 |v::r,T=>by
  by_cases z:bn h v∈T
  .rw [mB z];exact xr r T
  .rw [oz z]
   refine NH.mpr ⟨λq=>?_,xr r _⟩
   obtain ⟨x,b,e⟩:=LS.mp q
   obtain ⟨_,c,_⟩:=oN r _ x b
   exact c (by rw [e];exact LH _<|L4.mpr rfl)
end
def bf:Nat->List (List D×List aH)->List (List D)->List bH
 |_,[],_=>[]
 |n,q::r,T=>cz q.1 n q.2 T++bf (n+1) r (T++aI (cz q.1 n q.2 T))
theorem xR (p:aH->Bool):∀(L:List (ZZ×List aH)) (n:Nat) (T:ZW),(∀q∈L,∀w∈q.2,p w=false->bn q.1 w∈T)->bf n (L.map λq=>(q.1,q.2.filter p)) T=bf n L T
 |[],n,T,_=>rfl
 |q::r,n,T,a=>by
  show cz q.1 n (q.2.filter p) T++bf (n+1) (r.map _) (T++aI (cz q.1 n (q.2.filter p) T))=_
  rw [rD p q.2 T<|a q Lz,xR p r _ _ λx b w c e=>LL _<|a x (Lv _ b) w c e]
  rfl
theorem uD:∀(a b:List (ZZ×List aH)) (n:Nat) (T:ZW),bf n (a++b) T=bf n a T++bf (n+a.length) b (T++aI (bf n a T))
 |[],b,n,T=>by
  show bf n b T=bf n b (T++[])
  rw [Mi]
 |q::r,b,n,T=>by
  have c:aI (bf n (q::r) T)=aI (cz q.1 n q.2 T)++aI (bf (n+1) r<|T++aI (cz q.1 n q.2 T)):=oo _ _
  rw [c,<-Mw]
  show cz q.1 n q.2 T++bf (n+1) (r++b) _=cz q.1 n q.2 T++bf (n+1) r _++bf _ b _
  rw [uD r b<|n+1,Mw,Mq,show n+1+r.length=n+(r.length+1) by omega]
  exact (Mw _ _ _).symm
theorem t6:∀(L:List (ZZ×List aH)) (n:Nat) (T:ZW) (x:bH),x∈bf n L T->x.1∉T/\∃(i:Nat) (q:ZZ×List aH),L[i]?=some q/\x.2.1=n+i/\∃w∈q.2,x.1=bn q.1 w/\x.2.2=w.2
 |[],n,T,x,a=>nomatch a
 |q::r,n,T,x,a=>by
  rcases LY.mp a with z|z
  .obtain ⟨b,f,w,g,c⟩:=oN q.2 T x z
   exact ⟨f,0,q,rfl,b,w,g,c⟩
  .obtain ⟨b,i,h,d,f,c⟩:=t6 r _ _ x z
   exact ⟨λe=>b<|LL _ e,i+1,h,d,by omega,c⟩
theorem wL:∀(L:List (ZZ×List aH)) (n:Nat) (T:ZW) (q:ZZ×List aH),q∈L->∀w∈q.2,bn q.1 w∈T\/bn q.1 w∈aI (bf n L T)
 |[],n,T,q,b,_,_=>nomatch b
 |a::r,n,T,q,b,w,c=>by
  show _\/_∈aI (cz a.1 n a.2 T++bf (n+1) r _)
  rw [oo]
  rcases LK.mp b with e|e
  .subst e
   rcases w8 (n:=n) q.2 T w c with z|z
   .exact .inl z
   .exact .inr<|LL _ z
  .rcases wL r (n+1) (T++aI (cz a.1 n a.2 T)) q e w c with z|z
   .rcases LY.mp z with z|z
    .exact .inl z
    .exact .inr<|LL _ z
   .exact .inr<|LH _ z
theorem vi:∀(L:List (ZZ×List aH)) (n:Nat) (T:ZW),(aI (bf n L T)).Nodup
 |[],n,T=>NQ
 |q::r,n,T=>by
  show (aI<|cz q.1 n q.2 T++bf (n+1) r _).Nodup
  rw [oo,Np]
  refine ⟨xr _ _,vi r _ _,λa c b d e=>?_⟩
  obtain ⟨x,f,rfl⟩:=LS.mp d
  obtain ⟨g,_⟩:=t6 r _ _ x f
  exact g<|LH _ (by rw [<-e];exact c)
end FL
namespace FL
open PySem L2
def cC (T:List (List D)):List (List aK×V):=T.map λf=>(bZ f,V.bl true)
theorem wy(a:bV f):∀{T:ZW},(∀g∈T,bV g)->(bm (cC T) (bZ f)).isSome=decide (f∈T)
 |[],_=>rfl
 |g::r,b=>by
  have c:=wy a (T:=r) λx d=>b x<|Lv _ d
  by_cases e:g=f
  .subst e
   rw [show cC (g::r)=(bZ g,V.bl true)::cC r from rfl,ge (p:=(bZ g,V.bl true)) rfl]
   simp
  .have h:¬bZ g=bZ f:=λz=>e (pe (b g Lz) a z)
   have i:¬f=g:=λz=>e z.symm
   rw [show cC (g::r)=(bZ g,V.bl true)::cC r from rfl,fZ (p:=(bZ g,V.bl true)) h,c]
   simp [i]
def yR(a:bV f){T:ZW}(b:∀g∈T,bV g):cg (cC T) (bZ f) (V.bl true)=cC (if f∈T then T else T++[f]):=by
 unfold cg
 rw [jM,wy a b]
 by_cases e:f∈T
 .rw [LJ<|LV e,LJ e]
  unfold cC
  rw [Mn]
  refine Md λg _=>?_
  show (if bZ g=bZ f then (bZ g,V.bl true) else (bZ g,V.bl true))=_
  split<;>rfl
 .rw [LG (by rw [Mc e];exact LI),LG e]
  unfold cC
  rw [Me]
  rfl
def A3 (T:ZW):(cC T).length=T.length:=by unfold cC;rw [LA]
def fR (f:List D):Prop:=bV f/\∀x∈f,aJ x=false
def fx (x:bH):D:=.tup [.tup x.1,.int ((x.2.1:Nat):Int),.tup (x.2.2.map λn=>D.int (n:Nat))]
def a6 (r:bJ):D:=.tup [.tup r.1,cf r.2]
abbrev lO (vr:V)(ll td:Addr):List (Str×V):=[("rules",vr),("looms",.ref ll),("told",.ref td)]
structure oW (K:PySem.W.Frag)(C:Addr):Prop where
 cl:dm K C
 nR:bO K C "rules"
 nL:bO K C "looms"
 nT:bO K C "told"
structure oJ (lm:bR)(h:List D)(R:aH->Prop)(sz:Nat->Nat):Prop where
 run:jQ sz lm.steps
 r0:R ([],[])
 rs:∀w,R w->∀x∈ck lm w,R x
 cG:∀x∈h,x.sc=true
 hl:h.length<=100
 flat:∀w,R w->w.2.length=lm.steps.length->∀y∈bn h w,aJ y=false
 skip:∀w,R w->(∀y∈bn h w,aJ y=false)->∀x∈cJ lm (bP lm w) w,bn h x=bn h w
theorem zW{a:bR}{R:aH->Prop}(h:jQ c a.steps)(i:∀w,R w->∀x∈ck a w,R x):∀(m:Nat) (w:aH),w.2.length+m=a.steps.length->GoodW c a.steps w->R w->∀x∈cJ a m w,R x/\GoodW c a.steps x/\x.2.length=a.steps.length
 |0,w,j,d,e,x,f=>by rw [L4.mp f];exact ⟨e,d,by omega⟩
 |m+1,w,j,d,e,x,f=>by
  obtain ⟨y,b,g⟩:=M4.mp f
  rw [Nh] at b
  have:=kD b
  exact zW h i m y Z4 (A2 h d y b) (i w e y b) x g
def yE {h:ZZ}{w:aH}(a:∀x∈h,x.sc=true)(b:∀p∈w.1,p.2.sc=true):bV (bn h w):=λx c=>by
 obtain ⟨y,d,rfl⟩:=LS.mp c
 exact (ly (a y d) b).2
def oJ.nc(a:oJ e h R g):∀w∈fO e,fR (bn h w):=λw f=>by
 unfold fO at f
 obtain ⟨b,c,i⟩:=M4.mp f
 have d:b=([],[]):=by
  unfold ef at c
  split at c
  .cases c
  .split at c
   .exact L4.mp c
   .cases c
 subst d
 obtain ⟨j,k,l⟩:=zW a.run a.rs _ ([],[]) (by unfold bP;simp) (GoodW.nil a.run) a.r0 w i
 exact ⟨yE a.cG λp m=>(k.ok p m).1,a.flat w j l⟩
def xP (C CL CW:Addr):Sp:=λvs H Q _=>∃(M:List Addr) (lm:bR) (a dx:Addr) (vr:V) (ll td:Addr) (rules:List bJ) (num:Nat) (h:List D) (body T:List (List D)) (R:aH->Prop) (sz:Nat->Nat) (v2:V),vs=[.ref a,.int ((num:Nat):Int),v2]/\ap M H/\but H M a=some (.ins CW dx (lO vr ll td))/\td∈M/\H td=some (.dT (cC T))/\(∀g∈T,fR g)/\al (but H M) vr (.lst (rules.map a6))/\rules[num]?=some (h,body)/\iO C CL (but H M) v2 lm/\lm.steps.length<=100/\oJ lm h R sz/\T.length+dF lm lm.steps.length ([],[])<sizeLine/\
 ∀p us H',(∀b u,b≠td->H b=some u->H' b=some u)->H p=none->H' p=some (.lst us)->aC (but H' (p::M)) us ((cz h num (fO lm) T).map fx)->H' td=some (.dT (cC (T++aI (cz h num (fO lm) T))))->Q (.ref p) H'
end FL
namespace FL
open PySem L2
theorem yA (facts:ZW):∀(asks:ZW) (B:ZY) (W:ZW) (k:Nat) (a:ZZ),asks[k]?=some a->∃gs,(O5.cL facts asks B W)[k]?=some ⟨cX a (aT B (asks.take k)),el a facts (aT B (asks.take k)),gs⟩
 |[],_,_,k,a,h=>by simp at h
 |c::r,B,W,0,a,h=>by
  have h:c=a:=by simpa using h
  subst h
  exact ⟨_,rfl⟩
 |c::r,B,W,k+1,a,h=>by
  obtain ⟨gs,e⟩:=yA facts r (ak B c) (W.filter λg=> !cp g (ak B c)) k a (by simpa using h)
  exact ⟨gs,e⟩
def Jm (as facts:ZW):((bT (bM as) facts).steps.map dN)=O5.eJ facts as:=(ur facts _ [] _).1
def De {bs body facts:ZW}{lm:bR}(hI:BI bs body)(hs:lm.steps=(bT (bM body) facts).steps){w:aH}{V:Str->D}(hw:w.1=ar V (aT [] (bs.take w.2.length))){x:aH}(hx:x∈ck lm w):
  w.2.length<bs.length/\∃V' g,g∈facts/\(∀b∈aT [] (bs.take w.2.length),V' b=V b)/\x.1=ar V' (aT [] (bs.take x.2.length))/\∀a,bs[w.2.length]?=some a->g=a.map (bb V'):=by
 have hxl:=kD hx
 unfold ck at hx
 split at hx
 .rename_i st hst
  have hmap:(lm.steps.map dN)[w.2.length]?=some (dN st):=by rw [LO,hst];rfl
  have e1:lm.steps.map dN=O5.cL facts bs [] ((body.filter aE).filter c9):=by
   rw [hs,Jm]
   unfold O5.eJ
   rw [hI.ask]
  rw [e1] at hmap
  have hlt:w.2.length<bs.length:=by
   have:=(Lx.mp hmap).1
   rw [O5.lM] at this
   exact this
  have ha:=Ly hlt
  refine ⟨hlt,?_⟩
  obtain ⟨gs,e2⟩:=yA facts bs [] ((body.filter aE).filter c9) w.2.length _ ha
  rw [hmap] at e2
  have e2:=LQ e2
  have hx0:x∈fg st w 0:=by
   unfold fg at hx⊢
   obtain ⟨h1,h2⟩:=LP.mp hx
   refine LP.mpr ⟨?_,h2⟩
   obtain ⟨o,ho,rfl⟩:=LS.mp h1
   refine LS.mpr ⟨o,?_,rfl⟩
   rw [qh λo _=>by unfold fresh;exact LV Z4]
   exact (N7 _).subset ho
  rw [zY,Nh,e2] at hx0
  have hB:cr (aT [] (bs.take w.2.length)):=jz eM
  have hgood:=hI.good _ (NW hlt)
  unfold O5.ib at hx0
  have hx1:=(LP.mp hx0).1
  obtain ⟨S,pl⟩:=w
  have hw:S=ar V (aT [] (bs.take pl.length)):=hw
  subst hw
  have hx1:x∈np (el bs[pl.length] facts (aT [] (bs.take pl.length))) (fQ (ar V (aT [] (bs.take pl.length))) (cX bs[pl.length] (aT [] (bs.take pl.length)))) (ar V (aT [] (bs.take pl.length)),pl):=hx1
  rw [O5.zP,vn hB hgood] at hx1
  obtain ⟨Sx,plx⟩:=x
  obtain ⟨i,g,hg,hm,e3⟩:=nn.mp hx1
  obtain ⟨V',h1,h2,h3⟩:=iB hB hm
  refine ⟨V',g,LD hg,h1,?_,λa haa=>?_⟩
  .have hxl:plx.length=pl.length+1:=hxl
   show Sx=ar V' (aT [] (bs.take plx.length))
   rw [h2,hxl,Mm,ha]
   congr 1
   show _=List.foldl ak [] (bs.take pl.length++[bs[pl.length]])
   rw [MS]
   rfl
  .have:bs[pl.length]?=some a:=haa
   rw [ha] at this
   cases this
   exact h3
 .cases hx
def sY (bs:List (List D))(w:aH):Prop:=∃V,w.1=ar V (aT [] (bs.take w.2.length))/\(∀b∈aT [] (bs.take w.2.length),aJ (V b)=false)/\w.2.length<=bs.length
def Fs{V f:Str->D}(i:cr B)(c:cr a)(j:∀b∈B,b∈a/\f b=V b)(h:aJ (cb (ar V B) y)=false):cb (ar f a) y=cb (ar V B) y:=by
 by_cases e:aJ y=true
 .by_cases d:y.name∈B
  .obtain ⟨k,l⟩:=j _ d
   rw [jl e,ou d,ou k,l]
  .exfalso
   have:cb (ar V B) y=y:=jE (by rw [uS e];exact Mc d)
   rw [this,e] at h;cases h
 .have g:aJ y=false:=by simpa using e
  rw [jE<|n9 i g,jE<|n9 c g]
def zO{n:bR}(u:BI c d)(v:n.steps=(bT (bM d) a).steps)(A:∀g∈a,fR g)(B:sY c w)(o:x∈ck n w):sY c x/\((∀y∈bn h w,aJ y=false)->bn h x=bn h w):=by
 obtain ⟨V,i,C,H⟩:=B
 obtain ⟨j,p,g,E,q,r,G⟩:=De u v i o
 have k:=kD o
 have s:=Ly j
 have t:aT [] (c.take x.2.length)=ak (aT []<|c.take w.2.length) c[w.2.length]:=by
  rw [k,Mm,s]
  show List.foldl ak [] (c.take w.2.length++[c[w.2.length]])=_
  rw [MS]
  rfl
 refine ⟨⟨p,r,λb f=>?_,by omega⟩,λl=>?_⟩
 .rw [t] at f
  rcases vT f with z|⟨y,m,e,rfl⟩
  .rw [q b z];exact C b z
  .have:bb p y∈g:=by rw [G _ s];exact Pf m
   have:=(A g E).2 _ this
   unfold bb at this
   rw [LJ e] at this
   exact this
 .unfold bn
  refine Md λy m=>?_
  rw [i,r]
  refine Fs (jz eM) (jz eM) (λb f=>⟨?_,q b f⟩) ?_
  .rw [t];exact ud f
  .have:=l (cb w.1 y) (Pf m)
   rw [i] at this
   exact this
theorem BB{j:bR}(k:BI i b)(l:j.steps=(bT (bM b) a).steps)(n:∀g∈a,fR g):∀(m:Nat) (w:aH),sY i w->(∀y∈bn h w,aJ y=false)->∀x∈cJ j m w,bn h x=bn h w
 |0,w,_,_,x,e=>by rw [L4.mp e]
 |m+1,w,p,c,x,e=>by
  obtain ⟨y,o,f⟩:=M4.mp e
  rw [Nh] at o
  obtain ⟨q,d⟩:=zO (h:=h) k l n p o
  have d:=d c
  rw [<-d]
  exact BB k l n m y q (by rw [d];exact c) x f
def As{q:bR}{h:ZZ}(j:BI m c)(o:q.steps=(bT (bM c) d).steps)(s:∀g∈d,i6 g/\fR g)(t:d.length<=200)(L:c.length<=10)(M:∀x∈h,x.sc=true)(N:h.length<=100)(u:∀y∈h,aJ y=true->y.name∈aT [] m):
  oJ q h (sY m) (λk=>(aT [] ((c.filter λa=> !aE a).take k)).length):=by
 have f:=j.at_
 have l:∀k,(aT []<|(c.filter λa=> !aE a).take k).length<=500:=λk=>by
  rw [j.ask]
  have p:=zh (B:=[]) (as:=m.take k) λa v=>by
   have:=O2 v
   rw [<-j.ask] at this
   exact (f a (LP.mp this).1).len
  have A:=j.ph
  have T:(m.take k).length<=3:=by rw [Mr];omega
  rw [NI] at p
  omega
 have O:=FE (facts:=d) (λg i=>(s g i).1) t (λa v=>(f a v).lw) Z4 (λg i e=>by
  obtain ⟨r,x,y,rfl⟩:=(j.gd g i e).1
  exact ⟨(f _ i).lw,r,x,y,rfl,(f _ i).hd⟩) l
 have C:q.steps.length=m.length:=by
  rw [o]
  show ((eJ c).map _).length=_
  rw [LA]
  unfold eJ
  rw [lM,j.ask]
 refine ⟨by rw [o];exact O,⟨λ_=>.av,rfl,(λb u=>nomatch u),Mb _⟩,λw n x E=>(zO (h:=h) j o (λg i=>(s g i).2) n E).1,M,N,λw n G y Q=>?_,λw n H x E=>BB j o (λg i=>(s g i).2) _ w n H x E⟩
 obtain ⟨V,p,A,_⟩:=n
 rw [G,C,MO] at p A
 obtain ⟨z,t,rfl⟩:=LS.mp Q
 rw [p]
 by_cases e:aJ z=true
 .have I:=u z t e
  rw [jl e,ou I]
  exact A _ I
 .have J:aJ z=false:=by simpa using e
  rw [jE<|n9 (jz eM) J]
  exact J
def Dc(b:bR)(w:aH)(c:∀s∈b.steps,s.of.length<=F):(ck b w).length<=F:=by
 unfold ck
 split
 .rename_i st a
  refine L8 ?_ (c st<|LD a)
  unfold fg
  refine L8 (Ml _ _) ?_
  rw [LA]
  refine L8 (N7 _).length_le ?_
  rw [Pe]
  exact Ml _ _
 .exact Mb _
theorem zy (lm:bR){F:Nat}(hF:∀s∈lm.steps,s.of.length<=F):∀(n:Nat) (w:aH),dF lm n w<=O5.pw F n
 |0,_=>LF _
 |n+1,w=>by
  show 1+((ck lm w).map (dF lm n)).sum<=1+F*O5.pw F n
  have h1:=O5.Cd (dF lm n) (O5.pw F n) (ck lm w) λx _=>zy lm hF n x
  have h2:=Nat.mul_le_mul_right (O5.pw F n) (Dc lm w hF)
  omega
def xQ {body facts bs:ZW}{lm:bR}(hI:BI bs body)(hs:lm.steps=(bT (bM body) facts).steps)(hz:facts.length<=200):dF lm lm.steps.length ([],[])<=8100000:=by
 have hof:∀s∈lm.steps,s.of.length<=200:=λs hsm=>by
  rw [hs] at hsm
  obtain ⟨s0,h0,rfl⟩:=LS.mp hsm
  have h1:=ze s0 0 facts
  obtain ⟨_,e,_⟩:=xq _ _ _ s0 h0
  rw [e,NI] at h1
  exact L8 h1 Z4
 have hsl:lm.steps.length=bs.length:=by
  rw [hs]
  show ((eJ body).map _).length=_
  rw [LA]
  unfold eJ
  rw [lM,hI.ask]
 have h3:=hI.ph
 have h1:=zy lm hof lm.steps.length ([],[])
 have h2:∀n,n<=3->O5.pw 200 n<=8100000:=λn hn=>by
  have:n=0\/n=1\/n=2\/n=3:=by omega
  rcases this with rfl|rfl|rfl|rfl<;>decide
 exact L8 h1 (h2 _ Z4)
end FL
namespace FL
open PySem L2
mutual
theorem al.pR {H:Hp}{M own:List Addr}(hk:∀a∈own,∀ts,H a≠some (.tup ts)):∀{v:V} {d:D},d.fz=true->al (but H M) v d->al (but H (own++M)) v d
 |_,_,_,.av=>.av
 |_,_,_,.bl b=>.bl b
 |_,_,_,.int b=>.int b
 |_,_,_,.str b=>.str b
 |_,_,hd,.tup (a:=c) h r=>by
  refine .tup ?_ (aC.pR hk (by rw [D.fz] at hd;exact hd) r)
  obtain ⟨h1,h2⟩:=ax h
  rw [bh]
  ·exact h2
  ·intro z
   rcases mem_append.mp z with z|z
   ·exact hk c z _ h2
   ·exact h1 z
 |_,_,hd,.lst _ _=>by cases hd
theorem aC.pR {H:Hp}{M own:List Addr}(hk:∀a∈own,∀ts,H a≠some (.tup ts)):∀{vs:List V} {ds:List D},D.jy ds=true->aC (but H M) vs ds->aC (but H (own++M)) vs ds
 |_,_,_,.nil=>.nil
 |_,_,hd,.cons h r=>by
  rw [D.jy,Bool.and_eq_true] at hd
  exact .cons (al.pR hk hd.1 h) (aC.pR hk hd.2 r)
end
section
variable {C CL:Addr}{H H':Hp}{Z Z':List Addr}{a:Addr}{oss:List (List Addr)}{lm:bR}
def gM.frame (h:gM C CL H Z a oss lm)(d:∀x∈a::oss.flatten,x∈Z')(k:∀b u,b∈a::oss.flatten->H b=some u->H' b=some u)(S:ab (but H Z) (but H' Z')):gM C CL H' Z' a oss lm:=by
 obtain ⟨f,g,i,j,l,m,r,n⟩:=h
 exact ⟨f,g,i,k _ _ Lz j,S _ _ l,m.yX (λos c x o=>d x<|Lv _<|Mv.mpr ⟨os,c,o⟩) (λb u p e=>by obtain ⟨os,c,q⟩:=p;exact k b u (Lv _<|Mv.mpr ⟨os,c,q⟩) e) S,d _ Lz,n⟩
def gM.IH (h:gM C CL H Z a oss lm):∀x∈a::oss.flatten,∀d,H x≠some (.tup d):=λx l d e=>by
 obtain ⟨v,y,A,m,B,f,E,G⟩:=h
 rcases LK.mp l with z|z
 .rw [z,m] at e;cases e
 .obtain ⟨os,n,o⟩:=Mv.mp z
  obtain ⟨j,g⟩:=Mt.mp n
  have c:j<lm.steps.length:=by rw [<-f.l2];exact (Lx.mp g).1
  obtain ⟨b,p,_,i,⟨r,I,J,L,M,N,O,s,t,_,_,_,k⟩,_⟩:=f.get j _<|Ly c
  rw [g] at i
  cases i
  subst s
  rcases LK.mp o with w|w
  .rw [w,t] at e;cases e
  .rcases LK.mp w with w|w
   .obtain ⟨u,q,_⟩:=k.kvs
    rw [w,q] at e;cases e
   .obtain ⟨Q,q⟩:=k.lists x w
    rw [q] at e;cases e
end
structure dk (C CL:Addr)(H:Hp)(Z:List Addr)(us:List V)(osss:List (List Addr))(lms:List bR):Prop where
 l1:us.length=lms.length
 l2:osss.length=lms.length
 get:∀(j:Nat) lm,lms[j]?=some lm->∃a oss,us[j]?=some (.ref a)/\osss[j]?=some (a::oss.flatten)/\gM C CL H Z a oss lm/\∀x∈a::oss.flatten,x∈Z
 apart:∀(i j:Nat) oi oj,i≠j->osss[i]?=some oi->osss[j]?=some oj->∀x∈oi,x∉oj
section
variable {C CL:Addr}{H H':Hp}{Z Z':List Addr}{us:List V}{osss:List (List Addr)}{lms:List bR}
def dk.fD (h:dk C CL H Z us osss lms):∀os∈osss,∀x∈os,x∈Z:=λos d x f=>by
 obtain ⟨j,c⟩:=Mt.mp d
 have b:j<lms.length:=by rw [<-h.l2];exact (Lx.mp c).1
 obtain ⟨a,g,_,e,_,i⟩:=h.get j _<|Ly b
 rw [c] at e
 cases e
 exact i x f
theorem dk.frame (h:dk C CL H Z us osss lms)(f:∀os∈osss,∀x∈os,x∈Z')(k:∀b u,(∃os∈osss,b∈os)->H b=some u->H' b=some u)(S:ab (but H Z) (but H' Z')):dk C CL H' Z' us osss lms:=
 ⟨h.l1,h.l2,λj i l=>by
  obtain ⟨a,c,m,g,A,_⟩:=h.get j i l
  have d:=LD g
  exact ⟨a,c,m,g,A.frame (f _ d) (λb u n e=>k b u ⟨_,d,n⟩ e) S,f _ d⟩,h.apart⟩
def dk.put{j:Nat}{os:ZX}{d:List ZX}(h:dk C CL H Z us osss lms)(l:ap Z H)(hj:lms[j]?=some Y)(ha:us[j]?=some (.ref a))(J:osss[j]?=some os)(p:a∈os)(n:∀x∈d.flatten,x∈os\/H x=none)
  (k:∀b u,b∉os->H b=some u->H' b=some u) (A:gM C CL H' (d.flatten++Z) a d v):dk C CL H' (d.flatten++Z) us (osss.set j (a::d.flatten)) (lms.set j v):=by
 have s:=h.fD os<|LD J
 have t:j<osss.length:=(Lx.mp J).1
 have L:j<lms.length:=(Lx.mp hj).1
 have S:ab (but H Z) (but H'<|d.flatten++Z):=λb u e=>by
  obtain ⟨M,N⟩:=ax e
  rw [bh]
  .exact k b u (λz=>M<|s b z) N
  .intro z
   rcases LY.mp z with z|z
   .rcases n b z with w|w
    .exact M<|s b w
    .rw [w] at N;cases N
   .exact M z
 have y:∀x∈a::d.flatten,x∈os\/H x=none:=λx f=>by
  rcases LK.mp f with z|z
  .rw [z];exact .inl p
  .exact n x z
 have E:∀(i:Nat) (r:ZX),i≠j->osss[i]?=some r->∀x∈a::d.flatten,x∉r:=λi r G g x f z=>by
  rcases y x f with w|w
  .exact h.apart j i os r (MC G) J g x w z
  .exact l x (h.fD r (LD g) x z) w
 refine ⟨by rw [M8];exact h.l1,by rw [M8,M8];exact h.l2,λi m g=>?_,λi O r I G g o x f z=>?_⟩
 .by_cases e:j=i
  .subst e
   rw [LM L] at g
   cases g
   refine ⟨a,d,ha,LM t,A,λx f=>?_⟩
   rcases LK.mp f with w|w
   .rw [w];exact LH _<|s a p
   .exact LL _ w
  .rw [LB e] at g
   obtain ⟨b,ob,e1,Q,B,T⟩:=h.get i m g
   refine ⟨b,ob,e1,by rw [LB e];exact Q,B.frame (λx f=>LH _<|T x f) (λc u hc q=>k c u (λw=>h.apart j i os _ e J Q c w hc) q) S,λx f=>LH _<|T x f⟩
 .by_cases e:j=i
  .subst e
   rw [LM t] at g
   cases g
   rw [LB G] at o
   exact E O I (MC G) o x f z
  .rw [LB e] at g
   by_cases U:j=O
   .subst U
    rw [LM t] at o
    cases o
    exact E i r (MC e) g x z f
   .rw [LB U] at o
    exact h.apart i O r I G g o x f z
end
def dj (T fs:List (List D)):List (List D):=fs.foldl (λT f=>if f∈T then T else T++[f]) T
def JK (T a:ZW)(f:ZZ):dj T (a++[f])=if f∈dj T a then dj T a else dj T a++[f]:=by
 unfold dj;rw [MS];rfl
theorem vh:∀(a T:ZW) (g:ZZ),g∈dj T a↔g∈T\/g∈a
 |[],T,g=>⟨.inl,λh=>h.elim id λz=>nomatch z⟩
 |f::r,T,g=>by
  show g∈dj (if f∈T then T else T++[f]) r↔_
  rw [vh r]
  by_cases e:f∈T
  .rw [LJ e]
   constructor
   .rintro (h|h)
    .exact .inl h
    .exact .inr<|Lv _ h
   .rintro (h|h)
    .exact .inl h
    .rcases LK.mp h with z|z
     .rw [z];exact .inl e
     .exact .inr z
  .rw [LG e]
   constructor
   .rintro (h|h)
    .rcases LY.mp h with z|z
     .exact .inl z
     .rw [L4.mp z];exact .inr Lz
    .exact .inr<|Lv _ h
   .rintro (h|h)
    .exact .inl<|LL _ h
    .rcases LK.mp h with z|z
     .rw [z];exact .inl<|LH _<|L4.mpr rfl
     .exact .inr z
theorem Az:∀(a T:ZW),T.length<=(dj T a).length
 |[],T=>LF _
 |f::r,T=>by
  show T.length<=(dj (if f∈T then T else T++[f]) r).length
  have:=Az r<|if f∈T then T else T++[f]
  refine L8 ?_ this
  split
  .exact LF _
  .rw [LR];omega
def Js (T a:ZW)(j:Nat):(dj T (a.take j)).length<=(dj T a).length:=by
 have e:dj T a=dj (dj T<|a.take j) (a.drop j):=by
  unfold dj
  rw [<-MS,Oc]
 rw [e]
 exact Az _ _
theorem Af:∀(a T:ZW),(T++a).Nodup->dj T a=T++a
 |[],T,_=>by rw [Mi];rfl
 |f::r,T,h=>by
  have b:f∉T:=λz=>by
   rw [Np] at h
   exact h.2.2 f z f Lz rfl
  show dj (if f∈T then T else T++[f]) r=_
  rw [LG b,Af r (T++[f]) (by rw [Mw];exact h),Mw]
  rfl
theorem vE:∀(a T:ZW),(∀f∈a,f∈T)->dj T a=T
 |[],T,_=>rfl
 |f::r,T,h=>by
  show dj (if f∈T then T else T++[f]) r=_
  rw [LJ<|h f Lz,vE r T λg b=>h g<|Lv _ b]
def fH (rules:List bJ)(lms:List bR)(facts:List (List D)):List (List D×List aH):=(rules.zip lms).map λq=>(q.1.1,fO (bT q.2 facts))
structure sQ (rules:List bJ)(lms:List bR)(T facts:List (List D)):Prop where
 pq:∀g∈facts,i6 g/\fR g
 tok:∀g∈T,fR g
 dH:∀lm∈lms,lm.steps.length<=100/\lm.taken+facts.length<2^60/\∀s∈lm.steps,dz s.cE/\s.of.length+facts.length<1000
 give:∀(j:Nat) r lm,rules[j]?=some r->lms[j]?=some lm->∃R sz,oJ (bT lm facts) r.1 R sz/\dF (bT lm facts) (bT lm facts).steps.length ([],[])<=8100000
 len:rules.length=lms.length
 all:(dj T facts++aI (bf 0 (fH rules lms facts) (dj T facts))).length<=1000
def CK (C CL CW:Addr):Sp:=λvs H Q _=>∃(Z:List Addr) (a dx:Addr) (vr:V) (ll td:Addr) (us:List V) (osss:List (List Addr)) (rules:List bJ) (lms:List bR) (T facts:List (List D)) (v1:V),vs=[.ref a,v1]/\ap Z H/\but H Z a=some (.ins CW dx (lO vr ll td))/\but H Z ll=some (.lst us)/\dk C CL H Z us osss lms/\td∈Z/\(∀os∈osss,td∉os)/\H td=some (.dT (cC T))/\al (but H Z) vr (.lst (rules.map a6))/\al (but H Z) v1 (.lst (facts.map D.tup))/\sQ rules lms T facts/\
 ∀v H' Z' osss',(∀b u,b≠td->(∀os∈osss,b∉os)->H b=some u->H' b=some u)->(∀x∈Z,x∈Z')->(∀x∈Z',x∈Z\/H x=none)->ap Z' H'->dk C CL H' Z' us osss' (lms.map λlm=>bT lm facts)->(∀os∈osss',∀x∈os,(∃o∈osss,x∈o)\/H x=none)->H' td=some (.dT (cC (dj T facts++aI (bf 0 (fH rules lms facts) (dj T facts)))))->al (but H' Z') v (.lst ((bf 0 (fH rules lms facts) (dj T facts)).map fx))->Q v H'
def J9 (x:bH)(h:bV x.1):(fx x).fz=true:=by
 refine uo λy a=>?_
 simp only [LK,Mj,ME] at a
 rcases a with rfl|rfl|rfl
 .exact iy h
 .rfl
 .exact iy λz b=>by
   obtain ⟨n,_,rfl⟩:=LS.mp b
   rfl
end FL
namespace FL
open PySem L2
section
variable {C CL:Addr}{H H':Hp}{Z:List Addr}{us:List V}{osss:List (List Addr)}{lms:List bR}
def dk.nil {us:List V}(h:us=[]):dk C CL H Z us [] []:=⟨by rw [h];rfl,rfl,λj a q=>by simp at q,λi j b c _ q=>by simp at q⟩
def dk.snoc{c:List ZX}(h:dk C CL H Z us osss lms)(l:ap Z H)(I:H x=none)(N:∀os∈c,∀y∈os,H y=none)(k:∀b u,H b=some u->H' b=some u)(A:gM C CL H' (c.flatten++x::Z) x c G):dk C CL H' (c.flatten++x::Z) (us++[.ref x]) (osss++[x::c.flatten]) (lms++[G]):=by
 have J:∀y∈x::c.flatten,H y=none:=λy d=>by
  rcases LK.mp d with z|z
  .rw [z];exact I
  .obtain ⟨os,v,w⟩:=Mv.mp z
   exact N os v y w
 have S:ab (but H Z) (but H' (c.flatten++x::Z)):=λb u e=>by
  obtain ⟨s,f⟩:=ax e
  rw [bh]
  .exact k b u f
  .intro z
   rcases LY.mp z with z|z
   .rw [J b<|Lv _ z] at f;cases f
   .rcases LK.mp z with z|z
    .rw [z,I] at f;cases f
    .exact s z
 have O:=h.frame (Z':=c.flatten++x::Z) (λos v y d=>LH _<|Lv _<|h.fD os v y d) (λb u _ e=>k b u e) S
 have E:∀t∈osss,∀y∈x::c.flatten,y∉t:=λt v y d z=>l y (h.fD t v y z)<|J y d
 refine ⟨by rw [LR,LR,h.l1];rfl,by rw [LR,LR,h.l2];rfl,λj m g=>?_,λi j t L M Q g y d z=>?_⟩
 .by_cases e:j<lms.length
  .rw [LZ e] at g
   obtain ⟨a,T,U,Y,B,hz⟩:=O.get j m g
   exact ⟨a,T,by rw [LZ (by rw [h.l1];exact e)];exact U,by rw [LZ (by rw [h.l2];exact e)];exact Y,B,hz⟩
  .rw [Ma<|Mp e] at g
   have p:j-lms.length=0:=by
    have:=(Lx.mp g).1
    simp at this
    exact this
   rw [p] at g
   have g:G=m:=by simpa using g
   subst g
   refine ⟨x,c,by rw [Ma (by rw [h.l1];omega),h.l1,p];rfl,by rw [Ma (by rw [h.l2];omega),h.l2,p];rfl,A,λy d=>?_⟩
   rcases LK.mp d with z|z
   .rw [z];exact LH _ Lz
   .exact LL _ z
 .have r:∀{n:Nat} {o:ZX},(osss++[x::c.flatten])[n]?=some o->(n<osss.length/\osss[n]?=some o)\/(n=osss.length/\o=x::c.flatten):=λ{n o} q=>by
   by_cases e:n<osss.length
   .rw [LZ e] at q;exact .inl ⟨e,q⟩
   .rw [Ma<|Mp e] at q
    have p:n-osss.length=0:=by
     have:=(Lx.mp q).1
     simp at this
     exact this
    rw [p] at q
    exact .inr ⟨by omega,by simpa using q.symm⟩
  rcases r Q with ⟨_,s⟩|⟨n1,s⟩
  .rcases r g with ⟨_,f⟩|⟨_,f⟩
   .exact h.apart i j t L M s f y d z
   .rw [f] at z;exact E t (LD s) y z d
  .rcases r g with ⟨_,f⟩|⟨n2,f⟩
   .rw [s] at d;exact E L (LD f) y d z
   .exact M<|n1.trans n2.symm
end
def FK{g:List bJ}{Q:VK}{K:W.Frag}(hw:Walk wi (but H M) σ (g.map a6))(l:ap M H)(az:∀r∈g,pJ r.2/\sX r.2)(i:g.length<=1000)
  (k:∀D A f s,(∀b u,H b=some u->s b=some u)->H D=none->s D=some (.lst A)->(∀os∈f,∀y∈os,H y=none/\y≠D)->ap (f.flatten++M) s->dk C I s (f.flatten++M) A f (g.map λr=>bM r.2)->Q (.ref D) s):
  iP wi (aY [] 1) (cv 0) jD (sn I (vD C I) [] L2.E0 (bo (bY (gf K) (aW 0) (tC (.int 1))) bA)) σ H Q:=hw M H (ab.refl _) l _ λJ O s1 bc T D hD=>by
 have lf:D∉M:=(l.same s1).fresh hD
 have HD:H D=none:=gR s1 hD
 refine ⟨λj m τ s=>m=(g.map a6).length-j/\j<=(g.map a6).length/\τ.length=1/\(∀b u,O b=some u->s b=some u)/\∃A f,s D=some (.lst A)/\dk C I s (f.flatten++D::M) A f ((g.take j).map λr=>bM r.2)/\(∀os∈f,∀y∈os,O y=none/\y≠D)/\ap (f.flatten++D::M) s,
  ⟨_,rfl,Mb _,rfl,λb u e=>by rw [aA<|da e hD];exact e,[],[],aR,dk.nil rfl,(λos p=>nomatch p),((l.same s1).upd).cons aR⟩,?_⟩
 rintro j m τ s ⟨rfl,hj,bd,kH,A,f,an,hL,hn,hl⟩
 have hs:ab (but O M) (but s (f.flatten++D::M)):=λb u e=>by
  obtain ⟨q1,q2⟩:=ax e
  rw [bh]
  .exact kH b u q2
  .intro z
   rcases LY.mp z with z|z
   .obtain ⟨os,p,w⟩:=Mv.mp z
    rw [(hn os p b w).1] at q2;cases q2
   .rcases LK.mp z with z|z
    .rw [z,hD] at q2;cases q2
    .exact q1 z
 by_cases ao:j<(g.map a6).length
 .have as:j<g.length:=by simpa using ao
  have hr:=Ly as
  have hd:(g.map a6)[j]?=some (a6 g[j]):=by rw [LO,hr];rfl
  have a0:=NW as
  generalize b6:g[j]=r at hr hd a0
  obtain ⟨bi,t⟩:=r
  obtain ⟨go,gy⟩:=bc j _ (f.flatten++D::M) s hd hs hl
  refine .inr ⟨go,λa1 n=>a1.length=1/\(∀b u,O b=some u->n b=some u)/\∃A f,n D=some (.lst A)/\dk C I n (f.flatten++D::M) A f ((g.take<|j+1).map λr=>bM r.2)/\(∀os∈f,∀y∈os,O y=none/\y≠D)/\ap (f.flatten++D::M) n,
   λa1 n q0=>by obtain ⟨a,b,c⟩:=q0;exact ⟨(g.map a6).length-(j+1),by omega,rfl,ao,a,b,c⟩,λx n hy=>?_⟩
  obtain ⟨s3,rx⟩:=gy x n hy
  have a2:=hl.same s3
  simp only [cv,jD,Ox]
  have h0:(τ.set 0<|some x)[0]?=some (some x):=LM Z4
  refine (b9 (K:=K) (ds:=[.tup bi,cf t]) (d:=cf t) rfl (cH h0 rx) aq) (f.flatten++D::M) n (ab.refl _) a2 _ λv L s4 r4=>λy U B bk b7=>?_
  have a3:=a2.same s4
  have E:=s4 _ _<|s3 _ _ an
  have S4:ab L (upd (upd L U (.own y)) y (.ins I U [])):=λb u e=>by rw [aA<|da e B,aA<|da e bk];exact e
  have back:∀{z:Addr},(upd (upd L U (.own y)) y (.ins I U [])) z=none->L z=none:=λ{z} e=>gR S4 e
  generalize bl:upd (upd L U (.own y)) y (.ins I U [])=H5 at S4 back
  have N:=az _ a0
  refine ⟨f.flatten++D::M,t,y,U,v,rfl,by rw [<-bl];exact aR,a3.same S4,r4.mono<|S4.but _,N.1,N.2,λY H6 k6 n6 l6 L6=>⟨rfl,?_⟩⟩
  have ac:∀b u,L b=some u->H6 b=some u:=λb u e=>k6 b u (da e B)<|S4 _ _ e
  have bs:dk C I L (f.flatten++D::M) A f ((g.take j).map λr=>bM r.2):=hL.frame hL.fD (λb u _ e=>s4 _ _<|s3 _ _ e)<|(s3.trans s4).but _
  have a4:=bs.snoc a3 B (λos p z i=>back<|n6 os p z i) ac L6
  have bt:=ac _ _ E
  have bx:=hL.l1
  rw [LA,Mr] at bx
  refine ⟨A,bt,cy Z4,by rw [M8];exact bd,λb u e=>?_,A++[.ref y],f++[y::Y.flatten],aR,?_,λos p z i=>?_,?_⟩
  .rw [aA<|da e hD]
   exact ac _ _<|s4 _ _<|s3 _ _<|kH b u e
  .have G:∀z,z∈(f++[y::Y.flatten]).flatten++D::M↔z∈Y.flatten++y::(f.flatten++D::M):=λz=>by
    simp only [Nn,MM,NU,Mi,LY,LK]
    constructor<;>(intro h;simp only [or_assoc] at h⊢;rcases h with h|h|h|h|h<;>simp [h])
   have b0:(g.take<|j+1).map (λr=>bM r.2)=(g.take j).map (λr=>bM r.2)++[bM t]:=by rw [Mm,hr,Me];rfl
   rw [b0]
   refine a4.frame (λos p z i=>(G z).mpr<|a4.fD os p z i) (λb u ⟨os,p,hb⟩ e=>?_) ?_
   .rw [aA λz=>?_]
    .exact e
    .subst z
     rcases LY.mp p with w|w
     .exact (hn os w _ hb).2 rfl
     .rw [L4.mp w] at hb
      rcases LK.mp hb with q|q
      .rw [<-q,E] at B;cases B
      .obtain ⟨o,af,q'⟩:=Mv.mp q
       rw [back<|n6 o af _ q'] at E;cases E
   .rw [dD<|(G D).mpr<|LH _<|Lv _<|LH _ Lz,kb G]
    exact ab.refl _
  .have aj:∀{z:Addr},L z=none->O z=none:=λ{z} e=>by
    cases q:O z with
    |none=>rfl
    |some u=>have:=s4 _ _<|s3 _ _<|kH z u q;rw [e] at this;cases this
   rcases LY.mp p with w|w
   .exact hn os w z i
   .rw [L4.mp w] at i
    have am:L z=none:=by
     rcases LK.mp i with q|q
     .rw [q];exact B
     .obtain ⟨o,af,q'⟩:=Mv.mp q
      exact back<|n6 o af _ q'
    exact ⟨aj am,λq=>by rw [q,E] at am;cases am⟩
  .refine ap.upd λz i=>l6 z ?_
   simp only [Nn,MM,NU,Mi,LY,LK] at i⊢
   simp only [or_assoc] at i⊢
   rcases i with h|h|h|h|h<;>simp [h]
 .have e:j=(g.map a6).length:=by omega
  subst e
  rw [LA,MO] at hL
  refine .inl ⟨T (f.flatten++D::M) s hs,k D A f s (λb u e=>kH b u<|s1 _ _ e) HD an (λos p y hy=>⟨gR s1 (hn os p y hy).1,(hn os p y hy).2⟩) (λz i=>hl z ?_) ?_⟩
  .rcases LY.mp i with w|w
   .exact LL _ w
   .exact LH _<|Lv _ w
  .refine hL.frame (λos p z i=>LL _<|Mv.mpr ⟨os,p,i⟩) (λb u _ e=>e) (dU λz i=>?_)
   rcases LY.mp i with w|w
   .exact LL _ w
   .exact LH _<|Lv _ w
def Av (C CL CW:Addr):Sp:=λvs H Q _=>∃(M:List Addr) (rules:List bJ) (x dx:Addr) (v1:V),vs=[.ref x,v1]/\H x=some (.ins CW dx [])/\ap M H/\x∉M/\al (but H M) v1 (.lst (rules.map a6))/\(∀r∈rules,pJ r.2/\sX r.2)/\rules.length<=100/\
 ∀ll td us osss H',(∀b u,b≠x->H b=some u->H' b=some u)->H' x=some (.ins CW dx (lO v1 ll td))->H td=none->H' td=some (.dT [])->(∀os∈osss,∀y∈os,H y=none/\y≠td)->but H' (td::(osss.flatten++M)) ll=some (.lst us)->ap (td::(osss.flatten++M)) H'->dk C CL H' (td::(osss.flatten++M)) us osss (rules.map λr=>bM r.2)->Q .av H'
end FL
namespace FL
open PySem L2
section
variable {X:Cx}{C:Addr}{N':List Str}{scope:Scope}{cl:List (Str×Addr)}{Ca:Addr}{fp:List Addr}{s:Shared}{H:Hp}
def IC {n:Nat}{x:Str}{ps:ZY}{sp:Sp}{e:Expr}{es:List Expr}{t:TA}{p pos:Pos}{k:Nat}(h:jo X.prog X.w X.K X.mg X.base n C x ps sp)(hr:cS (k+1) X.A)(ha:PA (bD X N' scope cl Ca fp s H) (e::es) t)(hle:n<=k:=by decide)
  (hg:Gl (bD X N' scope cl Ca fp s H) x:=by rfl) (hdb:(x==("__debug__":Str))=false:=by decide) (he:starEach (e::es) (bD X N' scope cl Ca fp s H).env=(false,eval e (bD X N' scope cl Ca fp s H).env)::starEach es (bD X N' scope cl Ca fp s H).env:=by rfl) (hpl:(backTo pos (starEach es (bD X N' scope cl Ca fp s H).env)).any (·.1)=false:=by rfl):
  PE (bD X N' scope cl Ca fp s H) (.Call (.Name x p) (e::es) [] pos) (sn C sp [] L2.E0 t):=wf (X:=bD X N' scope cl Ca fp s H) h hr ha hle hg hdb he hpl
end
end FL
namespace L2
open PySem PySem.Spec PyProof.Rows
section
variable {X:Cx}{tg:Expr}
end
end L2
namespace FL
open PySem L2
inductive iD (G:Hp):List V->List Sl->Prop
 |nil:iD G [] []
 |cons {v:V} {s:Sl} {vs:List V} {ss:List Sl}:j9 G (some (some v)) s->iD G vs ss->iD G (v::vs) (s::ss)
theorem iD.length:∀{a:List V} {b:List Sl},iD G a b->a.length=b.length
 |_,_,.nil=>rfl
 |_,_,.cons _ r=>MA (· +1) r.length
theorem iD.get:∀{a:List V} {b:List Sl} {i:Nat} {s:Sl},iD G a b->b[i]?=some s->∃v,a[i]?=some v/\j9 G (some (some v)) s
 |_,_,_,_,.nil,e=>by simp at e
 |_,_,0,_,.cons h _,e=>by simp at e;subst e;exact ⟨_,rfl,h⟩
 |_,_,i+1,s,.cons _ r,e=>by
  obtain ⟨v,c,d⟩:=iD.get (i:=i) (s:=s) r (by simpa using e)
  exact ⟨v,by simpa using c,d⟩
def Sl.shr:Sl->Sl
 |.k S=>.kd S|.t ps=>.td ps|.l xs=>.d (.lst xs)|s=>s
def nH (t:TA)(G:Hp)(σ:St)(ss:List Sl):Prop:=∀M H,ab G (but H M)->ap M H->∀Q:List V->Hp->Prop,(∀vs H',ab H H'->iD (but H' M) vs ss->Q vs H')->t σ H Q
def spS (R:List Sl->D->Prop):Sp:=λvs H Q _=>∃M ss d,ap M H/\iD (but H M) vs ss/\R ss d/\∀v H',ab H H'->al (but H' M) v d->Q v H'
def xt{R:List Sl->D->Prop}(c:∀a d,R a d->a.length=n):∀b H Q E,spS R b H Q E->b.length=n:=λb H Q E f=>by obtain ⟨M,a,d,l,r,e,k⟩:=f;rw [r.length];exact c a d e
section
variable {G:Hp}{σ:St}{δ:List Sl}{ta:TE}{t:TA}{d:D}{ss:List Sl}
def uY:nH bA G σ []:=λM H s l Q k=>k [] H (ab.refl _) .nil
def Lm (c:ae ta G σ d)(e:nH t G σ ss):nH (bo ta t) G σ (.d d::ss):=
 λM H s l Q k=>c M H s l _ λv f a g=>e M f (s.trans<|a.but M) (l.same a) _ λj h b i=>k _ h (a.trans b) (.cons ⟨v,rfl,g.mono<|b.but M⟩ i)
def bS.es{i:Nat}(e:bS G σ δ)(g:δ[i]?=some s)(j:s≠.no)(m:nH t G σ ss):nH (bo (aW i) t) G σ (s.shr::ss):=λM H c l Q k=>by
 have w:=(e.mono c).get i s g
 have:∃v,σ[i]?=some (some v)/\j9 (but H M) (some<|some v) s.shr:=by
  cases s with
  |no=>exact absurd rfl j
  |d x=>obtain ⟨v,h,r⟩:=w;exact ⟨v,h,v,rfl,r⟩
  |l x=>obtain ⟨v,h,r⟩:=w;exact ⟨v,h,v,rfl,r⟩
  |k x=>obtain ⟨a,h,r⟩:=w;exact ⟨.ref a,h,a,rfl,r⟩
  |t x=>obtain ⟨a,b,h,r⟩:=w;exact ⟨.ref a,h,a,b,rfl,r⟩
  |kd x=>obtain ⟨a,h,r⟩:=w;exact ⟨.ref a,h,a,rfl,r⟩
  |td x=>obtain ⟨a,b,h,r⟩:=w;exact ⟨.ref a,h,a,b,rfl,r⟩
 obtain ⟨v,n,o⟩:=this
 exact ⟨v,n,m M H c l _ λu p f q=>k _ p f (.cons (o.mono<|f.but M) q)⟩
def wx{R:List Sl->D->Prop}(b:R ss d)(h:nH t G σ ss):ae (iF (spS R) [] E t) G σ d:=
 λM H s l Q k=>h M H s l _ λi j a c=>⟨M,ss,d,l.same a,by rw [Mi];exact c,b,λv e f g=>k v e (a.trans f) g⟩
end
def xl {M:ZX}{H:Hp}{vs:List V}{ss:List Sl}(l:ap M H)(r:iD (but H M) vs ss)(ho:∀s∈ss,s.own=false)(N:ZY):Bx H M [] (L2.start N vs) H (ss++List.replicate (N.length-ss.length) .no):=by
 have hl:=r.length
 have own0:∀{j:Nat} {s:Sl},(ss++List.replicate (N.length-ss.length) Sl.no)[j]?=some s->s.own=true->False:=λ{j s} h k=>by
  rcases LY.mp (LD h) with z|z
  .rw [ho s z] at k;cases k
  .rw [(List.mem_replicate.mp z).2] at k;cases k
 refine ⟨by simp [L2.start,hl],ab.refl _,l,(λa ha=>nomatch ha),λi s q=>?_,λi j s t a _ hs _ ks _ _ _=>own0 hs ks⟩
 by_cases hi:i<ss.length
 .rw [LZ hi] at q
  obtain ⟨v,h1,h2⟩:=r.get q
  have hv:(L2.start N vs)[i]?=some (some v):=by
   unfold L2.start
   rw [LZ (by simpa using (by omega:i<vs.length)),LO,h1]
   rfl
  rw [hv]
  have:=ho s (LD q)
  cases s with
  |no=>trivial
  |d x=>exact h2
  |l x=>cases this
  |k x=>cases this
  |t x=>cases this
  |kd x=>exact h2
  |td x=>exact h2
 .rw [Ma (Mp hi)] at q
  obtain ⟨h1,h2⟩:=Lx.mp q
  simp at h2
  subst h2
  trivial
section
variable {B:Hp}{M0:List Addr}{δ:List Sl}{E:Ends}{t:TA}
end
end FL
namespace FL
open PySem L2
def uH (f:List D):Prop:=∃r xs,f=.str r::xs/\∀x∈xs,x.sc=true
def zf:List D->D->Prop:=λds d=>∃f,ds=[.tup f]/\uH f/\d=.bl true
def x3:List D->D->Prop:=λds d=>∃as,ds=[cf as]/\yc as/\d=fX (aT [] as)
def ym:List Sl->D->Prop:=λss d=>∃a ps,ss=[.d (.tup a),.td ps]/\zS a/\d=.bl (fb (ps.map (·.1)) a)
section
variable {G:Hp}{σ:St}{δ:List Sl}{ty:TE}{j:Nat}{ps:List (List D×D)}{key:List D}{d:D}
def bS.lg (e:bS G σ δ)(a:δ[j]?=some (.td ps)):bS G σ (δ.set j (.t ps))/\(δ.set j (.t ps))[j]?=some (.t ps):=⟨⟨by rw [M8];exact e.len,λi s q=>by
 rcases NG q with ⟨rfl,rfl,_⟩|⟨_,h⟩
 .exact e.get _ (.td ps) a
 .exact e.get i s h⟩,LM (Lx.mp a).1⟩
def bS.Ir (e:bS G σ δ)(a:δ[j]?=some (.td ps))(b:bV key)(h:ae ty G σ (.tup key)):ae (pP ty (aW j)) G σ (.bl (decide (key∈ps.map (·.1)))):=(e.lg a).1.Ay (e.lg a).2 b h
def bS.F5 (e:bS G σ δ)(a:δ[j]?=some (.td ps))(b:bV key)(h:ae ty G σ (.tup key)):ae (nZ ty (aW j)) G σ (.bl (!decide (key∈ps.map (·.1)))):=(e.lg a).1.GC (e.lg a).2 b h
def bS.vZ (e:bS G σ δ)(a:δ[j]?=some (.td ps))(b:bV key)(c:dX ps key=some d)(h:ae ty G σ (.tup key)):ae (rP (aW j) ty) G σ d:=(e.lg a).1.atT (e.lg a).2 b c h
end
structure dL (pool:List D):Prop where
 len:pool.length=3\/pool.length=10
 nodup:pool.Nodup
 gp:∀x∈pool,GP x
 nb:∀x∈pool,aJ x=false
def rC.k(h:rC a):dL a:=⟨.inl h.len,h.nodup,h.gp,h.nb⟩
def tG:List D:=(List.range 10).map λ(k:Nat)=>D.int (0+(k:Int))
def Ik:dL tG:=⟨.inr (by simp [tG]),Z9,λx a=>by obtain ⟨k,_,rfl⟩:=LS.mp a;exact rn _,λx a=>by obtain ⟨k,_,rfl⟩:=LS.mp a;rfl⟩
def IW:D->List D
 |.lst l=>l|_=>[]
def i9 (ms:List Int):List D:=if ms.getD 0 0%4=3 then tG else IW ((nY (ms.getD 1 0%1000)).getD (ms.getD 0 0/4%(4:Nat)).toNat .av)
def Ba (a:List Int):dL (i9 a):=by
 unfold i9
 split
 .exact Ik
 .obtain ⟨d,_,c,f⟩:=fG (l:=nY<|a.getD 1 0%1000) (n:=4) (a.getD 0 0/4) Z1 rfl
  obtain ⟨b,e,g⟩:=BC (Qb (a.getD 1 0) (show (1000:Int)≠0 by decide)) d c
  rw [<-f,e]
  exact g.k
def xh:List D->D->Prop:=λds d=>∃ms:List Int,ds=[.lst (ms.map D.int)]/\d=.lst (i9 ms)
def z8 {x:D}(h:x.sc=true):(!tJ x&& !f6 x)=false:=by
 have:=KP h
 unfold CV at this
 revert this
 cases tJ x<;>cases f6 x<;>simp
end FL
namespace FL
open PySem L2
def dB:List (Str×Nat):=[("road",2),("roam",2),("kin",2),("near",2),("mark",1),("rain",0)]
def jC:List (Str×Nat):=dB++([("less",2),("unlike",2)]:List (Str×Nat))
def jh (a:List D):Prop:=∃w xs,a=D.str w::xs/\(w,xs.length)∈jC/\∀x∈xs,GP x
def ml (pool h:List D):Prop:=∃w xs,h=D.str w::xs/\(w,xs.length)∈dB/\∀x∈xs,x∈pool\/x∈dn
def jW(h:(w,n)∈jC):lT (.str w)/\aJ (.str w)=false/\n<=2/\(decide (D.str w=.str "less")||decide (D.str w=.str "unlike"))=decide ((w,n)∉dB)/\((w,n)∉dB->n=2):=by
 simp only [jC,dB,OI,NK,LK,Mj,ME,Prod.mk.injEq] at h
 rcases h with ⟨rfl,rfl⟩|⟨rfl,rfl⟩|⟨rfl,rfl⟩|⟨rfl,rfl⟩|⟨rfl,rfl⟩|⟨rfl,rfl⟩|⟨rfl,rfl⟩|⟨rfl,rfl⟩<;>exact ⟨⟨by decide,_,_,rfl⟩,Z9,by decide,Z9,Z9⟩
def jh.at_(h:jh a):lF a:=by
 obtain ⟨w,f,rfl,b,c⟩:=h
 obtain ⟨d,e,g,_⟩:=jW b
 exact DT d e c Z4
def jh.gd(h:jh a)(b:aE a=true):∃r x y,a=[.str r,x,y]:=by
 obtain ⟨w,c,rfl,d,g⟩:=h
 obtain ⟨_,_,_,e,f⟩:=jW d
 have b:(decide (D.str w=.str "less")||decide (D.str w=.str "unlike"))=true:=b
 rw [e] at b
 have:=f<|LW b
 match c,this with
 |[x,y],_=>exact ⟨w,x,y,rfl⟩
structure db (pool:List D)(r:bJ):Prop where
 at_:∀a∈r.2,jh a
 hd:ml pool r.1
 hb:∀y∈r.1,aJ y=true->∃a∈r.2,aE a=false/\y∈a
 gb:∀g∈r.2,aE g=true->∀y∈g,aJ y=true->∃a∈r.2,aE a=false/\y∈a
 dH:r.2.length<=3
def c7 (body:List (List D)):List (List D):=body.filter λa=> !aE a
def kz{b:ZW}(h:∃a∈b,aE a=false/\y∈a)(c:aJ y=true):y.name∈aT [] (c7 b):=by
 obtain ⟨a,d,e,f⟩:=h
 exact pG (LP.mpr ⟨d,by rw [e];rfl⟩) f c
def db.bi(h:db b r):BI (c7 r.2) r.2:=by
 refine ⟨rfl,λa d=>(h.at_ a d).at_,λg c e=>?_,L8 (Ml _ _) h.dH⟩
 obtain ⟨w,x,y,rfl⟩:=(h.at_ g c).gd e
 have f:=(h.at_ _ c).at_.hd
 exact ⟨⟨w,x,y,rfl⟩,Ez f (λq=>kz (h.gb _ c e x Z8 q) q) λq=>kz (h.gb _ c e y Z8 q) q⟩
theorem ml.sc(a:dL pool)(k:ml pool h):(∀x∈h,x.sc=true)/\h.length<=3:=by
 obtain ⟨w,e,rfl,b,c⟩:=k
 have f:=(jW<|LL _ b).2.2.1
 refine ⟨λx d=>?_,by rw [Mq];omega⟩
 rcases LK.mp d with z|z
 .rw [z];rfl
 .rcases c x z with q|q
  .exact (a.gp x q).1
  .exact (pU x q).1
def nJ(h:(w,2)∈jC)(a:GP x)(b:GP y):jh [.str w,x,y]:=⟨w,[x,y],rfl,h,by simp [a,b]⟩
def IG(h:(w,1)∈jC)(a:GP x):jh [.str w,x]:=⟨w,[x],rfl,h,by simp [a]⟩
def dw{a:ZZ}(h:(w,2)∈dB)(b:x∈a\/x∈dn)(c:y∈a\/y∈dn):ml a [.str w,x,y]:=⟨w,[x,y],rfl,h,by simp [b,c]⟩
def vy{a:ZZ}(h:(w,1)∈dB)(b:x∈a\/x∈dn):ml a [.str w,x]:=⟨w,[x],rfl,h,by simp [b]⟩
def kJ:ml a [.str "rain"]:=⟨"rain",[],rfl,by simp [dB],by simp⟩
def u8 (one two:D)(l r h:List D)(u v:D):List bJ:=[
 ([.str "roam",.str "X",.str "Xy"],[[.str "road",.str "X",.str "Xy"]]),
 ([.str "roam",.str "X",.str "Z"],[[.str "roam",.str "X",.str "Xy"],[.str "road",.str "Xy",.str "Z"]]),
 ([.str "mark",.str "Xy"],[[.str "mark",.str "X"],[.str "road",.str "X",.str "Xy"]]),
 ([.str "kin",.str "Xy",.str "X"],[[.str "kin",.str "X",.str "Xy"]]),
 ([.str "near",.str "X",.str "Xy"],[[.str "road",.str "X",.str "Z"],[.str "unlike",.str "X",.str "Xy"],[.str "road",.str "Xy",.str "Z"]]),
 ([.str "rain"],[[.str "mark",one],[.str "roam",.str "X",.str "X"]]),
 ([.str "roam",.str "X",.str "Z"],[[.str "roam",.str "X",.str "Xy"],[.str "roam",.str "Xy",.str "Z"]]),
 ([.str "mark",two],[[.str "rain"]]),
 ([.str "kin",.str "X",.str "Z"],[[.str "kin",.str "X",.str "Xy"],[.str "kin",.str "Xy",.str "Z"],[.str "unlike",.str "X",.str "Z"]]),
 ([.str "road",.str "X",.str "Xy"],[[.str "less",.str "X",.str "Xy"],[.str "kin",.str "X",.str "Xy"]]),
 ([.str "kin",.str "X",one],[[.str "mark",.str "X"],[.str "less",two,.int 3]]),
 ([.str "mark",one],[[.str "less",.int 0,.int 1]]),
 (h,[l,r]),
 (h,[l,[.str "less",u,v],r])]
def wb(h:w∈(["road","roam","kin","near","mark","rain","less","unlike"]:ZY)):aJ (.str w)=false:=by
 simp only [LK,Mj,ME] at h
 rcases h with rfl|rfl|rfl|rfl|rfl|rfl|rfl|rfl<;>decide+kernel
def wg:aE (.str w::a)=(decide (w="less")||decide (w="unlike")):=by
 unfold aE
 simp
def pz:a∈a::l:=Lz
def jb{a:c}:b∈a::b::l:=Lv _ pz
def jj{a:d}:c∈a::b::c::l:=Lv _ jb
def ig:List Str:=["road","roam","kin"]
def Ds(s:dL b)(E:f∈b)(G:g∈b)(L:k∈ig)(M:l∈ig)(N:C∈ig)(O:∀x∈[i,c,d,j],x∈b\/x∈dn)(gh:∀x∈[o,q],x∈[i,c,d,j]):
  ∀r∈u8 f g [.str k,i,c] [.str l,d,j] [.str C,o,q] c d,db b r:=by
 have Q:=s.gp f E
 have T:=s.gp g G
 have n1:=s.nb f E
 have n2:=s.nb g G
 have n:∀x∈[i,c,d,j],GP x:=λx H=>(O x H).elim (s.gp x)<|pU x
 have b1:=wb (w:="road") Z8
 have b2:=wb (w:="roam") Z8
 have b3:=wb (w:="kin") Z8
 have b4:=wb (w:="near") Z8
 have b5:=wb (w:="mark") Z8
 have b6:=wb (w:="rain") Z8
 have b7:=wb (w:="less") Z8
 have b8:=wb (w:="unlike") Z8
 have U:∀w∈ig,(w,2)∈dB/\aJ (.str w)=false/\¬w="less"/\¬w="unlike":=λw hw=>by
  simp only [ig,LK,Mj,ME] at hw
  rcases hw with rfl|rfl|rfl
  .exact ⟨by simp [dB],b1,by decide,by decide⟩
  .exact ⟨by simp [dB],b2,by decide,by decide⟩
  .exact ⟨by simp [dB],b3,by decide,by decide⟩
 obtain ⟨Y,aj,t,u⟩:=U k L
 obtain ⟨ac,am,v,y⟩:=U l M
 obtain ⟨af,an,ao,as⟩:=U C N
 have lB:∀{p:Str×Nat},p∈dB->p∈jC:=λh=>LL _ h
 have A:=gh o Z8
 have B:=gh q Z8
 have xX:D.str "X"∈dn:=by simp [dn]
 have xY:D.str "Xy"∈dn:=by simp [dn]
 have xZ:D.str "Z"∈dn:=by simp [dn]
 have A0:jh [.str "rain"]:=⟨"rain",[],rfl,by simp [jC,dB],by simp⟩
 have hl:=nJ (lB Y) (n i Z8)<|n c Z8
 have hr:=nJ (lB ac) (n d Z8)<|n j Z8
 have hg:jh [.str "less",c,d]:=nJ (by simp [jC]) (n c Z8)<|n d Z8
 have hh:ml b [.str C,o,q]:=dw af (O o A)<|O q B
 have e:∀{m:ZW},[D.str k,i,c]∈m->[D.str l,d,j]∈m->∀x∈[i,c,d,j],∃a∈m,aE a=false/\x∈a:=λ{m} m1 m2 x H=>by
  have I:aE [D.str k,i,c]=false:=by rw [wg];simp [t,u]
  have J:aE [D.str l,d,j]=false:=by rw [wg];simp [v,y]
  simp only [LK,Mj,ME] at H
  rcases H with rfl|rfl|rfl|rfl
  .exact ⟨_,m1,I,by simp⟩
  .exact ⟨_,m1,I,by simp⟩
  .exact ⟨_,m2,J,by simp⟩
  .exact ⟨_,m2,J,by simp⟩
 have no:∀{x:D} {p:Prop},aJ x=false->aJ x=true->p:=λh z=>by rw [h] at z;cases z
 have I:¬aE [D.str k,i,c]=true:=by rw [wg];simp [t,u]
 have J:¬aE [D.str l,d,j]=true:=by rw [wg];simp [v,y]
 intro r hm
 simp only [u8,LK,Mj,ME] at hm
 rcases hm with rfl|rfl|rfl|rfl|rfl|rfl|rfl|rfl|rfl|rfl|rfl|rfl|rfl|rfl
 all_goals refine ⟨?_,?_,?_,?_,by simp⟩
 all_goals dsimp only
 all_goals first
  |exact hh
  |exact kJ
  |(refine dw (by simp [dB]) ?_ ?_<;>simp [dn,E,G])
  |(refine vy (by simp [dB]) ?_<;>simp [dn,E,G])
  |skip
 all_goals simp only [List.forall_mem_cons,Mj,false_imp_iff,implies_true,and_true]
 all_goals repeat' apply And.intro
 all_goals first
  |exact hl
  |exact hr
  |exact hg
  |exact A0
  |exact nJ (by simp [jC,dB]) (by first|exact qY|exact tH|exact uw|exact rn _|exact Q|exact T) (by first|exact qY|exact tH|exact uw|exact rn _|exact Q|exact T)
  |exact IG (by simp [jC,dB]) (by first|exact qY|exact tH|exact uw|exact Q|exact T)
  |exact no (by first|assumption|rfl)
  |exact λ_=>⟨_,pz,by rw [wg];decide+kernel,jb⟩
  |exact λ_=>⟨_,pz,by rw [wg];decide+kernel,jj⟩
  |exact λ_=>⟨_,jb,by rw [wg];decide+kernel,jb⟩
  |exact λ_=>⟨_,jb,by rw [wg];decide+kernel,jj⟩
  |exact λ_=>⟨_,jj,by rw [wg];decide+kernel,jb⟩
  |exact λ_=>⟨_,jj,by rw [wg];decide+kernel,jj⟩
  |exact λ_=>e Z8 Z8 _ A
  |exact λ_=>e Z8 Z8 _ B
  |exact λz=>absurd z I
  |exact λz=>absurd z J
  |(intro z;rw [wg] at z;exact absurd z Z9)
  |skip
 all_goals intro _
 all_goals repeat' apply And.intro
 all_goals first
  |exact no (by first|assumption|rfl)
  |exact λ_=>⟨_,pz,by rw [wg];decide+kernel,jb⟩
  |exact λ_=>⟨_,pz,by rw [wg];decide+kernel,jj⟩
  |exact λ_=>⟨_,jb,by rw [wg];decide+kernel,jb⟩
  |exact λ_=>⟨_,jb,by rw [wg];decide+kernel,jj⟩
  |exact λ_=>⟨_,jj,by rw [wg];decide+kernel,jb⟩
  |exact λ_=>⟨_,jj,by rw [wg];decide+kernel,jj⟩
  |exact λ_=>e Z8 Z8 _ Z8
def jH (w:Str)(xs:List D):bJ:=(.str w::xs,[])
def wY{c:ZZ}(f:dL b)(h:(w,c.length)∈dB)(e:∀x∈c,x∈b):db b (jH w c):=by
 refine ⟨(λa d=>nomatch d),⟨w,c,rfl,h,λx q=>.inl<|e x q⟩,λy g q=>?_,(λa d=>nomatch d),Mb _⟩
 rcases LK.mp g with z|z
 .rw [z,(jW<|LL _ h).2.1] at q;cases q
 .rw [f.nb y<|e y z] at q;cases q
theorem uQ:∀{a:ZZ},bV a->D.fw a=0
 |[],_=>by simp [D.fw]
 |x::r,h=>by
  have b:=h x Lz
  have c:=uQ (a:=r) λy d=>h y<|Lv _ d
  rw [D.fw,c]
  cases x<;>first|rfl|(simp [D.sc] at b)
theorem su:∀{l m:ZW},(∀a∈l,bV a)->(∀a∈m,bV a)->fY (l.map D.tup) (m.map D.tup)=true/\D.fw (l.map D.tup)<=1
 |[],m,_,_=>⟨by simp [fY],by simp [D.fw]⟩
 |a::l,m,h,k=>by
  have d:=h a Lz
  have e:D.fw ((a::l).map D.tup)<=1:=by
   rw [Mu,D.fw,D.cI,uQ d]
   exact Nat.max_le.mpr ⟨LF _,(su (l:=l) (m:=[]) (λx c=>h x<|Lv _ c) λx c=>nomatch c).2⟩
  cases m with
  |nil=>exact ⟨by simp [fY],e⟩
  |cons b m=>
   refine ⟨?_,e⟩
   rw [Mu,Mu,fY,(wS d<|k b Lz).1]
   exact (su (l:=l) (m:=m) (λx c=>h x<|Lv _ c) λx c=>k x<|Lv _ c).1
def IF {r s:bJ}(b:bV r.1)(c:∀a∈r.2,bV a)(d:bV s.1)(e:∀a∈s.2,bV a):cn (a6 r) (a6 s)=true/\(a6 r).cI<=40:=by
 obtain ⟨f,g⟩:=su c e
 unfold a6 cf
 refine ⟨?_,?_⟩
 .rw [cn,fY,(wS b d).1,fY,cn,f]
  simp [fY]
 .rw [D.cI,D.fw,D.cI,uQ b,D.fw,D.cI,D.fw]
  simp only [Nat.max_def]
  split<;>split<;>omega
def EW(h:a6 r=a6 s):r=s:=by
 unfold a6 cf at h
 injection h with h
 injection h with d c
 injection d with d
 injection c with c _
 injection c with c
 have:r.2=s.2:=(Pz λa b e=>by injection e).mp c
 exact Prod.ext d this
theorem db.sc(b:dL pool)(h:db pool r):bV r.1/\∀a∈r.2,bV a:=⟨(h.hd.sc b).1,λa c x d=>((h.at_ a c).at_.ok x d).1⟩
def JD {r:bJ}(c:bV r.1)(d:∀a∈r.2,bV a):(a6 r).fz=true:=uo λx b=>by
 simp only [LK,Mj,ME] at b
 rcases b with rfl|rfl
 .exact iy c
 .exact uo λy e=>by
   obtain ⟨a,f,rfl⟩:=LS.mp e
   exact iy<|d a f
def wV:bJ:=([.str "mark",.str "Xy"],[[.str "mark",.str "X"],[.str "road",.str "X",.str "Xy"]])
def tN (pool:List D)(r:bJ):Prop:=r=wV\/(∃x∈pool,∃y∈pool,r=jH "road" [x,y])\/∃x∈pool,r=jH "mark" [x]
structure gi (pool:List D)(rs:List bJ):Prop where
 ok:∀r∈rs,db pool r
 tY:pool.length=10->∀r∈rs,tN pool r
 nd:rs.Nodup
def gi.snoc(h:gi c d)(g:db c r)(i:c.length=10->tN c r)(j:r∉d):gi c (d++[r]):=by
 refine ⟨λx f=>?_,λe x f=>?_,?_⟩
 .rcases LY.mp f with z|z
  .exact h.ok x z
  .rw [L4.mp z];exact g
 .rcases LY.mp f with z|z
  .exact h.tY e x z
  .rw [L4.mp z];exact i e
 .rw [Np]
  exact ⟨h.nd,by simp,λa k b l e=>j (by rw [L4.mp l] at e;rw [<-e];exact k)⟩
def zR (ds:List D):Prop:=∃seed pool a b c,ds=[.int seed,.lst pool,.int a,.int b,.int c]/\dL pool
def B5 (ds:List D)(d:D):Prop:=∃seed pool a b c,∃rs:List bJ,ds=[.int seed,.lst pool,.int a,.int b,.int c]/\d=.lst (rs.map a6)/\rs.length=14/\(∀r∈rs,db pool r)/\rs[2]?=some wV
def yo (ds:List D):Prop:=∃ms:List Int,ds=[.lst (ms.map D.int)]/\ms.length<=1000
def AA (ds:List D)(d:D):Prop:=∃(ms:List Int) (rs:List bJ),ds=[.lst (ms.map D.int)]/\d=.lst (rs.map a6)/\gi (i9 ms) rs/\rs.length<=30
def Hk {xs:List V}(k n:Nat):gQ xs (some (k:Int)) (some ((k+n:Nat):Int))=(xs.drop k).take n:=by
 unfold gQ
 rw [HT.qt,HT.qt]
 by_cases h:k<=xs.length
 .rw [N8 h]
  by_cases h2:k+n<=xs.length
  .rw [N8 h2,NT]
  .rw [OU Z4,Mh Z8,Mh (by rw [Oi];omega)]
 .rw [OU (show xs.length<=k by omega),N4 (LF _),N4 Z4,Qq,Qq]
def Fu{K:W.Frag}{k n m:Nat}(g:m=k+n)(h:ae c G b (.lst l)):ae (ve (AB K) c (qZ (tC (.int (k:Int)))) (qZ (tC (.int (m:Int))))) G b (.lst ((l.drop k).take n)):=
 λM H s d Q q=>h M H s d _ λx t e i=>⟨(k:Int),rfl,(m:Int),rfl,by
  obtain ⟨a,j,rfl,o,r⟩:=i.d7
  refine ⟨a,j,rfl,aP.of (ax o).2,λp f=>?_⟩
  rw [g,Hk]
  exact q _ _ (e.trans<|dr f _)<|qC (d.same e) f<|(r.drop k).take n⟩
end FL
namespace FL
open PySem L2
section
variable {B:Hp}{M0:List Addr}{δ:List Sl}{E:Ends}{te:TE}{d1 d2:D}
end
structure yO (pool:List D)(rules:List bJ)(facts:List (List D))(x:bH)(r:bJ)(V:Str->D):Prop where
 at_:rules[x.2.1]?=some r
 rk:db pool r
 pk:dL pool
 Jk:eG facts V (c7 r.2) x.2.2
 sc:∀b∈aT [] (c7 r.2),(V b).sc=true
 gs:O5.gv (r.2.filter aE) (ar V (aT [] (c7 r.2)))=true
 hd:x.1=r.1.map (bb V)
 fd:uH x.1
def Ac{V:Str->D}(h:aJ x=true):bb V x=V x.name:=by unfold bb;rw [LJ h]
end FL
namespace FL
open PySem L2
section
variable {B:Hp}{M0 own:List Addr}{σ:St}{H:Hp}{δ:List Sl}{E:Ends}{te:TE}{d:D}
def Bx.free (b:Bx B M0 own σ H δ)(h:∀s∈δ,s.own=false):Bx B M0 [] σ H δ:=by
 refine ⟨b.len,b.same,b.hX,(λa e=>nomatch e),λi s q=>?_,λi j s t a _ f _ c _ _ _=>?_⟩
 .have w:=b.wide.get i s q
  have:=h s<|LD q
  cases s with
  |no=>trivial
  |d x=>exact w
  |kd x=>exact w
  |td x=>exact w
  |l x=>cases this
  |k x=>cases this
  |t x=>cases this
 .rw [h s<|LD f] at c;cases c
end
def Am{b:List (ZZ×D)}(h:a∈b.map (·.1)):∃d,dX b a=some d/\(a,d)∈b:=by
 have:=pW a b
 rw [LV h] at this
 unfold dX at this⊢
 cases e:b.find? λp=>decide (p.1=a) with
 |none=>rw [e] at this;cases this
 |some p=>
  have c:=List.find?_some e
  have c:p.1=a:=LW c
  exact ⟨p.2,rfl,by rw [<-c];exact List.mem_of_find?_eq_some e⟩
def Eu {d:ZW}(g:∀a∈d,lF a):(aT [] d).length<=3:=by
 have i:∀b∈(aT [] d).map D.str,b∈dn:=λb j=>by
  obtain ⟨c,k,rfl⟩:=LS.mp j
  exact (Kb g k).1
 have h:=lp (Lf (f:=D.str) (xi (as:=d) NQ) λx _ y _ e=>by injection e) i
 rw [LA] at h
 exact h
def Ax(h:gk b body c=true)(f:a∈c7 body)(d:a≠[]):bQ c a∈b:=by
 obtain ⟨i,j⟩:=LP.mp f
 have e:=NV.mp h a i
 have g:aE (bQ c a)=false:=by rw [AW d];simpa using j
 unfold aE at g
 rw [NF] at g
 unfold fb at e
 rw [LG<|MB g.2,LG<|MB g.1] at e
 exact LW e
end FL
namespace FL
open PySem PySem.Spec L2
section
variable {X:Cx}{pins:List (Addr×Obj)}{σ:St}{H:Hp}{s:Shared}{A:Around}{E:Value->Shared->Prop}{Q:Value->Shared->Prop}{b:Bool}
end
mutual
def D.plain:D->Bool
 |.int _=>true
 |.str _=>true
 |.tup l=>D.xx l
 |.lst l=>D.xx l
 |_=>false
def D.xx:List D->Bool
 |[]=>true
 |a::r=>D.plain a&&D.xx r
end
mutual
def D.sz:D->Nat
 |.tup l=>D.xk l+1
 |.lst l=>D.xk l+1
 |_=>1
def D.xk:List D->Nat
 |[]=>0
 |a::r=>D.sz a+D.xk r
end
end FL
namespace FL
open PySem L2
def fJ (pool f:List D):Prop:=∃w xs,f=D.str w::xs/\(w,xs.length)∈dB/\∀x∈xs,x∈pool
structure Aj (pool:List D)(facts:List (List D)):Prop where
 hd:∀f∈facts,fJ pool f
 nd:facts.Nodup
 dH:facts.length<=150
def fJ.flat(d:dL a)(h:fJ a f):i6 f/\fR f/\uH f:=by
 obtain ⟨w,c,rfl,j,e⟩:=h
 have g:∀x∈c,x.sc=true:=λx b=>(d.gp x<|e x b).1
 have i:bV (D.str w::c):=λx b=>by
  rcases LK.mp b with z|z
  .rw [z];rfl
  .exact g x z
 refine ⟨⟨(λz=>nomatch z),i⟩,⟨i,λx b=>?_⟩,⟨w,c,rfl,g⟩⟩
 rcases LK.mp b with z|z
 .rw [z];exact (jW<|LL _ j).2.1
 .exact d.nb x<|e x z
def ow (pool:List D):List (List D):=((["road","roam","kin","near"]:List Str).flatMap λw=>pool.flatMap λx=>pool.map λy=>[D.str w,x,y])++(pool.map λx=>[D.str "mark",x])++[[D.str "rain"]]
theorem m6(f:b->List c):∀l:List b,(∀x∈l,(f x).length=n)->(l.flatMap f).length=l.length*n
 |[],_=>by simp
 |a::r,h=>by
  rw [MI,LR,h a Lz,m6 f r λx d=>h x<|Lv _ d,Mq,Qa,Qu]
def Fi {a:ZZ}(h:a.length<=10):(ow a).length<=411:=by
 unfold ow
 rw [LR,LR,LA,m6 (n:=a.length*a.length) _ _ λw _=>m6 (n:=a.length) _ _ λx _=>by rw [LA]]
 have:a.length*a.length<=10*10:=Nat.mul_le_mul h h
 show 4*_+_+1<=411
 omega
def fJ.mem(h:fJ a f):f∈ow a:=by
 obtain ⟨w,d,rfl,g,c⟩:=h
 have b:w∈(["road","roam","kin","near"]:ZY)->d.length=2->D.str w::d∈ow a:=λi j=>by
  match d,j,c with
  |[x,y],_,c=>exact LL _<|LL _<|M4.mpr ⟨w,i,M4.mpr ⟨x,c x Z8,LS.mpr ⟨y,c y Z8,rfl⟩⟩⟩
 simp only [dB,LK,Mj,ME,Prod.mk.injEq] at g
 rcases g with ⟨rfl,e⟩|⟨rfl,e⟩|⟨rfl,e⟩|⟨rfl,e⟩|⟨rfl,e⟩|⟨rfl,e⟩
 .exact b Z8 e
 .exact b Z8 e
 .exact b Z8 e
 .exact b Z8 e
 .match d,e,c with
  |[x],_,c=>exact LL _<|LH _<|LS.mpr ⟨x,c x Z8,rfl⟩
 .match d,e with
  |[],_=>exact LH _ Z8
def Cb {pool:ZZ}{r:bJ}{facts:ZW}(hr:db pool r)(hF:∀f∈facts,fJ pool f){w:aH}(hw:w∈gj r.2 facts):
  ∃V,w.1=ar V (aT [] (c7 r.2))/\eG facts V (c7 r.2) w.2/\O5.gv (r.2.filter aE) (ar V (aT [] (c7 r.2)))=true/\bn r.1 w=r.1.map (bb V)/\(∀b∈aT [] (c7 r.2),V b∈pool)/\fJ pool (bn r.1 w):=by
 obtain ⟨V,e,hf,hg⟩:=hr.bi.mem hw
 rw [e] at hg
 have hV:∀b∈aT [] (c7 r.2),V b∈pool:=λb hb=>by
  rcases tM hb with z|⟨a,ha,x,hx,hx1,rfl⟩
  .cases z
  .obtain ⟨wd,xs,e1,_,hx2⟩:=hF _ (AD hf a ha)
   have A:=(hr.at_ a (LP.mp ha).1).at_
   cases a with
   |nil=>cases hx
   |cons y l=>
    have hy:aJ y=false:=A.hd
    rcases LK.mp hx with z|z
    .rw [z,hy] at hx1;cases hx1
    .rw [Mu] at e1
     injection e1 with _ e2
     exact hx2 (V x.name) (by rw [<-e2];exact LS.mpr ⟨x,z,Ac hx1⟩)
 have hh:bn r.1 w=r.1.map (bb V):=by
  unfold bn
  rw [e]
  exact Md λx hx=>kL (jz eM) λq=>kz (hr.hb x hx q) q
 obtain ⟨wd,xs,e1,h1,h2⟩:=hr.hd
 have hwd:=(jW (LL _ h1)).2.1
 refine ⟨V,e,hf,hg,hh,hV,wd,xs.map (bb V),?_,by rw [LA];exact h1,λx hx=>?_⟩
 .rw [hh,e1,Mu]
  congr 1
  unfold bb
  rw [LG (by rw [hwd];exact LI)]
 .obtain ⟨y,hy,rfl⟩:=LS.mp hx
  by_cases q:aJ y=true
  .rw [Ac q]
   exact hV _ (kz (hr.hb y (by rw [e1];exact Lv _ hy) q) q)
  .unfold bb
   rw [LG q]
   rcases h2 y hy with z|z
   .exact z
   .exact absurd (by rw [(pU y z).2.2];exact LV z) q
theorem wk:∀(b:ZW) (B:ZY) (W:ZW),(cL b B W).length=b.length/\∀s∈cL b B W,s.cE∈b/\s.of=[]
 |[],_,_=>⟨rfl,λs c=>nomatch c⟩
 |a::r,B,W=>by
  obtain ⟨e,d⟩:=wk r (ak B a)<|W.filter λg=> !cp g (ak B a)
  refine ⟨by rw [cL,Mq,e,Mq],λs c=>?_⟩
  rw [cL] at c
  rcases LK.mp c with z|z
  .rw [z];exact ⟨Lz,rfl⟩
  .exact ⟨Lv _ (d s z).1,(d s z).2⟩
def cB (rules:List bJ)(facts:List (List D)):List (List D×List aH):=rules.map λr=>(r.1,gj r.2 facts)
def AG (a:List bJ)(b:ZW):fH a (a.map λr=>bM r.2) b=cB a b:=by
 unfold fH cB
 induction a with
 |nil=>rfl
 |cons r l c=>rw [Mu,List.zip_cons_cons,Mu,c,Mu];rfl
section
variable {pool:List D}{rules:List bJ}{facts:List (List D)}
def oZ (hR:∀r∈rules,db pool r)(hF:∀f∈facts,fJ pool f){T:ZW}{x:bH}(hx:x∈bf 0 (cB rules facts) T):x.1∉T/\fJ pool x.1/\∃r w V,rules[x.2.1]?=some r/\w∈gj r.2 facts/\x.1=bn r.1 w/\x.2.2=w.2/\eG facts V (c7 r.2) x.2.2/\O5.gv (r.2.filter aE) (ar V (aT [] (c7 r.2)))=true/\x.1=r.1.map (bb V)/\∀b∈aT [] (c7 r.2),V b∈pool:=by
 obtain ⟨h1,i,q,hq,hi,w,hw,e1,e2⟩:=t6 _ _ _ _ hx
 unfold cB at hq
 rw [LO] at hq
 obtain ⟨r,hr,rfl⟩:=Mz.mp hq
 have hrk:=hR r (LD hr)
 obtain ⟨V,v1,v2,v3,v4,v5,v6⟩:=Cb hrk hF hw
 refine ⟨h1,by rw [e1];exact v6,r,w,V,by rw [hi,MY];exact hr,hw,e1,e2,by rw [e2];exact v2,v3,by rw [e1];exact v4,v5⟩
def GV(a:dL pool)(c:∀r∈rules,db pool r)(e:∀f∈facts,fJ pool f)(g:x∈bf 0 (cB rules facts) T):∃r V,yO pool rules facts x r V:=by
 obtain ⟨_,h,r,w,V,d,_,_,_,i,j,k,l⟩:=oZ c e g
 exact ⟨r,V,d,c r<|LD d,a,i,λb m=>(a.gp _<|l b m).1,j,k,(h.flat a).2.2⟩
def Gf (a:∀r∈rules,db pool r)(b:∀f∈facts,fJ pool f)(c:pool.length<=10)(T:ZW):(aI (bf 0 (cB rules facts) T)).length<=411:=
 L8 (lp (vi _ _ _) λf d=>by
  obtain ⟨x,e,rfl⟩:=LS.mp d
  exact (oZ a b e).2.1.mem) (Fi c)
def dL.le (h:dL pool):pool.length<=10:=by rcases h.len with z|z<;>omega
def Hr (c:dL pool)(e:∀r∈rules,db pool r)(b:Aj pool facts):sQ rules (rules.map λr=>bM r.2) [] facts:=by
 have h:∀g∈facts,i6 g/\fR g:=λg d=>⟨((b.hd g d).flat c).1,((b.hd g d).flat c).2.1⟩
 have w:=b.dH
 refine ⟨h,(λg d=>nomatch d),λl m=>?_,λj r l i k=>?_,by rw [LA],?_⟩
 .obtain ⟨r,n,rfl⟩:=LS.mp m
  have a:=e r n
  obtain ⟨o,p⟩:=wk (c7 r.2) []<|(r.2.filter aE).filter c9
  have x:=a.bi.ph
  refine ⟨?_,?_,λs f=>?_⟩
  .show (cL _ _ _).length<=100
   exact L8 (P6 o) Z4
  .show 0+facts.length<2^60
   omega
  .obtain ⟨t,u⟩:=p s f
   rw [u]
   refine ⟨(a.at_ _ (LP.mp t).1).at_.lw,?_⟩
   show 0+facts.length<1000
   omega
 .rw [LO,i] at k
  cases k
  have a:=e r<|LD i
  have f:=a.hd.sc c
  have z:=a.dH
  exact ⟨_,_,As a.bi rfl h Z4 Z4 f.1 Z4 λy v q=>kz (a.hb y v q) q,xQ a.bi rfl Z4⟩
 .rw [AG,LR,Af facts [] (by rw [NK];exact b.nd),NK]
  have:=Gf e b.hd c.le facts
  omega
def CG (f:db pool r)(l:c∈cM pool (aT [] r.2) [[]])(m:gk facts r.2 c=true):∃w,w∈gj r.2 facts/\w.2=(c7 r.2).map (λa=>facts.idxOf (bQ c a))/\bn r.1 w=bQ c r.1:=by
 have i:=f.bi
 obtain ⟨V,rfl,y⟩:=(B3<|xi NQ).mp l
 have j:cr (aT [] r.2):=jz eM
 have b:∀a∈r.2,∀x∈a,aJ x=true->x.name∈aT [] r.2:=λa d x g e=>pG d g e
 obtain ⟨n,o⟩:=(B8 i j b).mp m
 have k:∀a∈c7 r.2,bQ (ar V<|aT [] r.2) a=a.map (bb V):=λa d=>by
  have A:=(f.at_ a (LP.mp d).1).at_
  exact oO j A.ne A.hd<|b a (LP.mp d).1
 refine ⟨(ar V<|aT []<|c7 r.2,(c7 r.2).map λa=>facts.idxOf<|bQ (ar V<|aT [] r.2) a),?_,rfl,?_⟩
 .rw [i.nc]
  refine LP.mpr ⟨(pZ i.good).mpr ⟨V,rfl,?_⟩,o⟩
  unfold eG
  rw [Mn]
  refine Md λa d=>?_
  show facts[facts.idxOf<|bQ (ar V<|aT [] r.2) a]?=some (a.map<|bb V)
  rw [k a d]
  have p:=n a d
  have h:=Ow.mpr p
  rw [Ly h,OG h]
 .obtain ⟨w,B,e,s,_⟩:=f.hd
  have t:=(jW<|LL _ s).2.1
  rw [oO j (by rw [e];exact λz=>nomatch z) (by rw [e];exact t) λx g q=>by
   obtain ⟨a,u,_,v⟩:=f.hb x g q
   exact pG u v q]
  unfold bn
  exact Md λx g=>kL (jz eM) λq=>kz (f.hb x g q) q
end
end FL
namespace FL
open PySem L2
def au (ds:List (List bH)):List (List D):=aI ds.flatten
def iz (a b:List (List bH)):au (a++b)=au a++au b:=by unfold au;rw [Nn,oo]
def jG (r:List bH):au [r]=aI r:=by unfold au;rw [MM,NU,Mi]
def we {a:List (List bH)}{i:Nat}{r:List bH}(h:a[i]?=some r):au (a.take (i+1))=au (a.take i)++aI r:=by
 rw [Mm,h,iz]
 congr 1
 exact jG r
def p9 (a:List (List bH))(i:Nat):∃G,au a=au (a.take i)++G:=⟨au<|a.drop i,by rw [<-iz,Oc]⟩
def xE(h:db a r)(d:w∈gj r.2 (A++N))(f:cQ A.length w=false):w∈gj r.2 A:=by
 have b:=h.bi
 rw [b.nc] at d⊢
 obtain ⟨i,j⟩:=LP.mp d
 refine LP.mpr ⟨?_,j⟩
 obtain ⟨V,e,g⟩:=(pZ b.good).mp i
 refine (pZ b.good).mpr ⟨V,e,?_⟩
 unfold eG at g⊢
 rw [<-g]
 refine Md λp k=>?_
 have c:p<A.length:=by
  unfold cQ at f
  have:=NB.mp f p k
  exact Nat.lt_of_not_le λz=>this<|LV z
 rw [LZ c]
def Fm{V:Str->D}(h:eG A V c b):eG (A++N) V c b:=by
 unfold eG at h⊢
 rw [<-h]
 refine Md λp d=>?_
 have:A[p]?∈b.map λi=>A[i]?:=LS.mpr ⟨p,d,rfl⟩
 rw [h] at this
 obtain ⟨a,_,e⟩:=LS.mp this
 exact LZ (Lx.mp e.symm).1
def oT (pool:List D):List (List D):=(pool.flatMap λx=>pool.map λy=>[D.str "road",x,y])++(pool.map λx=>[D.str "mark",x])
structure qr (pool f:List D):Prop where
 fin:fJ pool f
 tY:pool.length=10->f∈oT pool
def AV(h:(w,n)∈dB)(k:(dB.all λp=>decide (p.1=w->p.2=m))=true):n=m:=LW (NV.mp k _ h) rfl
def DA{b:ZW}(m:db a r)(n:tN a r)(o:∀f∈b,fJ a f)(p:w∈gj r.2 b):bn r.1 w∈oT a:=by
 obtain ⟨V,_,_,_,t,_,d,g,e,l,c⟩:=Cb m o p
 have i:∀s:Str,aJ (.str s)=false->bb V (.str s)=.str s:=λs h=>by unfold bb;rw [LG (by rw [h];exact LI)]
 have j:d="road"\/d="mark":=by
  rw [t] at e
  rcases n with rfl|⟨x,_,y,_,rfl⟩|⟨x,_,rfl⟩
  .have q:bb V (.str "mark")=.str d:=(NJ e).1
   rw [i _ Z9] at q
   injection q with q
   exact .inr q.symm
  .have q:bb V (.str "road")=.str d:=(NJ e).1
   rw [i _ Z9] at q
   injection q with q
   exact .inl q.symm
  .have q:bb V (.str "mark")=.str d:=(NJ e).1
   rw [i _ Z9] at q
   injection q with q
   exact .inr q.symm
 rw [e]
 unfold oT
 rcases j with rfl|rfl
 .have k:g.length=2:=AV l Z9
  match g,k,c with
  |[x,y],_,c=>exact LL _<|M4.mpr ⟨x,c x Z8,LS.mpr ⟨y,c y Z8,rfl⟩⟩
 .have k:g.length=1:=AV l Z9
  match g,k,c with
  |[x],_,c=>exact LH _<|LS.mpr ⟨x,c x Z8,rfl⟩
def HY {a:ZZ}(h:a.length=10):(oT a).length=110:=by
 unfold oT
 rw [LR,m6 (n:=10) _ _ λx _=>by rw [LA,h],LA,h]
def IS {a:ZZ}(h:a.length=3):(ow a).length=40:=by
 unfold ow
 rw [LR,LR,m6 (n:=9) _ _ λw _=>by rw [m6 (n:=3) _ _ λx _=>by rw [LA,h],h],LA,h]
 rfl
def mG(e:dL a){F:ZW}(c:F.Nodup)(d:∀f∈F,qr a f):F.length<=110:=by
 rcases e.len with z|z
 .exact L8 (lp c λf b=>(d f b).fin.mem) (by rw [IS z];decide)
 .exact L8 (lp c λf b=>(d f b).tY z) (by rw [HY z];decide)
structure dJ (pool:List D)(rules:List bJ)(ds:List (List bH)):Prop where
 step:∀(i:Nat) r,ds[i]?=some r->r=bf 0 (cB rules (au (ds.take i))) (au (ds.take i))/\r≠[]
 hd:∀f∈au ds,qr pool f
 nd:(au ds).Nodup
section
variable {pool:List D}{rules:List bJ}{ds:List (List bH)}
def dJ.nil:dJ pool rules []:=⟨λi r h=>by simp at h,λf a=>(by cases a),NQ⟩
def dJ.FT (a:dL pool)(h:dJ pool rules ds):Aj pool (au ds):=⟨λf b=>(h.hd f b).fin,h.nd,L8 (mG a h.nd h.hd) Z1⟩
def An(a:gi pool rules){F:ZW}(c:∀f∈F,qr pool f)(e:x∈bf 0 (cB rules F) F):x.1∉F/\qr pool x.1:=by
 obtain ⟨g,h,r,w,V,i,j,k,_⟩:=oZ a.ok (λf b=>(c f b).fin) e
 have d:=LD i
 exact ⟨g,h,λz=>by rw [k];exact DA (a.ok r d) (a.tY z r d) (λf b=>(c f b).fin) j⟩
def dJ.next (d:gi pool rules)(h:dJ pool rules ds):(∀f∈au ds++aI (bf 0 (cB rules (au ds)) (au ds)),qr pool f)/\(au ds++aI (bf 0 (cB rules (au ds)) (au ds))).Nodup:=by
 refine ⟨λf g=>?_,?_⟩
 .rcases LY.mp g with z|z
  .exact h.hd f z
  .obtain ⟨x,c,rfl⟩:=LS.mp z
   exact (An d h.hd c).2
 .refine Np.mpr ⟨h.nd,vi _ _ _,λa i b j e=>?_⟩
  obtain ⟨x,c,rfl⟩:=LS.mp j
  exact (An d h.hd c).1<|e▸i
def dJ.snoc (hR:gi pool rules)(h:dJ pool rules ds)(b:bf 0 (cB rules (au ds)) (au ds)≠[]):dJ pool rules (ds++[bf 0 (cB rules (au ds)) (au ds)]):=by
 obtain ⟨c,d⟩:=h.next hR
 refine ⟨λi r a=>?_,by rw [iz,jG];exact c,by rw [iz,jG];exact d⟩
 by_cases z:i<ds.length
 .rw [LZ z] at a
  rw [Ni<|Nc z]
  exact h.step i r a
 .rw [Ma<|Mp z] at a
  obtain ⟨q,e⟩:=Lx.mp a
  rw [MQ] at q
  have f:i=ds.length:=by omega
  subst f
  rw [Ni<|LF _,MO]
  simp only [Qw,List.getElem_cons_zero] at e
  rw [<-e]
  exact ⟨rfl,b⟩
def dJ.w6(h:dJ pool rules ds)(a:i<ds.length)(b:r∈rules)(c:w∈gj r.2 (au (ds.take i))):bn r.1 w∈au (ds.take (i+1)):=by
 have e:=Ly a
 obtain ⟨d,_⟩:=h.step i _ e
 rw [we e,d]
 rcases wL (cB rules<|au<|ds.take i) 0 (au<|ds.take i) (r.1,gj r.2<|au<|ds.take i) (LS.mpr ⟨r,b,rfl⟩) w c with z|z
 .exact LL _ z
 .exact LH _ z
def gu (rules:List bJ)(ds:List (List bH)):List bR:=rules.map λr=>eV (bM r.2) ([]::ds.map aI)
def so (ds:List (List bH)):([]::ds.map aI).flatten=au ds:=by
 rw [MM,NK]
 unfold au aI
 rw [List.map_flatten]
def Ej (rules:List bJ)(ds:List (List bH))(r:List bH):(gu rules ds).map (λa=>bT a (aI r))=gu rules (ds++[r]):=by
 unfold gu
 rw [Mn]
 refine Md λq _=>?_
 show bT _ _=_
 rw [<-qw,Me,OI]
 rfl
def C8 (rules:List bJ):(rules.map λr=>bM r.2).map (λa=>bT a [])=gu rules []:=by
 unfold gu
 rw [Mn]
 rfl
def KN (rules:List bJ)(g:bJ->bR)(a:ZW):fH rules (rules.map g) a=rules.map λr=>(r.1,fO (bT (g r) a)):=by
 unfold fH
 induction rules with
 |nil=>rfl
 |cons r l b=>rw [Mu,List.zip_cons_cons,Mu,b,Mu]
def AR (f:gi pool rules){r:List bH}(h:dJ pool rules (ds++[r])):bf 0 (fH rules (gu rules ds) (aI r)) (au (ds++[r]))=bf 0 (cB rules (au (ds++[r]))) (au (ds++[r])):=by
 have e:fH rules (gu rules ds) (aI r)=(cB rules<|au<|ds++[r]).map λq=>(q.1,q.2.filter λw=>decide ((au ds).length=0)||cQ (au ds).length w):=by
  unfold gu cB
  rw [KN,Mn]
  refine Md λq _=>?_
  show (q.1,_)=(q.1,_)
  congr 1
  rw [<-qw,Kj,so,Nn,so,MM,NU,Mi,iz,jG]
 rw [e]
 refine xR _ _ _ _ λq g w c j=>?_
 obtain ⟨u,d,rfl⟩:=LS.mp g
 have b:=(NF.mp j).2
 rw [iz] at c
 have a:=xE (f.ok u d) c b
 have:=h.w6 (i:=ds.length) (by rw [LR];exact Nu _) d (w:=w) (by rw [Ni<|LF _,MO];exact a)
 rwa [Mh (by rw [LR];exact LF _)] at this
def Jh (rules:List bJ):fH rules (rules.map λr=>bM r.2) []=cB rules []:=AG rules []
def KR (a:ZW)(b:List ZW):(eV (bM a) b).steps=(bT (bM a) b.flatten).steps:=by
 have d:=nX b<|bM a
 have c:=nX [b.flatten]<|bM a
 rw [d.1]
 rw [MM,NU,Mi] at c
 exact c.1.symm
theorem Bp:∀(F:ZW) (s:be) (n:Nat),(ca s n F).of.length<=s.of.length+F.length/\(ca s n F).cE=s.cE
 |[],s,n=>by rw [zj];exact ⟨LF _,rfl⟩
 |g::F,s,n=>by
  rw [tO]
  obtain ⟨b,a⟩:=Bp F (cF s n g)<|n+1
  have h:(cF s n g).of.length<=s.of.length+1/\(cF s n g).cE=s.cE:=by
   unfold cF
   repeat' split
   all_goals first
    |exact ⟨Qy _,rfl⟩
    |(refine ⟨?_,rfl⟩;simp)
  rw [a,h.2,Mq]
  exact ⟨by omega,rfl⟩
end
end FL
namespace L2
open PySem PySem.Spec PyProof.Rows
section
variable {X:Cx}
variable {e:Expr}{te:TE}{p pos:Pos}
end
end L2
namespace FL
open PySem L2
end FL
namespace FL
open PySem L2
section
variable {B:Hp}{M0:List Addr}{δ:List Sl}{E:Ends}{te ty:TE}{d:D}{G:Hp}{σ:St}{j:Nat}
def qO (h:∀G σ,bS G σ δ->ae te G σ d)(k:a8 B M0 δ E.nx):a8 B M0 δ (ln te E):=λa σ H b=>
 h _ σ b.wide M0 H (ab.refl _) b.live _ λv c e f=>k a σ c<|b.grow e
end
def Jl (B:ZY)(n:Str):(bm (dY B) (Sum.inr n)).isSome=decide (n∈B):=by
 unfold bm
 rw [ON]
 induction B with
 |nil=>rfl
 |cons b r a=>
  unfold dY at a⊢
  rw [Mu,MK]
  by_cases e:b=n
  .subst e;simp
  .have c:¬n=b:=λz=>e z.symm
   have:decide (((Sum.inr b:aK),V.bl true).1=(Sum.inr n:aK))=false:=by simp [e]
   rw [this]
   dsimp only
   rw [a]
   simp [c]
def Dw{H:Hp}{i:Nat}(e:a[i]?=some (some (.ref p)))(g:H p=some (.dK (dY B)))(l:ap M H)(h:ae c (but H M) a (.str n)):TV (tB (nZ c (aW i))) a H (!decide (n∈B)):=
 λj b Q k=>h M j (b.but M) (l.same b) _ λy m f o=>⟨.ref p,e,p,bm (dY B)<|Sum.inr n,rfl,by rw [(fP (d:=.str n) rfl o).2];exact cR.k<|f _ _<|b _ _ g,_,rfl,by rw [Jl];exact k m f⟩
def gY (B:List Str)(n:Str):List Str:=if n∈B then B else B++[n]
def Gm:m∈gY B n↔m∈B\/m=n:=by
 unfold gY
 split
 .constructor
  .exact .inl
  .rintro (h|h)
   .exact h
   .subst h;assumption
 .simp
theorem wC:∀{l B:ZY} {m:Str},m∈l.foldl gY B↔m∈B\/m∈l
 |[],B,m=>by simp
 |n::r,B,m=>by
  rw [Pc,wC,Gm,LK]
  constructor
  .rintro ((h|h)|h)
   .exact .inl h
   .exact .inr (.inl h)
   .exact .inr (.inr h)
  .rintro (h|h|h)
   .exact .inl (.inl h)
   .exact .inl (.inr h)
   .exact .inr h
def G8 (B:ZY)(n:Str):(gY B n).length<=B.length+1:=by unfold gY;split<;>simp
theorem xb:∀(l B:ZY),(l.foldl gY B).length<=B.length+l.length
 |[],B=>by simp
 |n::r,B=>by
  have:=xb r<|gY B n
  have:=G8 B n
  rw [Pc,Mq]
  omega
def rA (as:List (List D)):List Str:=(as.filter λa=> !aE a).foldl (λB a=>(ak [] a).foldl gY B) []
def tK (v:V):TE:=λ_ H Q=>Q v H
def Ia{i:Nat}(h:ay G a b)(e:a[i]?=some (some v))(r:al G v d):ay G a (b.set i (some d)):=by
 refine ⟨by rw [M8];exact h.len,λj c q=>?_⟩
 by_cases z:i=j
 .subst z
  have f:i<b.length:=by
   have:=(Lx.mp q).1
   rwa [M8] at this
  rw [LM f] at q
  cases q
  exact ⟨v,e,r⟩
 .rw [LB z] at q
  exact h.get j c q
theorem zG:∀(l:ZW) (B:ZY),(n∈B\/∃b∈l,n∈ak [] b)->n∈l.foldl (λB a=>(ak [] a).foldl gY B) B
 |[],B,h=>by rcases h with z|⟨b,c,_⟩;exact z;cases c
 |a::l,B,h=>zG l _ (by
  rcases h with z|⟨b,c,d⟩
  .exact .inl (wC.mpr (.inl z))
  .rcases LK.mp c with rfl|w
   .exact .inl (wC.mpr (.inr d))
   .exact .inr ⟨b,w,d⟩)
def Bound (xs as:List (List D)):Prop:=∀a∈xs,∀n∈ak [] a,∃b∈as,aE b=false/\n∈ak [] b
def wR:List D->D->Prop:=λds d=>∃xs as,ds=[dg xs,cf as]/\(∀a∈xs,dz a)/\xs.length<=100/\(∀a∈as,dz a)/\as.length<=3/\Bound xs as/\d=.av
def yN:List D->D->Prop:=λds d=>∃as,ds=[cf as]/\(∀a∈as,dz a)/\as.length<=3/\(∀g∈as,aE g=true->g.length=3)/\Bound (as.filter aE) as/\d=.av
structure CS (r:bJ):Prop where
 ok:∀a∈r.2,dz a
 dH:r.2.length<=3
 g3:∀g∈r.2,aE g=true->g.length=3
 gb:Bound (r.2.filter aE) r.2
 hd:dz r.1
 hg:aE r.1=false
 hb:Bound [r.1] r.2
def zu:List D->D->Prop:=λds d=>∃r,ds=[a6 r]/\CS r/\d=.av
def uC:List D->D->Prop:=λds d=>∃rs:List bH,ds=[.lst (rs.map fx)]/\rs.length<=1000/\d=dg (aI rs)
def db.sound(o:dL c)(h:db c r):CS r:=by
 have k:∀{a:ZZ},(∀y∈a,aJ y=true->∃b∈r.2,aE b=false/\y∈b)->∀n∈ak [] a,∃b∈r.2,aE b=false/\n∈ak [] b:=λ{a} f n p=>by
  rcases tM (B:=[]) (as:=[a]) p with z|⟨t,d,x,i,l,rfl⟩
  .cases z
  .rw [L4.mp d] at i
   obtain ⟨b,b1,b2,b3⟩:=f _ i l
   exact ⟨b,b1,b2,ma b3 l⟩
 have q:jh r.1:=by
  obtain ⟨w,m,e,d,i⟩:=h.hd
  exact ⟨w,m,e,LL _ d,λx s=>by rcases i x s with z|z;exact o.gp x z;exact pU x z⟩
 refine ⟨λa f=>(h.at_ a f).at_.lw,h.dH,λg j e=>?_,λg j=>k<|h.gb g (LP.mp j).1 (LP.mp j).2,?_,?_,λa f=>by rw [L4.mp f];exact k h.hb⟩
 .obtain ⟨w,x,y,rfl⟩:=(h.at_ g j).gd e
  rfl
 .exact q.at_.lw
 .obtain ⟨w,m,e,d,i⟩:=h.hd
  rw [e]
  exact (jW<|LL _ d).2.2.2.1.trans<|Mc λz=>z d
end FL
namespace FL
open PySem L2
def db.Fp(h:db b r):pJ r.2/\sX r.2:=⟨⟨λa c=>(h.at_ a c).at_.lw,by have:=h.dH;omega⟩,λg d e=>(h.at_ g d).gd e⟩
end FL
namespace FL
open PySem L2
def jK (rds:List (List bH)):List D:=rds.map λr=>.lst (r.map fx)
def rN (ds:List D):Prop:=∃pool rules,ds=[.lst (rules.map a6)]/\dL pool/\gi pool rules/\rules.length<=100
structure dM (pool:List D)(rules:List bJ)(rds:List (List bH)):Prop where
 pk:dL pool
 rk:gi pool rules
 run:dJ pool rules rds
 fin:bf 0 (cB rules (au rds)) (au rds)=[]
def zF (ds:List D)(d:D):Prop:=∃pool rules rds,ds=[.lst (rules.map a6)]/\d=.lst (jK rds)/\dM pool rules rds
section
variable {pool:List D}{rules:List bJ}{ds:List (List bH)}
def wz (h:dJ pool rules ds):ds.length<=(au ds).length:=by
 have:∀{l:List (List bH)},(∀r∈l,r≠[])->l.length<=(au l).length:=λ{l}=>by
  induction l with
  |nil=>exact λ_=>LF _
  |cons r l b=>
   intro a
   have f:=b λx c=>a x<|Lv _ c
   have g:=List.length_pos_iff.mpr<|a r Lz
   rw [show r::l=[r]++l from rfl,iz,jG,LR,LR,MQ]
   unfold aI
   rw [LA]
   omega
 exact this λr d=>by
  obtain ⟨i,e⟩:=Mt.mp d
  exact (h.step i r e).2
def Gc (a:dL pool)(b:gi pool rules):sQ rules (rules.map λr=>bM r.2) [] []:=Hr a b.ok ⟨λf c=>(by cases c),NQ,Mb _⟩
def xj (d:dL pool)(hR:gi pool rules){r:List bH}(h:dJ pool rules (ds++[r])):sQ rules (gu rules ds) (au (ds++[r])) (aI r):=by
 have i:=h.FT d
 have k:∀g∈au (ds++[r]),i6 g/\fR g:=λg a=>⟨((i.hd g a).flat d).1,((i.hd g a).flat d).2.1⟩
 have b:∀g∈aI r,g∈au (ds++[r]):=λg a=>by rw [iz,jG];exact LH _ a
 have o:(au ds).length+(aI r).length<=110:=by
  have:=mG d h.nd h.hd
  rw [iz,jG,LR] at this
  exact this
 have e:∀q:bJ,(bT (eV (bM q.2) ([]::ds.map aI))<|aI r).steps=(bT (bM q.2)<|au<|ds++[r]).steps:=λq=>by
  rw [<-qw,KR,Nn,so,MM,NU,Mi,iz,jG]
 refine ⟨λg a=>k g<|b g a,λg a=>(k g a).2,λv w=>?_,λj q v p l=>?_,by unfold gu;rw [LA],?_⟩
 .obtain ⟨q,x,rfl⟩:=LS.mp w
  have c:=hR.ok q x
  obtain ⟨m,_,t⟩:=nX ([]::ds.map aI)<|bM q.2
  obtain ⟨z,A⟩:=wk (c7 q.2) []<|(q.2.filter aE).filter c9
  have L:=c.bi.ph
  rw [so] at m t
  refine ⟨?_,?_,λs f=>?_⟩
  .rw [m,LA]
   show (cL _ _ _).length<=100
   exact L8 (P6 z) Z4
  .rw [t]
   show 0+(au ds).length+_<2^60
   omega
  .rw [m] at f
   obtain ⟨u,n,rfl⟩:=LS.mp f
   obtain ⟨B,C⟩:=A u n
   obtain ⟨E,G⟩:=Bp (au ds) u (bM q.2).taken
   rw [C] at E
   rw [G]
   refine ⟨(c.at_ _ (LP.mp B).1).at_.lw,?_⟩
   have:([]:List dq).length=0:=rfl
   omega
 .unfold gu at l
  rw [LO,p] at l
  cases l
  have c:=hR.ok q<|LD p
  have f:=c.hd.sc d
  have M:=c.dH
  have N:=i.dH
  exact ⟨_,_,As c.bi (e q) k Z4 Z4 f.1 Z4 λy H q=>kz (c.hb y H q) q,xQ c.bi (e q) Z4⟩
 .rw [vE _ _ b,AR hR h]
  obtain ⟨I,J⟩:=h.next hR
  exact L8 (mG d J I) Z1
end
end FL
namespace FL
open PySem L2
def cx:Nat->List (List bH)->List (Nat×bH)
 |_,[]=>[]
 |i,r::l=>r.map (λx=>(i,x))++cx (i+1) l
theorem sJ:∀(a:List (List bH)) (i:Nat),(cx i a).map (·.2)=a.flatten
 |[],_=>rfl
 |r::l,i=>by
  unfold cx
  rw [Me,sJ l,Mn,MM]
  congr 1
  exact Ol r
theorem mI:∀(a:List (List bH)) (k j i:Nat) (x:bH),(cx k a)[j]?=some (i,x)->∃(m:Nat) (r:List bH),i=k+m/\a[m]?=some r/\x∈r/\(a.take m).flatten.length<=j/\j<(a.take (m+1)).flatten.length
 |[],k,j,i,x,h=>by simp [cx] at h
 |r::l,k,j,i,x,h=>by
  unfold cx at h
  by_cases z:j<r.length
  .rw [LZ (by rw [LA];exact z),LO] at h
   obtain ⟨y,b,e⟩:=Mz.mp h
   cases e
   exact ⟨0,r,rfl,rfl,LD b,Mb _,by simpa using z⟩
  .rw [Ma (by rw [LA];omega),LA] at h
   obtain ⟨m,c,e,d,f,g,n⟩:=mI l _ _ _ _ h
   refine ⟨m+1,c,by omega,d,f,?_,?_⟩
   .rw [List.take_succ_cons,MM,LR];omega
   .rw [List.take_succ_cons,MM,LR];omega
def tD(c:List (List bH))(h:a<=b):(c.take a).flatten.length<=(c.take b).flatten.length:=by
 have e:=Oc a<|c.take b
 rw [List.take_take,N8 h] at e
 rw [<-e,Nn,LR]
 exact MF _ _
def ja (T:List (Nat×bH))(p:Nat):Int:=match T[p]? with|some q=>q.1|none=>0
structure Dg (pool:List D)(rules:List bJ)(T:List (Nat×bH))(j i:Nat)(x:bH):Prop where
 hJ:∃r V,yO pool rules ((T.take j).map fun q=>q.2.1) x r V
 new:x.1∉(T.take j).map fun q=>q.2.1
 fin:fJ pool x.1
 len:x.2.2.length<=3
 pl:∀p∈x.2.2,p<j
 mx:fh ((-1)::x.2.2.map (ja T)) 0+1=(i:Int)
section
variable {pool:List D}{rules:List bJ}{rds:List (List bH)}
def dM.tag(h:dM pool rules rds){j:Nat}(B:(cx 0 rds)[j]?=some (i,x)):Dg pool rules (cx 0 rds) j i x:=by
 obtain ⟨m,r,e,U,C,h3,h4⟩:=mI _ _ _ _ _ B
 rw [MY] at e
 subst e
 obtain ⟨s1,_⟩:=h.run.step i r U
 rw [s1] at C
 obtain ⟨G,Y⟩:=p9 rds i
 have hF:∀f∈au (rds.take i),fJ pool f:=λf g=>(h.run.hd f (by rw [Y];exact LL _ g)).fin
 obtain ⟨g1,g2,ru,w,V,g3,g4,g5,g6,E,_⟩:=oZ h.rk.ok hF C
 have o:(au<|rds.take i).length=(rds.take i).flatten.length:=by unfold au aI;rw [LA]
 have c:∀k,((cx 0 rds).take k).map (λq=>q.2.1)=(au rds).take k:=λk=>by
  unfold au aI
  rw [<-sJ rds 0,Mn,<-PR]
  rfl
 have hj:∃N,(au rds).take j=au (rds.take i)++N:=⟨G.take<|j-(au<|rds.take i).length,by rw [Y,List.take_append,Mh Z4]⟩
 have ac:j<(cx 0 rds).length:=(Lx.mp B).1
 have l:∀p∈x.2.2,p<(rds.take i).flatten.length:=λp d=>by
  unfold eG at E
  have:(au<|rds.take i)[p]?∈x.2.2.map λk=>(au<|rds.take i)[k]?:=LS.mpr ⟨p,d,rfl⟩
  rw [E] at this
  obtain ⟨a,_,ha⟩:=LS.mp this
  rw [<-o]
  exact (Lx.mp ha.symm).1
 have n:∀p,p<j->∃m y,(cx 0 rds)[p]?=some (m,y)/\ja (cx 0 rds) p=(m:Int)/\(rds.take m).flatten.length<=p/\p<(rds.take<|m+1).flatten.length:=λp d=>by
  have H:=Ly (show p<(cx 0 rds).length by omega)
  obtain ⟨m',r',I,k1,k2,k3,k4⟩:=mI _ _ _ _ _ H
  rw [MY] at I
  refine ⟨m',_,by rw [<-I];exact H,?_,k3,k4⟩
  unfold ja
  rw [H,<-I]
  rfl
 have t:∀p∈x.2.2,ja (cx 0 rds) p<(i:Int):=λp d=>by
  obtain ⟨m,y,_,J,c3,_⟩:=n p (by have:=l p d;omega)
  rw [J]
  refine Int.ofNat_lt.mpr<|Nat.lt_of_not_le λz=>?_
  have:=tD rds z
  have:=l p d
  omega
 have s:0<i->∃p∈x.2.2,((i:Int)-1)<=ja (cx 0 rds) p:=λhi=>by
  refine Classical.byContradiction λL=>g1 ?_
  have u:i-1<rds.length:=by have:=(Lx.mp U).1;omega
  have ei:=Ly u
  have hA:=we ei
  rw [show i-1+1=i by omega] at hA
  have af:(au<|rds.take<|i-1).length=(rds.take<|i-1).flatten.length:=by unfold au aI;rw [LA]
  have v:cQ (au<|rds.take<|i-1).length w=false:=by
   unfold cQ
   rw [<-g6]
   refine NB.mpr λp d=>?_
   rw [Nk]
   intro z
   refine L ⟨p,d,?_⟩
   obtain ⟨m,y,_,J,_,c4⟩:=n p (by have:=l p d;omega)
   rw [J]
   have:¬m+1<=i-1:=λq=>by
    have:=tD rds q
    omega
   omega
  rw [hA] at g4
  have A:=LD g3
  have:=h.run.w6 u A<|xE (h.rk.ok ru A) g4 v
  rw [show i-1+1=i by omega,<-g5] at this
  exact this
 refine ⟨?_,?_,g2,by rw [JI E];exact (h.rk.ok ru<|LD g3).bi.ph,λp d=>by have:=l p d;omega,?_⟩
 .obtain ⟨M,V',g⟩:=GV h.pk h.rk.ok hF C
  obtain ⟨N,hN⟩:=hj
  rw [c,hN]
  exact ⟨M,V',g.at_,g.rk,g.pk,Fm g.Jk,g.sc,g.gs,g.hd,g.fd⟩
 .rw [c]
  intro z
  have O:(au rds)[j]?=some x.1:=by
   unfold au aI
   rw [<-sJ rds 0,Mn,LO,B]
   rfl
  obtain ⟨k,hk,Q⟩:=PB.mp z
  exact m8 (R:=λa b=>a≠b) h.run.nd (show k<j by omega) (by rw [<-Q];exact Ly Z4) O rfl
 .rcases xp ((-1)::x.2.2.map (ja<|cx 0 rds)) 0 with ⟨z,_⟩|⟨z1,z2⟩
  .cases z
  .have aj:fh ((-1)::x.2.2.map (ja<|cx 0 rds)) 0<=(i:Int)-1:=by
    rcases LK.mp z1 with w|w
    .rw [w];omega
    .obtain ⟨p,d,e⟩:=LS.mp w
     have:=t p d
     omega
   have am:(i:Int)-1<=fh ((-1)::x.2.2.map (ja<|cx 0 rds)) 0:=by
    by_cases hi:0<i
    .obtain ⟨p,d,T⟩:=s hi
     exact Int.le_trans T<|z2 _<|Lv _<|LS.mpr ⟨p,d,rfl⟩
    .have:=z2 (-1) Lz
     omega
   omega
def dM.kU (rds:List (List bH)):(cx 0 rds).map (λq=>q.2.1)=au rds:=by
 unfold au aI
 rw [<-sJ rds 0,Mn]
 rfl
def dM.closed(h:dM a rules rds)(b:r∈rules)(d:db pool r)(e:c∈cM pool (aT [] r.2) [[]])(f:gk (au rds) r.2 c=true):bQ c r.1∈au rds:=by
 obtain ⟨w,g,_,i⟩:=CG d e f
 rw [<-i]
 rcases wL (cB rules<|au rds) 0 (au rds) (r.1,gj r.2<|au rds) (LS.mpr ⟨r,b,rfl⟩) w g with z|z
 .exact z
 .rw [h.fin] at z;cases z
end
def qA (xs:List D):Prop:=xs.length<=10/\((∀x∈xs,x.sc=true)\/∃as:List (List D),xs=as.map D.tup/\∀a∈as,bV a)
def A1:List D->D->Prop:=λds d=>∃xs,ds=[.tup xs,.tup xs]/\qA xs/\d=.bl true
def yd:List D->D->Prop:=λds d=>∃rs:List bJ,ds=[.lst (rs.map a6),.lst (rs.map a6)]/\rs.length<=1000/\(∀r∈rs,qA r.1/\qA (r.2.map D.tup))/\d=.bl true
end FL
namespace L2
open PySem
section
variable {X:Cx}{e e':Expr}{te te':TE}{p pos:Pos}
def DZ (d:X.mg "max"=none)(h:PE X e te)(f:PE X e' te')(g:X.calm=true:=by rfl)(k:Gl X "max":=by rfl)(c:starEach [e,e'] X.env=(false,eval e X.env)::starEach [e'] X.env:=by rfl)(a:starEach [e'] X.env=(false,eval e' X.env)::starEach [] X.env:=by rfl)(b:(backTo pos (starEach [e'] X.env)).any (·.1)=false:=by rfl):PE X (.Call (.Name "max" p) [e,e'] [] pos) (cD (λl H Q=>∃i j,l=[.int i,.int j]/\Q (.int (if j>i then j else i)) H) (bo te (bo te' bA))):=
 oM (FN g) k d Qg (ai h (ai f aw a) c) Z1 Z1 c b
end
end L2
namespace FL
open PySem L2
def mY (i j:Int):Int:=if j>i then j else i
def Du (i j:Int):mY i j=max i j:=by unfold mY;split<;>omega
def Jp(h:d8 t G a [.int i,.int j]):ae (cD (λb H Q=>∃i j,b=[.int i,.int j]/\Q (.int (if j>i then j else i)) H) t) G a (.int (mY i j)):=
 λM H s l Q k=>h M H s l _ λm c d e=>by
  cases e with
  |cons f g=>
   obtain ⟨v,rfl,q⟩:=iu g
   rw [f.eC,q.eC]
   exact ⟨i,j,rfl,k _ c d (.int _)⟩
def dW (there:List (List D×D))(f:List D):Int:=match dX there f with|some (.int n)=>n|_=>0
def fm (there:List (List D×D))(body:List (List D))(c:aO):Int:=body.foldl (λm a=>if aE a=true then m else mY m (dW there (bQ c a))) (-1)
def lC (there:List (List D×D))(body:List (List D))(c:aO):Int:=if gk (there.map (·.1)) body c=true then fm there body c else-2
theorem xg (b:List (ZZ×D))(c:aO):∀(d:ZW) (m:Int),d.foldl (λm a=>if aE a=true then m else mY m (dW b (bQ c a))) m=((c7 d).map λa=>dW b (bQ c a)).foldl max m
 |[],m=>rfl
 |a::l,m=>by
  rw [Pc,xg b c l]
  unfold c7
  by_cases g:aE a=true
  .rw [LJ g,P4 (by rw [g];exact LI)]
  .rw [LG g,List.filter_cons_of_pos (by simpa using g),Mu,Pc,Du]
structure tX (there:List (List D×D)):Prop where
 int:∀p∈there,∃n:Nat,p.2=.int (n:Int)
 nd:(there.map (·.1)).Nodup
def Bg(h:tX a)(c:f∈a.map (·.1)):dX a f=some (.int (dW a f)):=by
 obtain ⟨d,e,g⟩:=Am c
 obtain ⟨n,b⟩:=h.int _ g
 have b:d=.int (n:Int):=b
 subst b
 unfold dW
 rw [e]
structure Bv (pool:List D)(rules:List bJ)(there:List (List D×D)):Prop where
 pk:dL pool
 rk:∀r∈rules,db pool r
 th:tX there
 dH:there.length<=110
 up:∀r∈rules,∀c∈cM pool (aT [] r.2) [[]],gk (there.map (·.1)) r.2 c=true->bQ c r.1∈there.map (·.1)/\dW there (bQ c r.1)<=fm there r.2 c+1/\-1<=fm there r.2 c
 all:∀f∈there.map (·.1),∃r∈rules,∃c∈cM pool (aT [] r.2) [[]],gk (there.map (·.1)) r.2 c=true/\bQ c r.1=f/\dW there f=fm there r.2 c+1
def By:List Sl->D->Prop:=λss d=>∃pool r c there,ss=[.d (cf r.2),.kd c,.td there]/\dL pool/\db pool r/\(∀p∈c,p.2.sc=true)/\tX there/\d=.int (lC there r.2 c)
def Co:List Sl->D->Prop:=λss d=>∃pool rules there,ss=[.d (.lst (rules.map a6)),.d (.lst pool),.td there]/\Bv pool rules there/\d=.bl true
def Ao (ds:List D)(d:D):Prop:=∃pool rules rds,ds=[.lst (rules.map a6)]/\d=.lst (rds.map λr=>dg (aI r))/\dM pool rules rds
def DP (a:List (ZZ×D))(k:ZZ)(d:D):(iI a k d).map (·.1)=if k∈a.map (·.1) then a.map (·.1) else a.map (·.1)++[k]:=by
 unfold iI
 by_cases h:k∈a.map (·.1)
 .obtain ⟨p,b,e⟩:=LS.mp h
  rw [LJ h,LJ<|NX.mpr ⟨p,b,LV e⟩,Mn]
  refine Md λq _=>?_
  show (if q.1=k then (q.1,d) else q).1=q.1
  split<;>rfl
 .rw [LG h,LG (λz=>by
   obtain ⟨p,b,e⟩:=NX.mp z
   exact h<|LS.mpr ⟨p,b,LW e⟩),Me]
  rfl
def bS.yl{j:Nat}(e:bS G d f)(g:f[j]?=some (.t c)):ae (cD pQ (bo (aW j) bA)) G d (.int c.length):=λM H s l Q k=>by
 obtain ⟨a,b,h,i,m⟩:=(e.mono s).get j _ g
 refine ⟨.ref a,h,.inr ⟨a,b,rfl,Rd.of (ax i).2,?_⟩⟩
 rw [show b.length=c.length from m.length]
 exact k _ H (ab.refl _) (.int _)
def bS.Ga{j:Nat}(e:bS G a b)(d:b[j]?=some (.td c)):ae (cD pQ (bo (aW j) bA)) G a (.int c.length):=(e.lg d).1.yl (e.lg d).2
section
variable {pool:List D}{rules:List bJ}{rds:List (List bH)}
theorem dJ.any(b:gi pool rules)(h:dJ a rules rds):∀n,dJ pool rules (rds.take n)
 |0=>dJ.nil
 |n+1=>by
  have c:=dJ.any b h n
  cases e:rds[n]? with
  |none=>rw [Mm,e];show dJ _ _<|_++[];rw [Mi];exact c
  |some r=>
   obtain ⟨d,f⟩:=h.step n r e
   rw [Mm,e]
   show dJ _ _<|_++[r]
   rw [d]
   exact c.snoc b (by rw [<-d];exact f)
theorem dM.any(c:dL pool)(b:gi pool rules)(h:dM a rules rds):dM pool rules rds:=⟨c,b,by have:=h.run.any b rds.length;rwa [MO] at this,h.fin⟩
def cP (rds:List (List bH)):List (List D×D):=(cx 0 rds).map λq=>(q.2.1,.int ((q.1:Nat):Int))
theorem Bb:∀(a b:List (List bH)) (i:Nat),cx i (a++b)=cx i a++cx (i+a.length) b
 |[],b,i=>by rw [NK];rfl
 |r::a,b,i=>by
  rw [OI]
  show _++cx (i+1) (a++b)=(_++cx (i+1) a)++_
  rw [Bb a b,Mw,Mq,show i+1+a.length=i+(a.length+1) by omega]
def Ll{rds:List (List bH)}{j:Nat}(h:rds[j]?=some r):cP (rds.take (j+1))=cP (rds.take j)++r.map λx=>(x.1,D.int ((j:Nat):Int)):=by
 have a:=(Lx.mp h).1
 unfold cP
 rw [Mm,h]
 show (cx 0<|_++[r]).map _=_
 rw [Bb,Me,Mr,N8 Z4]
 congr 1
 show (r.map _++[]).map _=_
 rw [Mi,Mn,MY]
 rfl
def pY (rds:List (List bH)):(cP rds).map (·.1)=au rds:=by
 rw [<-dM.kU]
 unfold cP
 rw [Mn]
 rfl
def dM.D0 (h:dM pool rules rds):tX (cP rds):=⟨λp a=>by obtain ⟨q,_,rfl⟩:=LS.mp a;exact ⟨q.1,rfl⟩,by rw [pY];exact h.run.nd⟩
def dM.pX(h:dM pool rules rds){p:Nat}(c:(cx 0 rds)[p]?=some q):dW (cP rds) q.2.1=(q.1:Int):=by
 have l:q.2.1∈(cP rds).map (·.1):=LS.mpr ⟨(q.2.1,.int ((q.1:Nat):Int)),LS.mpr ⟨q,LD c,rfl⟩,rfl⟩
 obtain ⟨d,m,n⟩:=Am l
 obtain ⟨y,o,e⟩:=LS.mp n
 injection e with j r
 obtain ⟨k,g⟩:=Mt.mp o
 have f:∀{k:Nat} {y:Nat×bH},(cx 0 rds)[k]?=some y->(au rds)[k]?=some y.2.1:=λ{k y} e=>by rw [<-dM.kU,LO,e];rfl
 have i:k=p:=by
  rcases Nat.lt_trichotomy k p with z|z|z
  .exact absurd j<|m8 (R:=λa b=>a≠b) h.run.nd z (f g)<|f c
  .exact z
  .exact absurd j.symm<|m8 (R:=λa b=>a≠b) h.run.nd z (f c)<|f g
 subst i
 rw [g] at c
 cases c
 unfold dW
 rw [m,<-r]
def FX:∀(l:List Int) (m:Int),m<=l.foldl max m:=λl m=>(Qp l m).2.1
def dM.IZ (h:dM pool rules rds):Bv pool rules (cP rds):=by
 have hP:=h.pk
 have U:=h.rk
 have I:(cx 0 rds).length=(au rds).length:=by rw [<-dM.kU,LA]
 refine ⟨hP,U.ok,h.D0,by unfold cP;rw [LA,I];exact mG hP h.run.nd h.run.hd,λr hr c hc Y=>?_,λf J=>?_⟩
 .rw [pY] at Y⊢
  have d:=U.ok r hr
  obtain ⟨w,hw,e1,e2⟩:=CG d hc Y
  have L:fm (cP rds) r.2 c=((c7 r.2).map λa=>dW (cP rds)<|bQ c a).foldl max (-1):=xg _ _ _ _
  have M:=FX ((c7 r.2).map λa=>dW (cP rds)<|bQ c a) (-1)
  have N:=(Qp ((c7 r.2).map λa=>dW (cP rds)<|bQ c a) (-1)).2.2
  rw [<-L] at M N
  have C:=h.closed hr d hc Y
  obtain ⟨k,hk⟩:∃k:Nat,(k:Int)=fm (cP rds) r.2 c+1:=⟨(fm (cP rds) r.2 c+1).toNat,Int.toNat_of_nonneg Z4⟩
  refine ⟨C,?_,M⟩
  rw [<-hk]
  have E:∀{g:ZZ},g∈au rds->∃p q,(cx 0 rds)[p]?=some q/\q.2.1=g/\p<(au rds).length/\(au rds).idxOf g=p:=λ{g} hg=>by
   have u:=Ow.mpr hg
   have hT:(au rds).idxOf g<(cx 0 rds).length:=by rw [I];exact u
   refine ⟨(au rds).idxOf g,_,Ly hT,?_,u,rfl⟩
   have e:(au rds)[(au rds).idxOf g]?=some g:=by rw [Ly u,OG u]
   rw [<-dM.kU,LO,dM.kU,Ly hT] at e
   exact LQ e
  by_cases ac:k<rds.length
  .obtain ⟨G,O⟩:=p9 rds k
   have Q:cQ (au<|rds.take k).length w=false:=by
    unfold cQ
    rw [e1]
    refine NB.mpr λp hp=>?_
    obtain ⟨a,l,rfl⟩:=LS.mp hp
    rw [Nk]
    intro z
    have hA:=(d.at_ a (LP.mp l).1).at_
    obtain ⟨p,q,s,v,_,h4⟩:=E<|Ax Y l hA.ne
    have h5:=N _<|LS.mpr ⟨a,l,rfl⟩
    rw [<-v,h.pX s] at h5
    rw [h4] at z
    obtain ⟨m,r',e',k1,k2,k3,k4⟩:=mI _ _ _ _ _ s
    rw [MY] at e'
    have h6:=tD rds (show m+1<=k by omega)
    have:(au<|rds.take k).length=(rds.take k).flatten.length:=by unfold au aI;rw [LA]
    omega
   rw [O] at hw
   have ht:=h.run.w6 ac hr<|xE d hw Q
   rw [e2] at ht
   obtain ⟨p,q,s,v,_,_⟩:=E C
   rw [<-v,h.pX s]
   obtain ⟨m,r',e',k1,k2,k3,k4⟩:=mI _ _ _ _ _ s
   rw [MY] at e'
   refine Int.ofNat_le.mpr<|Mp λz=>?_
   obtain ⟨G2,af⟩:=p9 rds<|k+1
   have t:=Ow.mpr ht
   have aj:(au rds)[(au<|rds.take<|k+1).idxOf<|bQ c r.1]?=some (bQ c r.1):=by rw [af,LZ t,Ly t,OG t]
   have am:(au rds)[p]?=some (bQ c r.1):=by rw [<-dM.kU,LO,s,<-v];rfl
   have h6:=tD rds (show k+1<=m by omega)
   have h7:(au<|rds.take<|k+1).length=(rds.take<|k+1).flatten.length:=by unfold au aI;rw [LA]
   exact m8 (R:=λa b=>a≠b) h.run.nd (show (au<|rds.take<|k+1).idxOf (bQ c r.1)<p by omega) aj am rfl
  .obtain ⟨p,q,s,v,_,_⟩:=E C
   rw [<-v,h.pX s]
   obtain ⟨m,r',e',k1,_⟩:=mI _ _ _ _ _ s
   have:=(Lx.mp k1).1
   omega
 .rw [pY] at J
  rw [pY]
  rw [<-dM.kU] at J
  obtain ⟨⟨i,x⟩,hq,rfl⟩:=LS.mp J
  obtain ⟨j,hj⟩:=Mt.mp hq
  have hA:=h.tag hj
  obtain ⟨m,r0,e,s,v,h3,h4⟩:=mI _ _ _ _ _ hj
  rw [MY] at e
  subst e
  obtain ⟨s1,_⟩:=h.run.step i r0 s
  rw [s1] at v
  obtain ⟨G,O⟩:=p9 rds i
  have hF:∀f∈au (rds.take i),fJ pool f:=λf J=>(h.run.hd f (by rw [O];exact LL _ J)).fin
  obtain ⟨g1,g2,n,w,V,g3,g4,g5,g6,g7,g8,g9,an⟩:=oZ U.ok hF v
  have T:=LD g3
  have d:=U.ok n T
  have hI:=d.bi
  have hB:cr (aT [] n.2):=jz eM
  have B:∀a∈n.2,∀x∈a,aJ x=true->x.name∈aT [] n.2:=λa l x hx e=>pG l hx e
  have ao:∀a∈c7 n.2,bQ (ar V<|aT [] n.2) a=a.map (bb V):=λa l=>by
   have A:=(d.at_ a (LP.mp l).1).at_
   exact oO hB A.ne A.hd<|B a (LP.mp l).1
  refine ⟨n,T,ar V<|aT [] n.2,(B3<|xi NQ).mpr ⟨V,rfl,λb hb=>?_⟩,(B8 hI hB B).mpr ⟨λa l=>by rw [O];exact LL _<|AD g7 a l,g8⟩,?_,?_⟩
  .refine an b ?_
   rcases tM hb with z|⟨a,l,y,hy,H,rfl⟩
   .cases z
   .by_cases g:aE a=true
    .exact kz (d.gb a l g y hy H) H
    .exact kz ⟨a,l,by simpa using g,hy⟩ H
  .obtain ⟨wd,xs,e,h3,_⟩:=d.hd
   have hw:=(jW<|LL _ h3).2.1
   rw [oO hB (by rw [e];exact λz=>nomatch z) (by rw [e];exact hw) λy hy q=>by
    obtain ⟨a,h4,_,h5⟩:=d.hb y hy q
    exact pG h4 h5 q]
   exact g9.symm
  .rw [show fm (cP rds) n.2 (ar V<|aT [] n.2)=_ from xg _ _ _ _,show dW (cP rds) x.1=(i:Int) from h.pX hj,<-hA.mx]
   congr 1
   show (x.2.2.map<|ja<|cx 0 rds).foldl max (-1)=_
   congr 1
   have:=MA (List.map λ(o:Option ZZ)=>match o with|some f=>dW (cP rds) f|none=>0) g7
   rw [Mn,Mn] at this
   rw [show (c7 n.2).map (λa=>dW (cP rds)<|bQ (ar V<|aT [] n.2) a)=(c7 n.2).map (λa=>dW (cP rds)<|a.map<|bb V) from Md λa l=>by rw [ao a l]]
   refine Eq.trans (Md λp hp=>?_) this
   have as:p<(cx 0 rds).length:=by have:=hA.pl p hp;have:=(Lx.mp hj).1;omega
   have ep:=Ly as
   have hm:(au<|rds.take i)[p]?∈x.2.2.map λk=>(au<|rds.take i)[k]?:=LS.mpr ⟨p,hp,rfl⟩
   unfold eG at g7
   rw [g7] at hm
   obtain ⟨a,_,l⟩:=LS.mp hm
   have e3:(au<|rds.take i)[p]?=some (cx 0 rds)[p].2.1:=by
    have a0:=(Lx.mp l.symm).1
    have:(au rds)[p]?=some (cx 0 rds)[p].2.1:=by rw [<-dM.kU,LO,ep];rfl
    rw [O,LZ a0] at this
    exact this
   show ja (cx 0 rds) p=(match (au<|rds.take i)[p]? with|some f=>dW (cP rds) f|none=>0)
   rw [e3]
   show _=dW (cP rds) (cx 0 rds)[p].2.1
   rw [h.pX ep]
   unfold ja
   rw [ep]
end
end FL
namespace a5
open PySem L2 FL
section
variable {P:Program}{w:World}{K:PySem.W.Frag}{mg:Str->Option Value}{base:Heap}{f:Addr}{fd:FuncData}
abbrev zT:List Str:=["_law_script","_law_rules","_law_handed","_law_found","_law_there","_law_k","_law_fact"]
def jJ:bW zT ["_law_script"] (ba mS):=⟨rfl,rfl,rfl,Z9,rfl,Z9,Z9⟩
def Hw (F:aF K "law" "law" mS f fd)(B:Bl mg)(I:aV P w K mg base 1 "_law_mixed" ["_law_script"] (bw Au))(y:aV P w K mg base 2 "_law_pool_by" ["_law_script"] (bw xh))(u:aV P w K mg base 3 "_law_rules_by" ["_law_script"] (jB yo AA))(L:aV P w K mg base 12 "rounds" ["rules"] (jB rN Ao))(J:aV P w K mg base 3 "_law_stays" ["_law_handed","_law_rules"] (bw yd))(C:aV P w K mg base 2 "_law_is_fact" ["_law_found"] (bw zf))(o:aV P w K mg base 4 "_law_no_sooner" ["_law_rules","_law_pool","_law_there"] (spS Co)):bp P w K mg base bz 13 f fd ["_law_script"] (tL K):=by
 refine F.ok jJ (λvs H Q E h=>?_) λcl A bd s H vs Q E M h=>?_
 .obtain ⟨a,ns,rfl,_⟩:=h
  rfl
 obtain ⟨a,ns,rfl,hS,ac,q⟩:=h
 have hu:=dR M
 have as:=fE M
 refine ⟨_,(aD (bj 0 jJ.nd<|nU AQ (pv 0) pL<|mW aM)
   (aD (bj 0 jJ.nd<|bG I M<|ai (pv 0) aw)
   (aD (bj 1 jJ.nd<|bG u M<|ai (pv 0) aw)
   (aD (bj 2 jJ.nd<|yB B<|pv 1)
   (aD (bj 3 jJ.nd<|bG L M<|ai (pv 2) aw)
   (aD (cj (iG (eF<|df<|bG J M<|ai (pv 2)<|ai (pv 1) aw)<|jp<|eF<|df<|gg B (pv 3) B.list N5).pt (aB<|bu d9) cu)
   (aD (bj 4 jJ.nd tQ)
   (aD (de L9 rfl (nj rfl B.range<|ai (cY B<|pv 3) aw) (bv 5 jJ.nd) (aD (cj (iG (eF<|df<|gg B (bg (pv 3)<|pv 5) B.list N5)<|jp<|cA (fC (by exact hu)) (cY B<|bg (pv 3)<|pv 5) aM).pt (aB<|bu d9) cu)
   (aB (de L9 rfl (cq<|bg (pv 3)<|pv 5) (bv 6 jJ.nd) (aD (cj (iG (eF<|df<|bG C M<|ai (pv 6) aw)<|jp<|jV<|qc (by exact as) (pv 6)<|pv 4).pt (aB<|bu d9) cu)
   (aB<|kN as (pv 4) (pv 6) (pv 5) rfl))))))
   (aB<|bu<|bG o M<|ai (pv 1)<|ai (bG y M<|ai (pv 0) aw)<|ai (pv 4) aw))))))))),?_⟩
 refine ⟨_,rfl,500,rfl,a,_,rfl,hS,λp hp=>?_⟩
 rw [Hy ac]
 have E1:=Hj (H:=H) (p:=p) (ns:=ns) zT a 6 rfl
 dsimp only
 have b0:Bx _ [] [] _ _ [Sl.d (.lst<|ns.map D.int),.no,.no,.no,.no,.no,.no]:=Bx.Dx ap.nil Z8 E1
 refine a8.En b0 ?_
 clear b0 E1 hS
 generalize upd H p (HO.lst<|List.map V.int ns)=H1
 refine bI<|gI (i:=0) (d:=.lst<|(lP ns).map D.int) (λG N e=>bN ⟨ns,rfl,ac,rfl⟩<|aa (e.vd rfl) ag) ?_
 have bi:(lP ns).length<=63:=by rw [Fb];exact ac
 generalize lP ns=ms at bi
 clear ac
 refine bI<|vW (i:=1) (ds:=[.lst<|ms.map D.int]) (λG N e=>aa (e.vd rfl) ag) ⟨ms,rfl,by omega⟩ λd hd=>?_
 obtain ⟨bk,g,he,rfl,aj,co⟩:=hd
 simp only [Qc,D.lst.injEq] at he
 have em:ms=bk:=(Pz λa b e=>by injection e).mp he.1
 subst em
 have hP:=Ba ms
 refine bI<|gI (i:=2) (d:=.lst<|g.map a6) (λG N e=>F9<|aa (e.vd rfl) ag) ?_
 refine bI<|vW (i:=3) (ds:=[.lst<|g.map a6]) (λG N e=>aa (e.vd rfl) ag) ⟨_,g,rfl,hP,aj,by omega⟩ λd hd=>?_
 obtain ⟨bs,af,m,he,rfl,Y⟩:=hd
 simp only [Qc,D.lst.injEq] at he
 have em:g=af:=(Pz λa b e=>EW e).mp he.1
 subst em
 have hR:=aj.ok
 have Y:=Y.any hP aj
 have a0:∀r∈g,qA r.1/\qA (r.2.map D.tup):=λr M=>by
  have hk:=hR r M
  have hs:=hk.hd.sc hP
  exact ⟨⟨by omega,.inl hs.1⟩,by rw [LA];have:=hk.dH;omega,.inr ⟨r.2,rfl,λa ha x hx=>((hk.at_ a ha).at_.lw.sc x hx).1⟩⟩
 refine iN (λG N e=>iC (b:=false) (c:=false) (br.eq (eB<|dh<|bN (d:=.bl true) ⟨g,rfl,by omega,a0,rfl⟩<|aa (e.v rfl)<|aa (e.v rfl) ag) rfl) λ_=>br.eq (eB<|dh<|Bm<|e.v rfl) rfl) ?_
 refine bI<|BZ (i:=4) ?_
 have cd:(au m).length<=110:=mG Y.pk Y.run.nd Y.run.hd
 have cs:=wz Y.run
 refine bI<|iR (i:=5) (eU.rG (n:=m.length) Z4 λG N e=>aa ((ff (K:=K)<|aa (e.v rfl) ag).eq (by rw [LA])) ag) (λj O=>∃s5 s6,O=[Sl.d (.lst<|ms.map D.int),.d (.lst<|g.map a6),.d (.lst<|g.map a6),.d (.lst<|m.map λr=>dg<|aI r),.t<|cP<|m.take j,s5,s6]) ⟨_,_,rfl⟩ (λB' sB hk j z O hj hp=>?_) λO hp=>?_
 .obtain ⟨s5,s6,rfl⟩:=hp
  obtain ⟨a1,rfl⟩:=nE 0 _ j z hj
  have T:=Ly a1
  generalize m[j]'a1=r at T
  obtain ⟨_,bt⟩:=Y.run.step j r T
  have am:=we T
  obtain ⟨G0,an⟩:=p9 m<|j+1
  have bx:(au (m.take j)++aI r).Nodup:=by
   have:=Y.run.nd
   rw [an,Np] at this
   rw [<-am];exact this.1
  have b6:∀x∈r,fJ (i9 ms) x.1:=λx hx=>(Y.run.hd x.1 (by rw [an,am];exact LL _<|LH _<|LS.mpr ⟨x,hx,rfl⟩)).fin
  have ch:(au<|m.take j).length+r.length<=110:=by
   have h1:=MA List.length an
   have h2:=MA List.length am
   rw [LR] at h1 h2
   unfold aI at h2
   rw [LA] at h2
   omega
  have g1:dO (m.map λr=>dg<|aI r) (0+(j:Int))=some (dg<|aI r):=sW (by rw [LO,T];rfl)
  refine iN (λG N e=>iC (b:=false) (c:=false) (br.eq (eB<|dh<|Bm<|cN g1 (e.v rfl)<|e.v rfl) rfl) λ_=>br.eq (cw<|iL (ff (K:=K) (l:=(aI r).map D.tup)<|aa (cN g1 (e.v rfl)<|e.v rfl) ag) aq)<|Mc λz=>bt<|MU (by unfold aI at z;rw [LA,LA] at z;omega)) ?_
  refine iR (i:=6) (ds:=(aI r).map D.tup) (eU.of λG N e=>dG<|cN g1 (e.vd rfl)<|e.vd rfl) (λi O=>∃s6,O=[Sl.d (.lst<|ms.map D.int),.d (.lst<|g.map a6),.d (.lst<|g.map a6),.d (.lst<|m.map λr=>dg<|aI r),.t<|cP (m.take j)++(r.take i).map λx=>(x.1,D.int ((j:Nat):Int)),.d (.int<|0+(j:Int)),s6]) ⟨_,by rw [Qn,Oj,Mi];rfl⟩ (λB2 ct a2 i x b7 hi hp=>?_) λb7 hp=>?_
  .obtain ⟨s6,rfl⟩:=hp
   unfold aI at hi
   rw [Mn,LO] at hi
   obtain ⟨x,hx,rfl⟩:=Mz.mp hi
   have b8:=LD hx
   have ao:=(b6 x b8).flat hP
   have U:(cP (m.take j)++(r.take i).map λx=>(x.1,D.int ((j:Nat):Int))).map (·.1)=au (m.take j)++(aI r).take i:=by
    rw [Me,pY,Mn]
    unfold aI
    rw [<-PR]
    rfl
   have a3:x.1∉(cP (m.take j)++(r.take i).map λx=>(x.1,D.int ((j:Nat):Int))).map (·.1):=by
    rw [U]
    obtain ⟨n1,n2,n3⟩:=Np.mp bx
    have a4:(aI r)[i]?=some x.1:=by unfold aI;rw [LO,hx];rfl
    intro z
    rcases LY.mp z with z|z
    .exact n3 _ z _ (LD a4) rfl
    .obtain ⟨k,hk,a2⟩:=PB.mp z
     exact m8 (R:=λa b=>a≠b) n2 (show k<i by omega) (by rw [<-a2];exact Ly Z4) a4 rfl
   have bc:iI (cP (m.take j)++(r.take i).map λx=>(x.1,D.int ((j:Nat):Int))) x.1 (.int ((j:Nat):Int))=cP (m.take j)++(r.take<|i+1).map λx=>(x.1,D.int ((j:Nat):Int)):=by
    have:=pW x.1<|cP (m.take j)++(r.take i).map λx=>(x.1,D.int ((j:Nat):Int))
    rw [Mc a3] at this
    rw [Jy (by
     cases e:dX (cP (m.take j)++(r.take i).map λx=>(x.1,D.int ((j:Nat):Int))) x.1 with
     |none=>rfl
     |some d=>rw [e] at this;cases this),Mm,hx,Me,Mw]
    rfl
   have c0:(cP (m.take j)++(r.take i).map λx=>(x.1,D.int ((j:Nat):Int))).length<=110:=by
    have:=MA List.length U
    rw [LA] at this
    rw [this,LR,Mr]
    unfold aI
    rw [LA]
    omega
   refine iN (λG N e=>iC (b:=false) (c:=false) (br.eq (eB<|dh<|bN (d:=.bl true) ⟨_,rfl,ao.2.2,rfl⟩<|aa (e.v rfl) ag) rfl) λ_=>br.eq (dh<|e.Ay (j:=4) rfl ao.1.2<|e.v rfl)<|Mc a3) ?_
   refine BV (j:=4) (key:=x.1) (d:=.int ((j:Nat):Int)) rfl ao.1.2 (λG N e=>ae.eq (e.vd (d:=.int<|0+(j:Int)) rfl) (by rw [Qv])) (λG N e=>e.v rfl) Z4 ?_
   rw [bc]
   exact fc ⟨_,rfl⟩
  .obtain ⟨s6,rfl⟩:=hp
   refine fc ⟨.d (.int<|0+(j:Int)),s6,?_⟩
   unfold aI
   rw [LA,LA,MO,Ll T]
 obtain ⟨s5,s6,rfl⟩:=hp
 rw [LA,Pl,MO]
 dsimp only
 refine fk (d:=.bl true) (λG N e=>wx ⟨i9 ms,g,cP m,rfl,Y.IZ,rfl⟩<|e.es (i:=1) rfl (λz=>nomatch z)<|Lm (bN ⟨ms,rfl,rfl⟩<|aa (e.v rfl) ag)<|e.es (i:=4) rfl (λz=>nomatch z) uY) λv H' s' r'=>?_
 rw [r'.jA]
 exact q H'
end
end a5
namespace a5
open PySem L2 FL
section
variable {P:Program}{w:World}{K:PySem.W.Frag}{mg:Str->Option Value}{base:Heap}{f:Addr}{fd:FuncData}
def xU:bW ["_law_found","_law_due","_law_k"] ["_law_found","_law_due"] (ba sw):=⟨rfl,rfl,rfl,Z9,rfl,Z9,Z9⟩
def D5 (F:aF K "_law_alike" "_law_alike" sw f fd)(B:Bl mg)(g:aV P w K mg base 1 "_law_whole" ["_law_found"] (bw sI)):bp P w K mg base bz 2 f fd ["_law_found","_law_due"] (bw A1):=by
 refine F.ok xU (eP (n:=2) λN d O=>by obtain ⟨_,e,_⟩:=O;rw [e];rfl) λT A t s H vs Q E I h=>?_
 obtain ⟨M,N,d,U,Y,⟨k,rfl,⟨hl,J⟩,rfl⟩,q⟩:=h
 have u:=dR I
 refine ⟨_,(aD (cj (iG (eF<|df<|gg B (pv 0) B.tuple M3)<|jp<|cA (ij (by exact u)) (cY B<|pv 0)<|cY B<|pv 1).pt (aB<|bu d9) cu)
   (aD (de L9 rfl (nj rfl B.range<|ai (cY B<|pv 1) aw) (bv 2 xU.nd)<|aB<|cj (df<|gg B (bg (pv 1)<|pv 2) B.tuple M3) (aB<|cj (iG (eF<|df<|gg B (bg (pv 0)<|pv 2) B.tuple M3)<|jp<|cA (ij (by exact u)) (cY B<|bg (pv 0)<|pv 2)<|cY B<|bg (pv 1)<|pv 2).pt (aB<|bu d9) cu)<|aB<|cj (iY (eF<|df<|gg B (bg (pv 0)<|pv 2) B.str Ob)<|iU<|eF<|df<|bG g I<|ai (bg (pv 0)<|pv 2) aw).pt (aB<|bu d9) cu)
   (aB<|bu<|iZ (fC (by exact u)) (pv 0)<|pv 1))),?_⟩
 have b0:Bx H M [] _ H [Sl.d (.tup k),.d (.tup k),.no]:=gW U Y ["_law_found","_law_due","_law_k"]
 refine a8.run b0 ?_
 refine iN (λG p e=>iC (b:=false) (c:=false) (br.eq (eB<|dh<|qa<|e.v rfl) rfl) λ_=>br.eq (cw<|nC (h9 (K:=K)<|aa (e.v rfl) ag)<|h9 (K:=K)<|aa (e.v rfl) ag) Z8) ?_
 refine bI<|iR (i:=2) (eU.rG (n:=k.length) Z4 λG p e=>aa (h9 (K:=K)<|aa (e.v rfl) ag) ag) (λ_ m=>∃s,m=[Sl.d (.tup k),.d (.tup k),s]) ⟨_,rfl⟩ (λB' sB hk j z m hj y=>?_) λm y=>?_
 .obtain ⟨s,rfl⟩:=y
  obtain ⟨r,rfl⟩:=nE 0 _ j z hj
  have o:dO k (0+(j:Int))=some k[j]:=sW<|Ly r
  have C:=NW r
  generalize k[j]=x at o C
  refine eO (λG p e=>dh<|qa<|b9 o (e.v rfl)<|e.v rfl) (λz=>?_) λz=>?_
  .obtain ⟨l,rfl⟩:∃l,x=.tup l:=by cases x<;>first|exact ⟨_,rfl⟩|cases z
   exact eO (b:=false) (λG p e=>iC (b:=false) (c:=false) (br.eq (eB<|dh<|qa<|b9 o (e.v rfl)<|e.v rfl) rfl) λ_=>br.eq (cw<|nC (h9 (K:=K)<|aa (b9 o (e.v rfl)<|e.v rfl) ag)<|h9 (K:=K)<|aa (b9 o (e.v rfl)<|e.v rfl) ag) Z8) (λz=>nomatch z) λ_=>fW<|fc ⟨_,rfl⟩
  .have cG:x.sc=true:=by
    rcases J with w|⟨as,rfl,_⟩
    .exact w x C
    .obtain ⟨a,_,rfl⟩:=LS.mp C
     cases z
   exact eO (b:=false) (λG p e=>br.eq (ii (eB<|dh<|jO<|b9 o (e.v rfl)<|e.v rfl) λ_=>eB<|dh<|bN ⟨x,rfl,rfl⟩<|aa (b9 o (e.v rfl)<|e.v rfl) ag)<|z8 cG) (λz=>nomatch z) λ_=>fW<|fc ⟨_,rfl⟩
 .obtain ⟨s,rfl⟩:=y
  dsimp only
  have L:cn (.tup k) (.tup k)=true/\(D.tup k).cI<=40:=by
   rcases J with w|⟨as,rfl,w⟩
   .exact wS w w
   .obtain ⟨e1,e2⟩:=su w w
    exact ⟨by rw [cn];exact e1,by rw [D.cI];omega⟩
  exact fk (λG p e=>ae.eq (lL L.1 L.2 (e.v rfl)<|e.v rfl) (by rw [LV rfl])) q
def AZ:bW ["_law_handed","_law_rules","_law_k"] ["_law_handed","_law_rules"] (ba rB):=⟨rfl,rfl,rfl,Z9,rfl,Z9,Z9⟩
def Gk (F:aF K "_law_stays" "_law_stays" rB f fd)(B:Bl mg)(a:aV P w K mg base 2 "_law_alike" ["_law_found","_law_due"] (bw A1)):bp P w K mg base bz 3 f fd ["_law_handed","_law_rules"] (bw yd):=by
 refine F.ok AZ (eP (n:=2) λU d Y=>by obtain ⟨_,e,_⟩:=Y;rw [e];rfl) λac A I s H vs Q E J h=>?_
 obtain ⟨M,U,d,lv,rs,⟨g,rfl,hl,hx,rfl⟩,q⟩:=h
 have T:=dR J
 refine ⟨_,(aD (cj (cA (ij (by exact T)) (cY B<|pv 0)<|cY B<|pv 1) (aB<|bu d9) cu)
   (aD (de L9 rfl (nj rfl B.range<|ai (cY B<|pv 1) aw) (bv 2 AZ.nd) (aD (cj (iG (eF<|df<|gg B (bg (pv 0)<|pv 2) B.tuple M3)<|jp<|cA (ij (by exact T)) (cY B<|bg (pv 0)<|pv 2) aM).pt (aB<|bu d9) cu)
   (aD (cj (eF<|df<|bG a J<|ai (bg (bg (pv 0)<|pv 2) aM)<|ai (bg (bg (pv 1)<|pv 2) aM) aw) (aB<|bu d9) cu)
   (aB<|cj (eF<|df<|bG a J<|ai (bg (bg (pv 0)<|pv 2) aM)<|ai (bg (bg (pv 1)<|pv 2) aM) aw) (aB<|bu d9) cu))))
   (aB<|bu d9))),?_⟩
 have b0:Bx H M [] _ H [Sl.d (.lst<|g.map a6),.d (.lst<|g.map a6),.no]:=gW lv rs ["_law_handed","_law_rules","_law_k"]
 refine a8.run b0 ?_
 refine iN (λG o e=>br.eq (cw<|nC (ff (K:=K)<|aa (e.v rfl) ag)<|ff (K:=K)<|aa (e.v rfl) ag) Z8) ?_
 refine bI<|iR (i:=2) (eU.rG (n:=g.length) Z4 λG o e=>aa ((ff (K:=K)<|aa (e.v rfl) ag).eq (by rw [LA])) ag) (λ_ p=>∃s,p=[Sl.d (.lst<|g.map a6),.d (.lst<|g.map a6),s]) ⟨_,rfl⟩ (λB' sB hk j z p hj L=>?_) λp L=>?_
 .obtain ⟨s,rfl⟩:=L
  obtain ⟨t,rfl⟩:=nE 0 _ j z hj
  have u:=Ly t
  obtain ⟨x,y⟩:=hx _<|NW t
  generalize g[j]=r at u x y
  have N:dO (g.map a6) (0+(j:Int))=some (a6 r):=sW (by rw [LO,u];rfl)
  have C:∀{d:D} {G:Hp} {o:St} {O:List Sl} {i:Int} {m:Nat},bS G o O->(O[m]?).bind Sl.oR=some (.lst<|g.map a6)->(O[2]?).bind Sl.oR=some (.int<|0+(j:Int))->dO [D.tup r.1,cf r.2] i=some d->ae (bY (gf K) (bY (gf K) (aW m)<|aW 2)<|tC (.int i)) G o d:=λe x y k=>b9 k (cN N (e.v x)<|e.v y) aq
  refine iN (λG o e=>iC (b:=false) (c:=false) (br.eq (eB<|dh<|qa<|cN N (e.v rfl)<|e.v rfl) rfl) λ_=>br.eq (cw<|nC (h9 (K:=K) (l:=[D.tup r.1,cf r.2])<|aa (cN N (e.v rfl)<|e.v rfl) ag) aq) rfl) ?_
  refine iN (λG o e=>br.eq (eB<|dh<|bN (d:=.bl true) ⟨r.1,rfl,x,rfl⟩<|aa (C e rfl rfl rfl)<|aa (C e rfl rfl rfl) ag) rfl) ?_
  exact eO (b:=false) (λG o e=>br.eq (eB<|dh<|bN (d:=.bl true) ⟨r.2.map D.tup,rfl,y,rfl⟩<|aa (C e rfl rfl rfl)<|aa (C e rfl rfl rfl) ag) rfl) (λz=>nomatch z) λ_=>fW<|fc ⟨_,rfl⟩
 .obtain ⟨s,rfl⟩:=L
  dsimp only
  exact fk (λG o e=>qB (b:=true)) q
def qe:bW ["_law_body","_law_things","_law_there","_law_latest","_law_atom","_law_filled_in"] ["_law_body","_law_things","_law_there"] (ba rj):=⟨rfl,rfl,rfl,Z9,rfl,Z9,Z9⟩
def Iy (F:aF K "_law_latest_of" "_law_latest_of" rj f fd)(B:Bl mg)(J:mg "max"=none)(p:aV P w K mg base 2 "_law_true" ["_law_atom","_law_there"] (spS ym))(o:aV P w K mg base 1 "_law_fill_in" ["_law_atom","_law_things"] (iX rm)):bp P w K mg base bz 3 f fd ["_law_body","_law_things","_law_there"] (spS By):=by
 refine F.ok qe (xt (n:=3) λds d q0=>by obtain ⟨_,_,_,_,e,_⟩:=q0;rw [e];rfl) λas A ac s H vs Q E hr h=>?_
 obtain ⟨M,ds,d,lv,rs,⟨ao,⟨hd,m⟩,c,k,rfl,hP,af,T,aj,rfl⟩,q⟩:=h
 have hu:=dR hr
 have am:=fE hr
 refine ⟨_,(aD (bj 3 qe.nd<|iQ iM aM)
   (aD (de L9 rfl (cq<|pv 0) (bv 4 qe.nd) (aD (bj 5 qe.nd<|bG o hr<|ai (pv 4)<|ai (pv 1) aw)
   (aD (cj (eF<|df<|bG p hr<|ai (pv 5)<|ai (pv 2) aw) (aB<|bu<|iQ iM aM) cu)
   (aB<|cj (iY (cA (ij (by exact hu)) (bg (pv 4) aM) gc)<|iU<|cA (ij (by exact hu)) (bg (pv 4) aM) gc).pt (aB<|bj 3 qe.nd<|DZ J (pv 3)<|p8 (by exact am) (pv 2) (pv 5) λ_ _=>rfl) cu))))
   (aB<|bu<|pv 3))),?_⟩
 have b0:Bx H M [] _ H [Sl.d<|cf m,.kd c,.td k,.no,.no,.no]:=xl lv rs (by simp [Sl.own]) ["_law_body","_law_things","_law_there","_law_latest","_law_atom","_law_filled_in"]
 have hI:BI (c7 m) m:=af.bi
 have hA:=hI.at_
 have u:∀a∈m,∀x∈a,x.sc=true:=λa ha x hx=>((hA a ha).ok x hx).1
 refine a8.run b0<|bI<|dZ (i:=3) (d:=.int (-1)) (λG L e=>iK aq) rfl ?_
 refine bI<|iR (i:=4) (ds:=m.map D.tup) (eU.of λG L e=>jI<|e.vd rfl) (λj N=>gk (k.map (·.1)) (m.take j) c=true/\∃s4 s5,N=[Sl.d<|cf m,.kd c,.td k,.d (.int<|fm k (m.take j) c),s4,s5]) ⟨rfl,_,_,rfl⟩ (λB' sB hk j x N hj hp=>?_) λN hp=>?_
 .obtain ⟨r,s4,s5,rfl⟩:=hp
  rw [LO] at hj
  obtain ⟨a,ha,rfl⟩:=Mz.mp hj
  have t:=LD ha
  have O:=hA a t
  have U:=vc O.ne (u a t) T
  have Y:m.take (j+1)=m.take j++[a]:=by rw [Mm,ha];rfl
  refine bI<|dZ (i:=5) (d:=.tup<|bQ c a) (λG L e=>e.yf (j:=1) (.inr rfl) O.ne (u a t) O.len<|e.v rfl) (iy U) ?_
  refine bI<|eO (b:= !fb (k.map (·.1)) (bQ c a)) (λG L e=>eB<|dh<|wx ⟨bQ c a,k,rfl,Ev O.ne (u a t) T λg=>(hI.gd a t g).1,rfl⟩<|e.es (i:=5) (s:=.d (.tup<|bQ c a)) rfl (λz=>nomatch z)<|e.es (i:=2) (s:=.td k) rfl (λz=>nomatch z) uY) (λz=>?_) λz=>?_
  .refine fk (d:=.int (-2)) (λG L e=>iK aq) λv H' s' r'=>q v H' (sB.trans s') ?_
   unfold lC
   rw [LG λw=>by
    have:=NV.mp w a t
    rw [this] at z;cases z]
   exact r'
  .have ht:fb (k.map (·.1)) (bQ c a)=true:=by simpa using z
   have I:gk (k.map (·.1)) (m.take<|j+1) c=true:=by
    unfold gk at r⊢
    rw [Y,List.all_append,r]
    simp [ht]
   have C:fm k (m.take<|j+1) c=if aE a=true then fm k (m.take j) c else mY (fm k (m.take j) c) (dW k<|bQ c a):=by
    unfold fm
    rw [Y,MS]
    rfl
   refine fW ?_
   obtain ⟨y,l,rfl⟩:∃y l,a=y::l:=by
    cases a with
    |nil=>exact absurd rfl O.ne
    |cons y l=>exact ⟨y,l,rfl⟩
   have hy:=u _ t y Lz
   refine eO (b:= !aE (y::l)) (λG L e=>br.eq (ii (cw<|nl (d1:=y) (d2:=.str "less") (fu hy rfl).1 (fu hy (b:=.str "less") rfl).2 (b9 (d:=y) gZ (e.v rfl) aq) aN) λ_=>cw<|nl (d1:=y) (d2:=.str "unlike") (fu hy rfl).1 (fu hy (b:=.str "unlike") rfl).2 (b9 (d:=y) gZ (e.v rfl) aq) aN) (Bool.not_or ..).symm) (λg=>?_) λg=>?_
   .have g:aE (y::l)=false:=by simpa using g
    rw [g,LG LI] at C
    have an:bQ c (y::l)∈k.map (·.1):=Ax (body:=[y::l]) (by unfold gk;simp [ht]) (by unfold c7;simp [g]) O.ne
    refine dZ (i:=3) (d:=.int<|mY (fm k (m.take j) c)<|dW k<|bQ c (y::l)) (λG L e=>Jp<|aa (e.v rfl)<|aa (e.vZ (j:=2) rfl U (Bg aj an)<|e.v rfl) ag) rfl<|fc ⟨I,.d (.tup (y::l)),.d (.tup<|bQ c (y::l)),?_⟩
    rw [C]
    rfl
   .have g:aE (y::l)=true:=by simpa using g
    rw [g,LJ rfl] at C
    refine fW<|fc ⟨I,.d (.tup (y::l)),.d (.tup<|bQ c (y::l)),?_⟩
    rw [C]
    rfl
 .obtain ⟨r,s4,s5,rfl⟩:=hp
  rw [LA,MO] at r
  rw [LA,MO]
  dsimp only
  refine fk (λG L e=>e.v rfl) λv H' s' r'=>q v H' s' ?_
  unfold lC
  rw [LJ r]
  exact r'
abbrev zk:List Str:=["_law_rules","_law_pool","_law_there","_law_upheld","_law_head","_law_body","_law_things","_law_latest","_law_fact"]
def mL:bW zk ["_law_rules","_law_pool","_law_there"] (ba rX):=⟨rfl,rfl,rfl,Z9,rfl,Z9,Z9⟩
def Jz (F:aF K "_law_no_sooner" "_law_no_sooner" rX f fd)(B:Bl mg)(I:aV P w K mg base 1 "_law_choices" ["_law_blanks","_law_pool"] ut)(y:aV P w K mg base 1 "_law_blanks_in" ["_law_atoms"] (bw x3))(C:aV P w K mg base 3 "_law_latest_of" ["_law_body","_law_things","_law_there"] (spS By))(J:aV P w K mg base 1 "_law_fill_in" ["_law_atom","_law_things"] (iX rm)):bp P w K mg base bz 4 f fd ["_law_rules","_law_pool","_law_there"] (spS Co):=by
 refine F.ok mL (xt (n:=3) λds d q0=>by obtain ⟨_,_,_,e,_⟩:=q0;rw [e];rfl) λc2 A b8 s H vs Q E Y h=>?_
 obtain ⟨M,ds,d,lv,rs,⟨o,u,g,rfl,⟨hP,cd,a3,c1,ch,bd⟩,rfl⟩,q⟩:=h
 have hu:=dR Y
 have ao:=fE Y
 refine ⟨_,(aD (bj 3 mL.nd tQ)
   (aD (de L9 rfl (cq<|pv 0) (mZ rfl<|fj (bv 4 mL.nd)<|fj (bv 5 mL.nd) kn) (aB (de L9 rfl (cq<|bG I Y<|ai (bG y Y<|ai (pv 5) aw)<|ai (pv 1) aw) (bv 6 mL.nd) (aD (bj 7 mL.nd<|bG C Y<|ai (pv 5)<|ai (pv 6)<|ai (pv 2) aw)
   (aD (bj 8 mL.nd<|bG J Y<|ai (pv 4)<|ai (pv 6) aw)
   (aD (cj (iY (cA mn (pv 7)<|iQ iM aM)<|iU (iG (jV<|pH (by exact ao) (pv 8)<|pv 2)<|jp<|cA mn (p8 (by exact ao) (pv 2) (pv 8) λ_ _=>rfl)<|cW ju (pv 7) aM).pt).pt (aB<|bu d9) cu)
   (aB<|cj (iY (cA mn (pv 7)<|iQ iM aM)<|iU<|cA (fC (by exact hu)) (p8 (by exact ao) (pv 2) (pv 8) λ_ _=>rfl)<|cW ju (pv 7) aM).pt (aB<|kN ao (pv 3) (pv 8) d9 rfl) cu)))))))
   (aB<|bu<|iZ (fC (by exact hu)) (vx B<|pv 3)<|vx B<|pv 2))),?_⟩
 have b0:Bx H M [] _ H [Sl.d (.lst<|u.map a6),.d (.lst o),.td g,.no,.no,.no,.no,.no,.no]:=xl lv rs (by simp [Sl.own]) zk
 refine a8.run b0<|bI<|BZ (i:=3) ?_
 let Up:bJ->aO->List (ZZ×D)->Prop:=λr c U=>gk (g.map (·.1)) r.2 c=true->dW g (bQ c r.1)=fm g r.2 c+1->bQ c r.1∈U.map (·.1)
 refine bI<|FS (i:=4) (i':=5) (eU.of λG σ e=>dG<|e.vd rfl) (λj af=>∃U s4 s5 s6 s7 s8,(U.map (·.1)).Nodup/\(∀f∈U.map (·.1),f∈g.map (·.1))/\(∀r∈u.take j,∀c∈cM o (aT [] r.2) [[]],Up r c U)/\af=[Sl.d (.lst<|u.map a6),.d (.lst o),.td g,.t U,s4,s5,s6,s7,s8]) ⟨[],_,_,_,_,_,NQ,(λf hf=>nomatch hf),(λr Y=>nomatch Y),rfl⟩ (λB' sB hk k x af hx hp=>?_) λaf hp=>?_
 .obtain ⟨U,s4,s5,s6,s7,s8,L,N,T,rfl⟩:=hp
  rw [LO] at hx
  obtain ⟨r,a1,rfl⟩:=Mz.mp hx
  have bk:=LD a1
  have aj:=cd r bk
  have bs:=ch r bk
  have cl:u.take (k+1)=u.take k++[r]:=by rw [Mm,a1];rfl
  obtain ⟨O,l⟩:=r
  refine ⟨.tup O,cf l,rfl,?_⟩
  have hI:BI (c7 l) l:=aj.bi
  have hA:=hI.at_
  have c3:l.length<=3:=aj.dH
  obtain ⟨w,xs,hw⟩:∃w xs,O=D.str w::xs:=by
   obtain ⟨w,xs,e,_⟩:=aj.hd
   exact ⟨w,xs,e⟩
  have a2:O≠[]:=by rw [hw];exact λz=>nomatch z
  have a4:(∀x∈O,x.sc=true)/\O.length<=3:=aj.hd.sc hP
  refine Gz (i:=6) (Bs:=aT [] l) (pool:=o) (λG σ e=>aa (bN ⟨l,rfl,GA hA Z4,rfl⟩<|aa (e.vd rfl) ag)<|aa (e.vd rfl) ag) (λx hx=>(hP.gp x hx).1) (Eu hA) (by rcases hP.len with z|z<;>omega) (λj af=>∃U s6 s7 s8,(U.map (·.1)).Nodup/\(∀f∈U.map (·.1),f∈g.map (·.1))/\(∀r∈u.take k,∀c∈cM o (aT [] r.2) [[]],Up r c U)/\(∀c∈(cM o (aT [] l) [[]]).take j,Up (O,l) c U)/\af=[Sl.d (.lst<|u.map a6),.d (.lst o),.td g,.t U,.d (.tup O),.d<|cf l,s6,s7,s8]) ⟨U,_,_,_,L,N,T,(λc hc=>nomatch hc),rfl⟩ (λB2 c4 c5 j c co hc hp=>?_) λco hp=>?_
  .obtain ⟨U,s6,s7,s8,L,N,T,as,rfl⟩:=hp
   have bt:=LD hc
   have bx:∀p∈c,p.2.sc=true:=tZ o _ [[]] c (λx hx=>(hP.gp x hx).1) (λm hm p hp=>by rw [L4.mp hm] at hp;cases hp) bt
   have am:=vc a2 a4.1 bx
   have an:∀{U':List (ZZ×D)},(∀f∈U.map (·.1),f∈U'.map (·.1))->Up (O,l) c U'->(∀r∈u.take k,∀c∈cM o (aT [] r.2) [[]],Up r c U')/\∀c∈(cM o (aT [] l) [[]]).take (j+1),Up (O,l) c U':=λ{U'} h1 h2=>by
    refine ⟨λr Y c hc a b=>h1 _<|T r Y c hc a b,λc' b6=>?_⟩
    rw [Mm,hc] at b6
    rcases LY.mp b6 with z|z
    .exact λa b=>h1 _<|as c' z a b
    .rw [L4.mp z];exact h2
   refine bI<|dZ (i:=7) (d:=.int<|lC g l c) (λG σ e=>wx ⟨o,(O,l),c,g,rfl,hP,aj,bx,a3,rfl⟩<|e.es (i:=5) rfl (λz=>nomatch z)<|e.es (i:=6) rfl (λz=>nomatch z)<|e.es (i:=2) rfl (λz=>nomatch z) uY) rfl ?_
   refine bI<|dZ (i:=8) (d:=.tup<|bQ c O) (λG σ e=>e.yf (j:=6) (.inr rfl) a2 a4.1 (L8 a4.2 Z1)<|e.v rfl) (iy am) ?_
   by_cases hs:gk (g.map (·.1)) l c=true
   .obtain ⟨a0,cs,ct⟩:=bs c bt hs
    have bc:lC g l c=fm g l c:=by unfold lC;rw [LJ hs]
    rw [bc]
    have hv:=Bg a3 a0
    dsimp only at a0 cs ct hv
    refine iN (λG σ e=>br.eq (ii (c:=false) (cw<|j6 (e.v rfl)<|iK aq) λ_=>iC (b:=false) (c:=false) (br.eq (dh<|e.F5 (j:=2) rfl am<|e.v rfl) (by rw [LV a0];rfl)) λ_=>br.eq (cw<|j6 (e.vZ (j:=2) rfl am hv<|e.v rfl)<|kq (e.v rfl) aq)<|Mc Z4)<|Pp _) ?_
    refine eO (b:=decide<|dW g (bQ c O)=fm g l c+1) (λG σ e=>br.eq (ii (cw<|j6 (e.v rfl)<|iK aq) λ_=>cw<|iL (e.vZ (j:=2) rfl am hv<|e.v rfl)<|kq (e.v rfl) aq) (by rw [LV (show-2<fm g l c by omega)];rfl)) (λz=>?_) λz=>?_
    .have ac:=DP U (bQ c O) (.bl true)
     have dc:U.length<=g.length:=by
      have:=lp L N
      rwa [LA,LA] at this
     refine BV (j:=3) (key:=bQ c O) (d:=.bl true) rfl am (λG σ e=>qB) (λG σ e=>e.v rfl) Z4 ?_
     have b7:∀f∈U.map (·.1),f∈(iI U (bQ c O) (.bl true)).map (·.1):=λf hf=>by
      rw [ac];split
      .exact hf
      .exact LL _ hf
     have c0:bQ c O∈(iI U (bQ c O) (.bl true)).map (·.1):=by
      rw [ac];split
      .assumption
      .exact LH _ Z8
     obtain ⟨o1,o2⟩:=an b7 λ_ _=>c0
     refine fc ⟨iI U (bQ c O) (.bl true),.kd c,_,_,?_,λf hf=>?_,o1,o2,rfl⟩
     .rw [ac];split
      .exact L
      .rename_i hn
       exact Np.mpr ⟨L,by simp,λa ha b hb e=>hn (by rw [L4.mp hb] at e;rw [<-e];exact ha)⟩
     .rw [ac] at hf
      split at hf
      .exact N f hf
      .rcases LY.mp hf with w|w
       .exact N f w
       .rw [L4.mp w];exact a0
    .obtain ⟨o1,o2⟩:=an (U':=U) (λf hf=>hf) (λ_ b=>absurd b<|MB z)
     exact fW<|fc ⟨U,.kd c,_,_,L,N,o1,o2,rfl⟩
   .have bc:lC g l c=-2:=by unfold lC;rw [LG hs]
    rw [bc]
    obtain ⟨o1,o2⟩:=an (U':=U) (λf hf=>hf) λa _=>absurd a hs
    refine iN (λG σ e=>br.eq (ii (b:=false) (c:=false) (br.eq (cw<|j6 (e.v rfl)<|iK aq) rfl) λz=>nomatch z) rfl) ?_
    exact eO (b:=false) (λG σ e=>br.eq (ii (b:=false) (c:=false) (br.eq (cw<|j6 (e.v rfl)<|iK aq) rfl) λz=>nomatch z) rfl) (λz=>nomatch z) λ_=>fW<|fc ⟨U,.kd c,_,_,L,N,o1,o2,rfl⟩
  .obtain ⟨U,s6,s7,s8,L,N,T,as,rfl⟩:=hp
   rw [MO] at as
   refine fc ⟨U,_,_,s6,s7,s8,L,N,λr Y c hc=>?_,rfl⟩
   rw [cl] at Y
   rcases LY.mp Y with z|z
   .exact T r z c hc
   .have z:=L4.mp z
    subst z
    exact as c hc
 .obtain ⟨U,s4,s5,s6,s7,s8,L,N,T,rfl⟩:=hp
  rw [LA,MO] at T
  dsimp only
  have h1:=lp L N
  have h2:=lp a3.nd λf hf=>by
   obtain ⟨r,Y,c,hc,hs,e1,e2⟩:=bd f hf
   have:=T r Y c hc hs (by rw [e1];exact e2)
   rw [e1] at this
   exact this
  rw [LA,LA] at h1 h2
  exact fk (λG σ e=>ae.eq (iL (e.yl (j:=3) rfl)<|e.Ga (j:=2) rfl) (by rw [LV (show (U.length:Int)=g.length by omega)])) q
end
end a5
namespace a5
open PySem L2 FL
section
variable {P:Program}{w:World}{K:PySem.W.Frag}{mg:Str->Option Value}{base:Heap}{f:Addr}{fd:FuncData}
def Ek:bW ["self","asker","shared","guards"] ["self","asker","shared","guards"] (ba lR):=⟨rfl,rfl,rfl,Z9,rfl,Z9,Z9⟩
def Iv(F:aF K "__init__" "Step.__init__" lR f fd)(T:lG K C):bp P w K mg base bz 1 f fd ["self","asker","shared","guards"] (yC C):=by
 refine F.ok Ek (λk H Q E l=>by obtain ⟨_,_,_,_,_,e,_⟩:=l;rw [e];rfl) λm A d s H k Q E o h=>?_
 obtain ⟨x,b,g,i,j,rfl,n,q⟩:=h
 refine ⟨_,(aD (fL (pv 0) (pv 1) rfl)
   (aD (fL (pv 0) (pv 2) rfl)
   (aD (fL (pv 0) (pv 3) rfl)
   (aD (fL (pv 0) tQ rfl)
   (aB<|fL (pv 0) (iQ iM aM) rfl))))),?_⟩
 refine ⟨g,rfl,.ref x,rfl,x,C,b,[],rfl,n,T.cl,T.nA,by decide,?_⟩
 refine ⟨i,rfl,.ref x,rfl,x,C,b,_,rfl,aR,T.cl,T.nS,(show 1<1000 by decide),?_⟩
 refine ⟨j,rfl,.ref x,rfl,x,C,b,_,rfl,aR,T.cl,T.nG,(show 2<1000 by decide),?_⟩
 rw [lE,lE]
 intro p c
 have a:p≠x:=λz=>by rw [z,aR] at c;cases c
 rw [aA a] at c
 refine ⟨.ref x,rfl,x,C,b,[("asker",g),("shared",i),("guards",j)],rfl,by rw [aA<|MC a];exact aR,T.cl,T.nO,(show 3<1000 by decide),?_⟩
 rw [Gn a]
 refine ⟨1,rfl,.ref x,rfl,x,C,b,_,rfl,aR,T.cl,T.nN,(show 4<1000 by decide),?_⟩
 rw [lE]
 exact q p c a
def qS:bW ["self","place","fact","setting","shared_things","pairs"] ["self","place","fact"] (ba mO):=⟨rfl,rfl,rfl,Z9,rfl,Z9,Z9⟩
def EU(F:aF K "offer" "Step.offer" mO f fd)(T:lG K C)(B:Bl mg)(r:aV P w K mg base 2 "matched" ["atom","fact","setting"] (bw Ah)):bp P w K mg base bz 3 f fd ["self","place","fact"] (yY C):=by
 refine F.ok qS (λvs H Q E q0=>by obtain ⟨_,_,_,_,_,_,_,e,_⟩:=q0;rw [e];rfl) λcs A bt s H vs Q E hr h=>?_
 obtain ⟨Z,os,st,a,n,g,v2,rfl,lv,an,v,Y,hA,hg,hz,q⟩:=h
 have ac:=fE hr
 refine ⟨_,(aD (bj 3 qS.nd<|bG r hr<|ai (dC (pv 0) rfl)<|ai (pv 2)<|ai (dy aw) aw)
   (aB (cj (cA Kn (pv 3) u9) (aD (bj 4 qS.nd<|sV B<|fM ["self","blank","thing"] [0] 2 (cq<|pv 3) (λ_ _ _ _ _=>(vO (n:=2) rfl<|fj (bv 1 (show (["self","blank","thing"]:ZY).Nodup from by decide+kernel))<|fj (bv 2 (show (["self","blank","thing"]:ZY).Nodup from by decide+kernel)) kn)) (λ_ _ _ _ _=>(iH<|jV<|qc (by exact ac) (pv 1)<|qg (pv 0) rfl)) λ_ _ _ _ _=>(pv 2))
   (aD (qI (i:=5) ["self","blank","thing"] [0] 2 qS.nd rfl (Or.inl rfl) (cq<|pv 3) (λ_ _ _ _ _=>(vO (n:=2) rfl<|fj (bv 1 (show (["self","blank","thing"]:ZY).Nodup from by decide+kernel))<|fj (bv 2 (show (["self","blank","thing"]:ZY).Nodup from by decide+kernel)) kn)) (λ_ _ _ _ _=>(iH<|jV<|pH (by exact ac) (pv 1)<|qg (pv 0) rfl)) λ_ _ _ _ _=>(eE<|ai (pv 1)<|ai (pv 2) aw))
   (aD (jY (yp ac (dC (pv 0) rfl) (pv 4) (dy aw) ⟨rfl,rfl,rfl,rfl⟩)<|eE<|ai (pv 1)<|ai (pv 5) aw)
   (aB<|fL (pv 0) (pv 1) rfl)))) cu))),?_⟩
 obtain ⟨dx,v0,sa,w2,l,ls,oS,G,ha,r0,as,rg,hO⟩:=an.at_
 have aZ:a∈Z:=v a (by rw [G];simp)
 have a0:l∈Z:=v l (by rw [G];simp)
 have a1:∀x∈ls,x∈Z:=λx c=>v x (by rw [G];simp [c])
 obtain ⟨I,af,bx⟩:∃I:ZX,(∀x,x∈a::I↔x∈Z)/\a∉I:=⟨Z.filter λy=>decide<|y≠a,λx=>by
  by_cases e:x=a
  .simp [e,aZ]
  .simp [e],by simp⟩
 have G1:ab (but H Z) (but H I):=dU λx c=>(af x).mp<|Lv _ c
 have lr:ap I H:=λx c=>lv x<|(af x).mp<|Lv _ c
 have ga:but H I a=some (.ins C dx<|jc v0 sa w2 l st.newest):=by rw [bh bx];exact ha
 have E0:ay (but H I) (L2.start ["self","place","fact","setting","shared_things","pairs"] [.ref a,.int ((n:Nat):Int),v2]) [none,some (.int ((n:Nat):Int)),some (.tup g),none,none,none]:=fV (.raw (.dat (.int _) (.dat (Y.mono G1) .nil))) _
 refine f7 (i:=3) lr E0 (bN (d:=oh<|bE st.cE g []) ⟨st.cE,g,[],rfl,hA.sc,hg.2,(λp hp=>nomatch hp),hA.len,Mb _,hA.ne,hg.1,rfl⟩<|aa (gO T.cl T.nA rfl ga rfl<|r0.mono G1)<|aa (aG E0 rfl)<|aa (fy (ds:=pairD []) ag (hz:=Mb _)) ag) λa2 H4 o4 s4 l4 E4=>?_
 have c0:a2[0]?=some (some (.ref a)):=o4 0 Z1
 refine im l4 E4 (cw<|Gs<|aG E4 rfl) (λe H5 s5 l5 E5=>?_) λe H5 s5 l5 E5=>?_
 .obtain ⟨m,J⟩:∃m,bE st.cE g []=some m:=by
   cases J:bE st.cE g [] with
   |some m=>exact ⟨m,rfl⟩
   |none=>rw [J] at e;exact absurd e Z1
  have cG:=BH J (λt ht=>nomatch ht) hg.2
  have ct:=zQ J
  have c1:=hA.len
  rw [J] at E5
  have E5:ay (but H5 I) a2 [none,some (.int ((n:Nat):Int)),some (.tup g),some (.lst<|pairD m),none,none]:=E5
  have a3:=((s4.trans s5).but I) _ _ ga
  have a4:=((s4.trans s5).but I) _ _<|G1 _ _ as
  have c2:(jx m).length<=100:=by unfold jx;rw [LA];omega
  refine f7 (i:=4) l5 E5 (rO<|aa (ae.eq (yr (K:=K) (caps:=aY [0] 2) (i:=1) (j:=2) Z1 (ps:=jx m) (p:=λq=>decide<|q.1.name∈fo st) (f:=λq=>q.2) (dG<|(aG E5 rfl).eq (by rw [Cy])) (λG' v1 v2 q sG hq r1 Y=>?_) (λG' v1 v2 q sG hq _ r1 Y=>cH (by simp [aY]) Y)<|cy Z4) (by rw [Ix])) ag) λc3 H6 o6 s6 l6 E6=>?_
  .obtain ⟨t,ht,rfl⟩:=LS.mp hq
   exact FR (n:=t.1) (a:=a) T.cl T.nS (by simp [aY,c0]) (sG _ _ a3) rfl (sG _ _ a4)<|cH (by simp [aY]) r1
  have d0:=(o6 0 Z1).trans c0
  have b0:=(s6.but I) _ _ a3
  have b6:=(s6.but I) _ _ a4
  refine f7 (i:=5) l6 E6 (ae.eq (yr (K:=K) (caps:=aY [0] 2) (i:=1) (j:=2) Z1 (ps:=jx m) (p:=λq=> !decide (q.1.name∈fo st)) (f:=λq=>.tup [q.1,q.2]) (dG<|(aG E6 rfl).eq (by rw [Cy])) (λG' v1 v2 q sG hq r1 Y=>?_) (λG' v1 v2 q sG hq _ r1 Y=>aQ<|aa (cH (by simp [aY]) r1)<|aa (cH (by simp [aY]) Y) ag)<|cy Z4) (by rw [J8])) λbc H7 o7 s7 l7 E7=>?_
  .obtain ⟨t,ht,rfl⟩:=LS.mp hq
   exact HK (n:=t.1) (a:=a) T.cl T.nS (by simp [aY,d0]) (sG _ _ b0) rfl (sG _ _ b6)<|cH (by simp [aY]) r1
  have S7:ab H H7:=s4.trans<|s5.trans<|s6.trans s7
  have e0:bc[0]?=some (some (.ref a)):=(o7 0 Z1).trans d0
  have aj:=S7 _ _ ha
  have b7:ay (but H7 Z) bc [none,some (.int ((n:Nat):Int)),some (.tup g),some (.lst<|pairD m),some (.tup<|dv (fo st) m),some (.lst<|pairD<|restOf (fo st) m)]:=by
   have:=E7.eW aj rfl
   rw [kb af] at this
   exact this
  have b8:but H7 (ls++l::Z)=but H7 Z:=kb<|qD a0 a1
  have cd:ap (ls++l::Z) H7:=λx c=>(lv.same S7) x<|(qD a0 a1 x).mp c
  have L:=b7
  rw [<-b8] at L
  refine C9 (K:=K) (to:=kW K (aW 0) "offers") (ty:=aW 4) (te:=qM<|bo (aW 1)<|bo (aW 5) bA) (M:=Z) (o:=(n,restOf (fo st) m)) (key:=dv (fo st) m) cd (λQ q=>⟨.ref a,e0,a,C,dx,_,.ref l,rfl,aj,T.cl,T.nO,rfl,q⟩) (hO.same S7) (DR cG _) hz (aG L (i:=4) rfl) (aQ<|aa (aG L (i:=1) rfl)<|aa (aG L (i:=5) rfl) ag) λk H8 n8 i8 k8 l8 O8=>?_
  have N:a≠l:=λz=>by
   obtain ⟨c4,O,_⟩:=hO.kvs
   rw [<-z,ha] at O;cases O
  have bd:a∉ls:=λz=>by
   obtain ⟨vs,O⟩:=hO.lists a z
   rw [ha] at O;cases O
  have bi:=k8 _ _ N bd aj
  have am:a∉k:=λz=>by
   obtain ⟨vs,O⟩:=O8.lists a z
   rw [bi] at O;cases O
  obtain ⟨u1,bk,ch⟩:=E7.get 1 _ rfl
  have co:=ch.eC
  subst co
  refine ⟨.int ((n:Nat):Int),bk,.ref a,e0,a,C,dx,_,rfl,bi,T.cl,T.nN,(show 5<1000 by decide),?_⟩
  have U:∀x∈a::l::k,x∈os\/H x=none:=λx c=>by
   rw [G]
   rcases LK.mp c with z|z
   .exact .inl (by rw [z];simp)
   .rcases LK.mp z with z|z
    .exact .inl (by rw [z];simp)
    .rcases n8 x z with w|w
     .exact .inl (by simp [w])
     .refine .inr ?_
      cases qq:H x with
      |none=>rfl
      |some u=>rw [S7 _ _ qq] at w;cases w
  have bl:∀x∈os,x∈a::l::k:=λx c=>by
   rw [G] at c
   rcases LK.mp c with z|z
   .rw [z];simp
   .rcases LK.mp z with z|z
    .rw [z];simp
    .exact Lv _<|Lv _<|i8 x z
  have bs:∀b u,b∉os->H b=some u->upd H8 a (.ins C dx<|jc v0 sa w2 l ((n:Nat):Int)) b=some u:=λb u hb qb=>by
   rw [G] at hb
   simp only [LK,Qx] at hb
   rw [aA hb.1]
   exact k8 b u hb.2.1 hb.2.2<|S7 _ _ qb
  have SZ:ab (but H Z) (but (upd H8 a (.ins C dx<|jc v0 sa w2 l ((n:Nat):Int)))<|(a::l::k)++Z):=vk U v bs
  have O9:eD (upd H8 a (.ins C dx<|jc v0 sa w2 l ((n:Nat):Int))) ((a::l::k)++Z) l k (st.of++[(dv (fo st) m,(n,restOf (fo st) m))]):=by
   have hc:∀x,x∈k++l::Z↔x∈k++l::((a::l::k)++Z):=λx=>by
    simp only [LY,LK]
    constructor
    .rintro (z|z|z)
     .exact .inl z
     .exact .inr (.inl z)
     .exact .inr (.inr (.inr z))
    .rintro (z|z|(z|z|z)|z)
     .exact .inl z
     .exact .inr (.inl z)
     .exact .inr (.inr (by rw [z];exact aZ))
     .exact .inr (.inl z)
     .exact .inl z
     .exact .inr (.inr z)
   refine (O8.Eh hc).frame Z8 (λx c=>by simp [c]) Z8 (λx c=>by simp [c]) (λb u hb qb=>?_) ?_
   .rw [aA]
    .exact qb
    .intro z
     rcases LK.mp hb with w|w
     .exact N (by rw [<-z,w])
     .exact am (by rw [<-z];exact w)
   .rw [dD Z8]
    exact ab.refl _
  refine q (a::l::k) _ U bl bs (λx c=>?_) ?_
  .refine (l8.upd (a:=a)) x ?_
   rcases LY.mp c with z|z
   .rcases LK.mp z with z|z
    .rw [z];exact LH _<|Lv _ aZ
    .rcases LK.mp z with z|z
     .rw [z];exact LH _ Lz
     .exact LL _ z
   .exact LH _<|Lv _ z
  .have eS:cF st n g={st with of:=st.of++[(dv (fo st) m,(n,restOf (fo st) m))],newest:=n}:=by unfold cF;rw [J]
   rw [eS]
   exact ⟨⟨dx,v0,sa,w2,l,k,oS,rfl,aR,r0.mono SZ,SZ _ _ as,rg.mono SZ,O9⟩⟩
 .have J:bE st.cE g []=none:=by
   cases J:bE st.cE g [] with
   |none=>rfl
   |some m=>rw [J] at e;exact absurd e (by simp [oh])
  have S5:=s4.trans s5
  have eS:cF st n g=st:=by unfold cF;rw [J]
  have hc:∀x,x∈os++Z↔x∈Z:=λx=>⟨λh=>by
   rcases LY.mp h with z|z
   .exact v x z
   .exact z,λh=>LH _ h⟩
  refine q os H5 (λx c=>.inl c) (λx c=>c) (λb u _ qb=>S5 _ _ qb) (λx c=>(lv.same S5) x<|(hc x).mp c) ?_
  rw [eS]
  refine an.frame v (λx c=>LL _ c) (λb u _ qb=>S5 _ _ qb) ?_
  rw [kb hc]
  exact S5.but Z
end
end a5
namespace a5
open PySem L2 FL
section
variable {P:Program}{w:World}{K:PySem.W.Frag}{mg:Str->Option Value}{base:Heap}{f:Addr}{fd:FuncData}
def xo:bW ["self","setting","guard","slots"] ["self","setting"] (ba mH):=⟨rfl,rfl,rfl,Z9,rfl,Z9,Z9⟩
def F3(F:aF K "allows" "Step.allows" mH f fd)(T:lG K C)(B:Bl mg)(k:aV P w K mg base 1 "filled" ["atom","setting"] (bw qv))(l:aV P w K mg base 1 "holds" ["guard"] (bw sP)):bp P w K mg base bz 2 f fd ["self","setting"] (xw C):=by
 refine F.ok xo (λvs H Q E q0=>by obtain ⟨_,_,_,_,_,e,_⟩:=q0;rw [e];rfl) λa2 A ac s H vs Q E hr h=>?_
 obtain ⟨M,st,S,v0,v1,rfl,lv,af,r1,hS,hg,q⟩:=h
 obtain ⟨a,dx,w0,sa,w3,ao,oS,rfl,ga,g0,g1,g3,g2⟩:=af
 refine ⟨_,(aD (de L9 rfl (cq<|dC (pv 0) rfl) (mZ rfl<|fj (bv 2 xo.nd)<|fj (bv 3 xo.nd) kn)<|aB<|cj (eF<|df<|bG l hr<|ai (bG k hr<|ai (pv 2)<|ai (fM ["setting","slot"] [1] 1 (cq<|pv 3) (λ_ _ _ _ _=>(bv 1 (show (["setting","slot"]:ZY).Nodup from by decide+kernel))) (λ_ _ _ _ _=>jw) λ_ _ _ _ _=>(nW (pv 0)<|pv 1)) aw) aw) (aB<|bu d9) cu)
   (aB<|bu d9)),?_⟩
 have E0:ay (but H M) (L2.start ["self","setting","guard","slots"] [.ref a,v1]) [none,some (.lst<|pairD S),none,none]:=fV (.raw (.dat r1 .nil)) _
 refine gJ (M:=M) (ds:=st.gs.map kK) (dG<|gO T.cl T.nG rfl ga rfl g3) lv λH1 I=>?_
 refine ⟨λj b G=>ab H1 G/\b[0]?=some (some (.ref a))/\ay (but G M) b [none,some (.lst<|pairD S),none,none]/\eX S (st.gs.take j)=true,⟨ab.refl _,rfl,E0.same I,rfl⟩,λj b G q3=>by obtain ⟨x,_⟩:=q3;exact ⟨x.but M,(lv.same I).same x⟩,?_,?_⟩
 .rintro j d x b G J o ⟨L,i0,E',c⟩ Y rx
  obtain ⟨g,t,rfl⟩:∃g,st.gs[j]?=some g/\d=kK g:=by
   rw [LO] at o
   cases e:st.gs[j]? with
   |none=>rw [e] at o;cases o
   |some y=>rw [e] at o;exact ⟨y,rfl,(LQ o).symm⟩
  obtain ⟨⟨r,a1,b1,eg,N,O,aj⟩,hi,hz⟩:=hg g<|LD t
  refine oG rx λu1 u2 q1 q2=>?_
  have E3:ay (but J M) ((b.set 2<|some u1).set 3<|some u2) [none,some (.lst<|pairD S),some (.tup g.1),some (.lst<|g.2.map λn=>D.int (n:Nat))]:=((E'.same Y).set 2 q1).set 3 q2
  have l3:ap M J:=(lv.same<|I.trans L).same Y
  obtain ⟨vS,am,rS⟩:=E3.get 1 _ rfl
  have hp:=B4 hS hi
  have cG:∀y∈g.1,y.sc=true:=λy hy=>by
   rw [eg] at hy
   simp only [LK,Mj,ME] at hy
   rcases hy with rfl|rfl|rfl
   .rfl
   .exact N
   .exact O
  have an:cb (eh S g.2) (.str r)=.str r:=by
   refine jE ?_
   cases e:eZ (eh S g.2) (.str r) with
   |false=>rfl
   |true=>
    obtain ⟨p,u,e2⟩:=NX.mp e
    have e2:D.str p.1=.str r:=LW e2
    have:=(hp p u).2
    rw [e2,aj] at this;cases this
  have m:g.1.map (cb<|eh S g.2)=[.str r,cb (eh S g.2) a1,cb (eh S g.2) b1]:=by
   rw [eg,Mu,Mu,Mu,an];rfl
  have z:∀p∈eh S g.2,p.2.sc=true:=λp u=>(hp p u).1
  have U:holdsA (g.1.map<|cb<|eh S g.2)=holdsD r (cb (eh S g.2) a1) (cb (eh S g.2) b1):=by rw [m];rfl
  have as:=bN (R:=sP) (E:=L2.E0) (d:=.bl<|holdsA<|g.1.map<|cb<|eh S g.2) (ds:=[.tup<|g.1.map<|cb<|eh S g.2]) ⟨r,_,_,by rw [m],(ly N z).2,(ly O z).2,by rw [U]⟩
   (aa (bN (R:=qv) (E:=L2.E0) (ds:=[.tup g.1,.lst<|pairD<|eh S g.2]) ⟨g.1,eh S g.2,rfl,cG,z,by rw [eg];exact (show 3<=1000 by decide),rfl⟩<|aa (aG E3 (i:=2) rfl)<|aa (ae.eq (gm (caps:=aY [1] 1) (i:=1) (p:=λ_=>true) (f:=λd=>match d with|.int n=>CB (S.getD n.toNat (("":Str),.av))|_=>.av) (tt:=jD) (te:=bY (gf K) (aW 0)<|aW 1) (dG (K:=K)<|aG E3 (i:=3) rfl) (λG' v d _ _ _=>jS) (λG' v d sG o _ rv=>?_) (by rw [LA];exact cy Z4)) ?_) ag) ag)
  .refine im l3 E3 (eB<|dh as) (λe H4 s4 l4 E4=>?_) (λe H4 s4 l4 E4=>nx ?_)
   .have hf:eX S st.gs=false:=by
     unfold eX
     rw [List.all_eq_false]
     exact ⟨g,LD t,by simpa using e⟩
    rw [hf] at q
    exact q H4<|I.trans<|L.trans<|Y.trans s4
   .refine ⟨L.trans<|Y.trans s4,?_,(E4.drop 2).drop 3,?_⟩
    .rw [LB Z1,LB Z1];exact i0
    .unfold eX at c⊢
     rw [Mm,t,List.all_append,c]
     simpa using e
  .obtain ⟨n,hn,rfl⟩:=LS.mp o
   have a0:=hi n hn
   have h0:((aY [1] 1<|(b.set 2<|some u1).set 3<|some u2).set 1<|some v)[0]?=some (some vS):=by simp only [aY,Mu,Oj,am];rfl
   have h1:((aY [1] 1<|(b.set 2<|some u1).set 3<|some u2).set 1<|some v)[1]?=some (some v):=by simp [aY]
   refine cN (ds:=pairD S) ?_ (cH h0<|rS.mono sG)<|cH h1 rv
   refine ox Z4 ?_
   show (pairD S)[n]?=some (CB<|S.getD n (("":Str),.av))
   unfold pairD
   rw [LO,List.getD,Ly a0]
   rfl
  .rw [MG.mpr λ_ _=>rfl]
   unfold eh pairD
   rw [Mn,Mn]
   rfl
 .rintro b G ⟨L,i0,E',c⟩
  rw [LA,Mh<|LF _] at c
  rw [c] at q
  exact q G<|I.trans L
def k9:bW ["self","way","lowest","setting","places","shared_things","found","place","pairs","further"] ["self","way","lowest"] (ba mj):=⟨rfl,rfl,rfl,Z9,rfl,Z9,Z9⟩
def Kz(F:aF K "carry_on" "Step.carry_on" mj f fd)(T:lG K C)(B:Bl mg)(t:ee P w K mg base 2 C "allows" ["self","setting"] (xw C)):bp P w K mg base bz 3 f fd ["self","way","lowest"] (vI C):=by
 refine F.ok k9 (λvs H Q E q0=>by obtain ⟨_,_,_,_,_,_,e,_⟩:=q0;rw [e];rfl) λeg A cd s H vs Q E hr h=>?_
 obtain ⟨M,st,w0,lo,v0,v1,rfl,lv,an,r1,hS,a0,a1,Y,q⟩:=h
 obtain ⟨a,dx,w1,sa,w3,ao,oS,rfl,ga,g0,gs,g3,g2⟩:=id an
 have ch:=fE hr
 have mX:=T.cl
 refine ⟨_,(aD (bj 3 k9.nd<|bg (pv 1) aM)
   (aD (bj 4 k9.nd<|bg (pv 1) aM)
   (aD (bj 5 k9.nd<|sV B<|fM ["setting","slot"] [3] 1 (JX<|JO<|dC (pv 0) rfl) (λ_ _ _ _ _=>(bv 1 (show (["setting","slot"]:ZY).Nodup from by decide+kernel))) (λ_ _ _ _ _=>jw) λ_ _ _ _ _=>(nW (nW (pv 0)<|pv 1) aM))
   (aD (bj 6 k9.nd<|dy aw)
   (aD (de L9 rfl (Is B.reversed<|ai (ue ch (dC (pv 0) rfl) (pv 5) (dy aw) ⟨rfl,rfl,rfl,rfl⟩) aw) (mZ rfl<|fj (bv 7 k9.nd)<|fj (bv 8 k9.nd) kn) (aD (cj (cA nD (pv 7)<|pv 2) (aB Kf) cu)
   (aD (bj 9 k9.nd<|cW p6 (pv 3)<|pv 8)
   (aB<|cj (df<|jP (pv 0) mX t hr<|ai (pv 9) aw) (aB<|jY (pv 6)<|eE<|ai (pv 9)<|ai (cW yi (pv 4)<|eE<|ai (pv 7) aw) aw) cu))))
   (aB<|bu<|pv 6)))))),?_⟩
 have E0:ay (but H M) (L2.start ["self","way","lowest","setting","places","shared_things","found","place","pairs","further"] [.ref a,v1,.int lo]) [none,some<|cZ w0,some (.int lo),none,none,none,none,none,none,none]:=fV (.raw (.dat r1 (.dat (.int lo) .nil))) _
 obtain ⟨S,c⟩:=w0
 have hS:jn S:=hS
 have a0:S.length<=500:=a0
 have a1:c.length<=500:=a1
 have Y:jZ S.length st:=Y
 refine f7 (i:=3) lv E0 (b9 (ds:=[.lst<|pairD S,.tup<|c.map λn=>D.int (n:Nat)]) (d:=.lst<|pairD S) gZ (aG E0 rfl) aq) λei H1 o1 s1 l1 E1=>?_
 refine f7 (i:=4) l1 E1 (b9 (ds:=[.lst<|pairD S,.tup<|c.map λn=>D.int (n:Nat)]) (d:=.tup<|c.map λn=>D.int (n:Nat)) rfl (aG E1 rfl) aq) λac H2 o2 s2 l2 E2=>?_
 have a2:ac[0]?=some (some (.ref a)):=(o2 0 Z1).trans<|(o1 0 Z1).trans rfl
 have a3:ab (but H M) (but H2 M):=(s1.trans s2).but M
 obtain ⟨vS,co,rS⟩:=E2.get 3 _ rfl
 have cs:(fU st.shared).map (·.2)=(st.shared.map λp=>((p.2:Nat):Int)).map V.int:=by unfold fU;rw [Mn,Mn];rfl
 refine f7 (i:=5) (d:=.tup<|fQ S<|gz st) l2 E2 (rO<|aa (ae.eq (gm (caps:=aY [3] 1) (i:=1) (p:=λ_=>true) (f:=λd=>match d with|.int n=>(S.getD n.toNat (("":Str),.av)).2|_=>.av) (tt:=jD) (te:=bY (gf K) (bY (gf K) (aW 0)<|aW 1)<|tC (.int 1)) (Hx (li T.cl T.nS a2 (a3 _ _ ga) rfl) (a3 _ _ gs) cs) (λG' v d _ _ _=>jS) (λG' v d sG hd _ rv=>?_) (by rw [LA,LA];have:=Y.shl;exact cy Z4)) ?_) ag) λej H3 o3 s3 l3 E3=>?_
 .obtain ⟨z,ct,rfl⟩:=LS.mp hd
  obtain ⟨p,c1,rfl⟩:=LS.mp ct
  have af:=Y.sh p.2<|LS.mpr ⟨p,c1,rfl⟩
  generalize p.2=n at af rv
  have h0:((aY [3] 1 ac).set 1<|some v)[0]?=some (some vS):=by simp only [aY,Mu,Oj,co];rfl
  have h1:((aY [3] 1 ac).set 1<|some v)[1]?=some (some v):=by simp [aY]
  have hp:(pairD S)[n]?=some (.tup [.str S[n].1,S[n].2]):=by unfold pairD;rw [LO,Ly af];rfl
  have hg:S.getD n (("":Str),.av)=S[n]:=by rw [List.getD,Ly af];rfl
  refine ae.eq (b9 (ds:=[.str S[n].1,S[n].2]) (d:=S[n].2) rfl (cN (ds:=pairD S) (d:=.tup [.str S[n].1,S[n].2]) (ox (i:=(n:Int)) Z4 (by rw [NC];exact hp)) (cH h0<|rS.mono sG)<|cH h1 rv) aq) ?_
  show S[n].2=(S.getD (n:Int).toNat (("":Str),.av)).2
  rw [NC,hg]
 .show D.lst _=D.lst (fQ S<|gz st)
  rw [MG.mpr λ_ _=>rfl]
  unfold fQ eh gz
  rw [Mn,Mn,Mn,Mn]
  rfl
 have a4:=Kx hS Y.sh
 refine m4 (i:=6) l3 E3 Z8 ag (Mb _) λb c2 c3 H5 o5 i5 n5 h5 r5 l5 k5 E5=>?_
 have bc:ab H H5:=(s1.trans<|s2.trans s3).trans λb o e=>(k5 b o e).2
 have aj:H b=none:=none_of (s1.trans<|s2.trans s3) k5
 have SG:ab (but H M) (but H5 (b::M)):=ir aj bc
 have bd:c3[0]?=some (some (.ref a)):=(o5 0 Z1).trans<|(o3 0 Z1).trans a2
 generalize bi:fQ S (gz st)=m at a4 E5 q
 unfold fg at q
 rw [show fQ ((S,c):aH).1 (gz st)=m from bi] at q
 have c4:((e9 st.of m).reverse).length<=st.of.length:=by rw [Pe];exact Ml _ _
 have bk:∀o∈(e9 st.of m).reverse,o∈st.of:=λo hm=>(LP.mp<|Nh.mp hm).1
 have bl:(iq st.of m).reverse=((e9 st.of m).reverse).map λo=>mF o.2:=by unfold iq;rw [P2]
 generalize (e9 st.of m).reverse=L at q c4 bk bl
 refine gJ (M:=b::M) (ds:=L.map λo=>mF o.2) (by
  have:=Kv (K:=K) (aa (KD T.cl T.nO bd (SG _ _ ga) rfl (g2.mono SG) a4<|aG E5 (i:=5) rfl) ag)
  rw [bl] at this
  exact this) l5 λH6 s6=>?_
 refine ⟨λj k J=>∃ws,k[0]?=some (some (.ref a))/\k[6]?=some (some (.ref b))/\J b=some (.lst ws)/\aC (but J (b::M)) ws (((L.take j).map<|fI (S,c)).filter (λx=>eX x.1 st.gs)|>.map cZ)/\ab H J/\ap (b::M) J/\ab (but H6 (b::M)) (but J (b::M))/\ay (but J (b::M)) k [none,some<|cZ (S,c),some (.int lo),some (.lst<|pairD S),some (.tup<|c.map λn=>D.int (n:Nat)),some (.tup m),none,none,none,none]/\∀o∈L.take j,fresh lo o=true,
  ⟨c2,bd,i5,s6 _ _ h5,r5.mono<|s6.but _,bc.trans s6,l5.same s6,ab.refl _,E5.same s6,λo hm=>by simp at hm⟩,λj k J q3=>by obtain ⟨_,_,_,_,_,_,x,y,_,_⟩:=q3;exact ⟨y,x⟩,?_,?_⟩
 .rintro j d x k J bs hd ⟨ws,j0,j5,hb,rb,S0,l',S',E',u⟩ r rx
  obtain ⟨o,G,rfl⟩:∃o,L[j]?=some o/\d=mF o.2:=by
   rw [LO] at hd
   cases e:L[j]? with
   |none=>rw [e] at hd;cases hd
   |some y=>rw [e] at hd;exact ⟨y,rfl,(LQ hd).symm⟩
  have dc:=LD G
  have am:=Y.of o<|bk o dc
  have ek:=(Lx.mp G).1
  have ed:=Y.xB
  refine oG rx λu1 u2 q1 q2=>?_
  have E7:ay (but bs (b::M)) ((k.set 7<|some u1).set 8<|some u2) [none,some<|cZ (S,c),some (.int lo),some (.lst<|pairD S),some (.tup<|c.map λn=>D.int (n:Nat)),some (.tup m),none,some (.int (o.2.1:Nat)),some (.lst<|pairD o.2.2),none]:=((E'.same r).set 7 q1).set 8 q2
  have l7:=l'.same r
  have c0:((k.set 7<|some u1).set 8<|some u2)[0]?=some (some (.ref a)):=by rw [LB Z1,LB Z1];exact j0
  have c5:((k.set 7<|some u1).set 8<|some u2)[6]?=some (some (.ref b)):=by rw [LB Z1,LB Z1];exact j5
  have dd:pairD S++pairD o.2.2=pairD (S++o.2.2):=by unfold pairD;rw [Me]
  have bt:∀ps:aO,(pairD ps).length=ps.length:=λps=>by unfold pairD;rw [LA]
  refine im l7 E7 (cw<|nq (aG E7 rfl)<|aG E7 rfl) (λe bx I b0 N=>?_) λe bx I b0 N=>?_
  .have di:fresh lo o=false:=by
    have h1:=LW e
    unfold FL.fresh
    exact Mc Z4
   refine ⟨.ref b,c5,q (.ref b) bx (S0.trans<|r.trans I)<|mC n5 (I _ _<|r _ _ hb) ?_⟩
   rw [CQ u G di]
   exact rb.mono<|(r.trans I).but _
  refine nx ?_
  have b6:fresh lo o=true:=by
   have h1:=MB e
   unfold FL.fresh
   exact LV Z4
  have U:∀x∈L.take (j+1),fresh lo x=true:=λx hx=>by
   rw [Mm,G] at hx
   rcases LY.mp hx with z|z
   .exact u x z
   .have:x=o:=by simpa using z
    rw [this];exact b6
  refine f7 (i:=9) b0 N ((pr (by rw [bt,bt];have:=am.2.1;omega) (aG N rfl)<|aG N rfl).eq (by rw [dd])) λem H8 o8 s8 l8 E8=>?_
  have l:ab bs H8:=I.trans s8
  have d0:=(o8 0 Z1).trans c0
  have d5:=(o8 6 Z1).trans c5
  have dp:jn (S++o.2.2):=λp hp=>by
   rcases LY.mp hp with z|z
   .exact hS p z
   .exact am.1 p z
  have dt:ab (but H M) (but H8 (b::M)):=ir aj<|S0.trans<|r.trans l
  have tk:(L.take<|j+1).map (fI (S,c))=(L.take j).map (fI (S,c))++[(S++o.2.2,c++[o.2.1])]:=by
   rw [Mm,G,Me];rfl
  refine im l8 E8 (JU d0 (an.mono dt) dp (λg hg=>by rw [LR];exact am.2.2 g hg)<|aG E8 rfl) (λe H9 O l9 E9=>?_) λe H9 O l9 E9=>nx ?_
  .have d1:∀(L:List aH),((L.filter λx=>eX x.1 st.gs).map cZ).length<=L.length:=λL=>by rw [LA];exact Ml _ _
   have b7:=d1<|(L.take j).map<|fI (S,c)
   rw [LA (as:=List.take j L),Mr] at b7
   refine sF l9 E9 (a:=b) Z8 d5 (O _ _<|l _ _<|r _ _ hb) (rb.mono<|(r.trans<|l.trans O).but _) (cy<|L8 b7 Z4) (aQ<|aa (aG E9 rfl)<|aa (B9 (by simp;omega) (aG E9 rfl)<|aQ<|aa (aG E9 rfl) ag) ag) λen d2 b8 d3 d4 ea eb=>?_
   have ec:ab (but H9 (b::M)) (but d2 (b::M)):=mh Z8 b8
   refine ⟨_,d0,d5,d4,?_,mU (S0.trans<|r.trans<|l.trans O) aj b8,d3,S'.trans<|((r.trans<|l.trans O).but _).trans ec,((eb.drop 7).drop 8).drop 9,U⟩
   rw [tk,MX,Me]
   have e1:List.map cZ (List.filter (λx=>eX x.1 st.gs) [((S++o.2.2,c++[o.2.1]):aH)])=[cZ (S++o.2.2,c++[o.2.1])]:=by simp [e]
   rw [e1]
   have e2:cZ (S++o.2.2,c++[o.2.1])=.tup [.lst<|pairD<|S++o.2.2,.tup<|(c.map λn=>D.int (n:Nat))++[.int (o.2.1:Nat)]]:=by unfold cZ;rw [Me];rfl
   rw [e2]
   exact ea
  .refine ⟨ws,d0,d5,O _ _<|l _ _<|r _ _ hb,?_,S0.trans<|r.trans<|l.trans O,l9,S'.trans<|(r.trans<|l.trans O).but _,((E9.drop 7).drop 8).drop 9,U⟩
   rw [tk,MX,Me]
   have e1:List.map cZ (List.filter (λx=>eX x.1 st.gs) [((S++o.2.2,c++[o.2.1]):aH)])=[]:=by simp [e]
   rw [e1,Mi]
   exact rb.mono<|(r.trans<|l.trans O).but _
 .rintro k J ⟨ws,j0,j5,hb,rb,S0,l',S',E',u⟩
  rw [LA,Mh<|LF _] at rb u
  refine ⟨.ref b,j5,q (.ref b) J S0<|mC n5 hb ?_⟩
  rw [qh u]
  exact rb
end
end a5
namespace a5
open PySem L2 FL
section
variable {P:Program}{w:World}{K:PySem.W.Frag}{mg:Str->Option Value}{base:Heap}{f:Addr}{fd:FuncData}
def kE:bW ["body","waiting","slots","steps","asker","shared","blank","guards"] ["body"] (ba ti):=⟨rfl,rfl,rfl,Z9,rfl,Z9,Z9⟩
def D4(F:aF K "steps_for" "steps_for" ti f fd)(B:Bl mg)(L:aV P w K mg base 2 "guards_in" ["body"] (bw oQ))(N:aV P w K mg base 2 "askers_in" ["body"] (bw vz))(c:aV P w K mg base 2 "blanks_in" ["atom"] (bw oy))(U:aV P w K mg base 3 "slots_of" ["atom","slots"] (iX vG))(G:aV P w K mg base 4 "is_ready" ["guard","slots"] (iX CY))(bc:jo P w K mg base 1 C "Step" ["self","asker","shared","guards"] (yC C)):bp P w K mg base bz 6 f fd ["body"] (Aq C):=by
 refine F.ok kE (λvs H Q E q0=>by obtain ⟨_,_,_,e,_⟩:=q0;rw [e];rfl) λf2 A em s H vs Q E hr h=>?_
 obtain ⟨M,O,v0,rfl,lv,r1,hB,q⟩:=h
 have hu:=dR hr
 have bs:=fE hr
 refine ⟨_,(aD (qI (i:=1) ["guard"] [] 1 kE.nd rfl (Or.inl rfl) (cq<|bG L hr<|ai (pv 0) aw) (λ_ _ _ _ _=>(bv 0<|ky _)) (λ_ _ _ _ _=>(iH<|yw (kA c hr<|ai (pv 0) aw) λ_=>rfl)) λ_ _ _ _ _=>(pv 0))
   (aD (bj 2 kE.nd ux)
   (aD (bj 3 kE.nd<|dy aw)
   (aD (de L9 rfl (cq<|bG N hr<|ai (pv 0) aw) (bv 4 kE.nd) (aD (bj 5 kE.nd<|J5<|vR B<|fM ["slots","blank"] [2] 1 (cq<|bG c hr<|ai (pv 4) aw) (λ_ _ _ _ _=>(bv 1 (show (["slots","blank"]:ZY).Nodup from by decide+kernel))) (λ_ _ _ _ _=>(iH<|jV<|qc (by exact bs) (pv 1)<|pv 0)) λ_ _ _ _ _=>(eE<|ai (pv 1)<|ai (p8 (by exact bs) (pv 0) (pv 1) λ_ _=>rfl) aw))
   (aD (de L9 rfl (cq<|bG c hr<|ai (pv 4) aw) (bv 6 kE.nd)<|aB<|jv<|yp bs (pv 2) (pv 6) (vx B<|pv 2) ⟨rfl,rfl,rfl,rfl⟩)
   (aD (qI (i:=7) ["slots","guard"] [2] 1 kE.nd rfl (Or.inl rfl) (cq<|pv 1) (λ_ _ _ _ _=>(bv 1 (show (["slots","guard"]:ZY).Nodup from by decide+kernel))) (λ_ _ _ _ _=>(iH<|df<|kA G hr<|ai (pv 1)<|ai (pv 0) aw)) λ_ _ _ _ _=>(eE<|ai (pv 1)<|ai (kA U hr<|ai (pv 1)<|ai (pv 0) aw) aw))
   (aD (qI (i:=1) ["slots","guard"] [2] 1 kE.nd rfl (Or.inl rfl) (cq<|pv 1) (λ_ _ _ _ _=>(bv 1 (show (["slots","guard"]:ZY).Nodup from by decide+kernel))) (λ_ _ _ _ _=>(iH<|eF<|df<|kA G hr<|ai (pv 1)<|ai (pv 0) aw)) λ_ _ _ _ _=>(pv 1))
   (aB<|jY (pv 3)<|wf bc hr<|ai (pv 4)<|ai (pv 5)<|ai (pv 7) aw))))))
   (aB<|bu<|pv 3))))),?_⟩
 have E0:ay (but H M) (L2.start ["body","waiting","slots","steps","asker","shared","blank","guards"] [v0]) [some<|cf O,none,none,none,none,none,none,none]:=fV (.dat r1 .nil) _
 have en:(O.filter aE).length<=100:=L8 (Ml _ _) hB.2
 refine f7 (i:=1) (d:=dg<|(O.filter aE).filter c9) lv E0 (ae.eq (gm (caps:=aY [] 1) (i:=0) (p:=rR c9) (f:=λd=>d) (dG (ds:=(O.filter aE).map D.tup)<|bN ⟨O,rfl,hB.1,hB.2,rfl⟩<|aa (aG E0 rfl) ag) (λG' v d sG J r=>?_) (λG' v d sG J _ r=>cH (by simp [aY]) r) (by rw [LA];exact cy Z4)) ?_) λf3 H1 o1 s1 l1 E1=>?_
 .obtain ⟨g,hg,rfl⟩:=LS.mp J
  exact AT<|bN (d:=fX<|ak [] g) ⟨g,rfl,hB.1 g (LP.mp hg).1,rfl⟩<|aa (cH (by simp [aY]) r) ag
 .exact MA D.lst<|ul _ c9 _ D.tup _ (λ_ _=>rfl) λ_ _=>rfl
 refine uG (i:=2) l1 E1 Z8 λp f4 H2 o2 i2 n2 h2 l2 k2 E2=>?_
 refine m4 (i:=3) l2 E2 Z8 ag (Mb _) λb ep er H3 o3 i3 n3 h3 r3 l3 k3 E3=>?_
 have es:er[2]?=some (some (.ref p)):=(o3 2 Z1).trans i2
 obtain ⟨a0,et⟩:=k3 _ _ h2
 have co:ep=[]:=by cases r3;rfl
 subst co
 have cs:ab H1 H2:=λx o e=>(k2 x o e).2
 have eu:ab H2 H3:=λx o e=>(k3 x o e).2
 have ev:ab H H3:=s1.trans<|cs.trans eu
 have ew:H p=none:=none_of s1 k2
 have ct:H b=none:=none_of (s1.trans cs) k3
 have ex:b∉M:=λz=>n3<|Lv _ z
 have ey:(O.filter λa=> !aE a).length<=100:=L8 (Ml _ _) hB.2
 have c0:∀a∈(O.filter λa=> !aE a),dz a:=λa ha=>hB.1 a (LP.mp ha).1
 refine gJ (M:=b::p::M) (ds:=(O.filter λa=> !aE a).map D.tup) (dG<|bN ⟨O,rfl,hB.1,hB.2,rfl⟩<|aa (aG E3 rfl) ag) l3 λH4 s4=>?_
 unfold eJ at q
 generalize fv:(O.filter λa=> !aE a)=ac at q ey c0
 have c1:∀g∈(O.filter aE).filter c9,dz g:=λg hg=>hB.1 g (LP.mp (LP.mp hg).1).1
 have c2:((O.filter aE).filter c9).length<=100:=L8 (Ml _ _) en
 generalize (O.filter aE).filter c9=W0 at q c1 c2 E3
 refine ⟨λj t T=>∃m Wj done us am,cL ac [] W0=done++cL (ac.drop j) m Wj/\m.length<=100*j/\done.length<=j/\(∀g∈Wj,dz g)/\Wj.length<=100/\t[2]?=some (some (.ref p))/\t[3]?=some (some (.ref b))/\T p=some (.dK<|dS m)/\T b=some (.lst us)/\gF C (but T (b::p::M)) us am done/\(∀os∈am,∀x∈os,H x=none)/\ab H T/\ap (b::p::M) T/\ab (but H4 (b::p::M)) (but T (b::p::M))/\ay (but T (b::p::M)) t [some<|cf O,some<|dg Wj,none,none,none,none,none,none],
  ⟨[],W0,[],[],[],rfl,LF _,LF _,c1,c2,es,i3,s4 _ _ et,s4 _ _ h3,.nil,(λos ho=>nomatch ho),ev.trans s4,l3.same s4,ab.refl _,E3.same s4⟩,λj t T q1=>by obtain ⟨_,_,_,_,_,_,_,_,_,_,_,_,_,_,_,_,_,x,y,_⟩:=q1;exact ⟨y,x⟩,?_,?_⟩
 .rintro j d x t T bt J ⟨m,Wj,done,us,am,I,ez,e0,a1,bi,j3,j4,hp,hb,a2,a3,S0,l',S',E'⟩ s5 rx
  obtain ⟨a,c3,rfl⟩:∃a,ac[j]?=some a/\d=.tup a:=by
   rw [LO] at J
   cases e:ac[j]? with
   |none=>rw [e] at J;cases J
   |some y=>rw [e] at J;exact ⟨y,rfl,(LQ J).symm⟩
  have bx:=c0 a<|LD c3
  obtain ⟨e1,e2⟩:=Lx.mp c3
  rw [Nx e1,e2] at I
  have E5:ay (but bt (b::p::M)) (t.set 4<|some x) [some<|cf O,some<|dg Wj,none,none,some (.tup a),none,none,none]:=(E'.same s5).set 4 rx
  have b3:(t.set 4<|some x)[2]?=some (some (.ref p)):=(LB Z1).trans j3
  have b4:(t.set 4<|some x)[3]?=some (some (.ref b)):=(LB Z1).trans j4
  have c4:=s5 _ _ hp
  have l5:=l'.same s5
  have lV:∀{X:Hp},ap (b::p::M) X->ap (b::M) X:=λl z hz=>l z (by
   rcases LK.mp hz with w|w
   .rw [w];exact Lz
   .exact Lv _<|Lv _ w)
  have pV:p∉b::M:=λz=>by
   rcases LK.mp z with z|z
   .exact a0 z
   .exact n2 z
  have c5:(ak [] a).Nodup:=zV NQ
  have e3:=jT a []
  rw [NI] at e3
  have f0:=bx.len
  have dc:but bt (b::M) p=some (.dK<|dS m):=by rw [bh pV];exact c4
  refine EE (i:=5) (M:=b::M) (ps:=((ak [] a).filter λb=>decide<|b∈m).map λb=>(b,D.int (m.idxOf b:Nat))) (lV l5) (E5.mono xD) Z8 (ae.eq (gm (caps:=aY [2] 1) (i:=1) (p:=λd=>decide<|d.name∈m) (f:=λd=>.tup [d,.int (m.idxOf d.name:Nat)]) (dG (ds:=(ak [] a).map D.str)<|bN ⟨a,rfl,bx,rfl⟩<|aa (aG (E5.mono xD) rfl) ag) (λG' v d sG J r=>?_) (λG' v d sG J e4 r=>?_) (by rw [LA];exact cy Z4)) ?_) (λz hz=>?_) ?_ λsa oS b0 H7 o7 i7 n7 m7 h7 s7 f5 E7=>?_
  .obtain ⟨n,hn,rfl⟩:=LS.mp J
   exact z9 (n:=n) (a:=p) (by simp [aY,b3]) (sG _ _ dc)<|cH (by simp [aY]) r
  .obtain ⟨n,hn,rfl⟩:=LS.mp J
   exact aQ<|aa (cH (by simp [aY]) r)<|aa (y8 (n:=n) (a:=p) (by simp [aY,b3]) (sG _ _ dc) (LW e4)<|cH (by simp [aY]) r) ag
  .unfold pairD
   rw [Nl,Mn,Mn]
   rfl
  .obtain ⟨n,hn,rfl⟩:=LS.mp hz
   rfl
  .rw [Mn]
   show (List.map (λb=>b) _).Nodup
   rw [Ol]
   exact Qm _ c5
  have e5:bL (((ak [] a).filter λb=>decide<|b∈m).map λb=>(b,D.int (m.idxOf b:Nat)))=fU (jm a m):=by
   unfold bL fU jm
   rw [Mn,Mn]
   rfl
  rw [e5] at h7
  have d3:b0[2]?=some (some (.ref p)):=(o7 2 Z1).trans b3
  have d4:b0[3]?=some (some (.ref b)):=(o7 3 Z1).trans b4
  have b6:=s7 _ _ c4
  have l7:ap (b::p::M) H7:=l5.same s7
  have dd:ay (but H7 (b::p::M)) b0 [some<|cf O,some<|dg Wj,none,none,some (.tup a),none,none,none]:=AL E7 b6
  have bk:sa≠p:=λz=>by rw [z,b6] at h7;cases h7
  have di:sa≠b:=λz=>m7 (by rw [z];exact Lz)
  have dp:sa∉M:=λz=>m7<|Lv _ z
  refine gJ (M:=b::p::M) (ds:=(ak [] a).map D.str) (dG<|bN ⟨a,rfl,bx,rfl⟩<|aa (aG dd rfl) ag) l7 λH8 s8=>?_
  refine ⟨λk t T=>t[2]?=some (some (.ref p))/\t[3]?=some (some (.ref b))/\t[5]?=some (some (.ref sa))/\T p=some (.dK<|dS<|m++((ak [] a).take k).filter λx=> !decide (x∈m))/\(∀z o,z≠p->H8 z=some o->T z=some o)/\ap (b::p::M) T/\ab (but H8 (b::p::M)) (but T (b::p::M))/\ay (but T (b::p::M)) t [some<|cf O,some<|dg Wj,none,none,some (.tup a),none,none,none],
   ⟨d3,d4,i7,by rw [Qn,List.filter_nil,Mi];exact s8 _ _ b6,λz o _ e=>e,l7.same s8,ab.refl _,dd.same s8⟩,λk t T q2=>by obtain ⟨_,_,_,_,_,x,y,_⟩:=q2;exact ⟨y,x⟩,?_,?_⟩
  .rintro k d y τ X X' J ⟨t3,t4,t7,tp,tk,tl,tS,tE⟩ s9 ry
   obtain ⟨n,e6,rfl⟩:∃n,(ak [] a)[k]?=some n/\d=.str n:=by
    rw [LO] at J
    cases e:(ak [] a)[k]? with
    |none=>rw [e] at J;cases J
    |some y=>rw [e] at J;exact ⟨y,rfl,(LQ J).symm⟩
   have E9:ay (but X' (b::p::M)) (τ.set 6<|some y) [some<|cf O,some<|dg Wj,none,none,some (.tup a),none,some (.str n),none]:=(tE.same s9).set 6 ry
   have w3:(τ.set 6<|some y)[2]?=some (some (.ref p)):=(LB Z1).trans t3
   refine DY (n:=n) (tl.same s9) E9 Z8 w3 (s9 _ _ tp) ?_ (aG E9 rfl) λY kY lY hY EY=>?_
   .have h1:(m++((ak [] a).take k).filter λx=> !decide (x∈m)).length<=100*j+100:=by
     rw [LR]
     have:=Ml (λx=> !decide (x∈m))<|(ak [] a).take k
     rw [Mr] at this
     omega
    exact N3 (L8 h1 (show 100*j+100<=20000 by omega)) (show 20000<sizeLine by decide)
   .have SY:ab (but X' (b::p::M)) (but Y (b::p::M)):=mh Z8 kY
    refine ⟨w3,(LB Z1).trans t4,(LB Z1).trans t7,?_,λz o hz e=>kY z o hz<|s9 _ _<|tk z o hz e,lY,tS.trans<|(s9.but _).trans SY,EY.drop 6⟩
    rw [<-FV c5 e6]
    exact hY
  .rintro τ X ⟨t3,t4,t7,tp,tk,tl,tS,tE⟩
   rw [LA,Mh<|LF _,<-mT] at tp
   have b7:but X (b::M) p=some (.dK<|dS<|ak m a):=by rw [bh pV];exact tp
   have dt:(ak m a).length<=100*(j+1):=by have:=jT a m;omega
   have EV:=tE.mono<|xD (p:=p)
   refine f7 (i:=7) (M:=b::M) (d:=.lst<|((Wj.filter λg=>cp g<|ak m a).map λg=>(g,cX g<|ak m a)).map kK) (lV tl) EV (ae.eq (gm (caps:=aY [2] 1) (i:=1) (p:=rR λg=>cp g<|ak m a) (f:=xV λg=>kK (g,cX g<|ak m a)) (dG (ds:=Wj.map D.tup)<|aG EV rfl) (λG' v d sG J r=>?_) (λG' v d sG J _ r=>?_) (by rw [LA];exact cy Z4)) ?_) λga H9 o9 s9 l9 E9=>?_
   .obtain ⟨g,hg,rfl⟩:=LS.mp J
    exact dh<|qk (d:=.bl<|cp g<|ak m a) ⟨g,_,rfl,a1 g hg,rfl⟩<|px (cH (by simp [aY]) r)<|oU (a:=p) (by simp [aY,t3]) (sG _ _ b7) oK
   .obtain ⟨g,hg,rfl⟩:=LS.mp J
    exact aQ<|aa (cH (by simp [aY]) r)<|aa (qk ⟨g,_,rfl,a1 g hg,rfl⟩<|px (cH (by simp [aY]) r)<|oU (a:=p) (by simp [aY,t3]) (sG _ _ b7) oK) ag
   .rw [ul _ (λg=>cp g<|ak m a) _ (λg=>kK (g,cX g<|ak m a)) _ (λ_ _=>rfl) λ_ _=>rfl,Mn]
    rfl
   have d0:=(s9.but (b::M)) _ _ b7
   have w3:=(o9 2 Z1).trans t3
   refine f7 (i:=1) (M:=b::M) (d:=dg<|Wj.filter λg=> !cp g (ak m a)) l9 E9 (ae.eq (gm (caps:=aY [2] 1) (i:=1) (p:=rR λg=> !cp g (ak m a)) (f:=λd=>d) (dG (ds:=Wj.map D.tup)<|aG E9 rfl) (λG' v d sG J r=>?_) (λG' v d sG J _ r=>cH (by simp [aY]) r) (by rw [LA];exact cy Z4)) ?_) λd1 Ha oa e7 la Ea=>?_
   .obtain ⟨g,hg,rfl⟩:=LS.mp J
    exact eB<|dh<|qk (d:=.bl<|cp g<|ak m a) ⟨g,_,rfl,a1 g hg,rfl⟩<|px (cH (by simp [aY]) r)<|oU (a:=p) (by simp [aY,w3]) (sG _ _ d0) oK
   .exact MA D.lst<|ul _ (λg=> !cp g (ak m a)) _ D.tup _ (λ_ _=>rfl) λ_ _=>rfl
   have z3:=(oa 2 Z1).trans w3
   have z4:d1[3]?=some (some (.ref b)):=(oa 3 Z1).trans<|(o9 3 Z1).trans t4
   have z5:d1[5]?=some (some (.ref sa)):=(oa 5 Z1).trans<|(o9 5 Z1).trans t7
   have an:=s9.trans e7
   have d2:=an _ _ tp
   have b8:=AL Ea d2
   have e8:ab (but H8 (b::p::M)) (but Ha (b::p::M)):=tS.trans<|an.but _
   have cd:ab (but bt (b::p::M)) (but Ha (b::p::M)):=(((s7.trans s8).but _)).trans e8
   have d5:Ha b=some (.lst us):=an _ _<|tk b _ (MC a0)<|s8 _ _<|s7 _ _<|s5 _ _ hb
   have ea:Ha sa=some (.cO oS (.dK<|fU<|jm a m)):=an _ _<|tk sa _ bk<|s8 _ _ h7
   obtain ⟨u4,fa,q4⟩:=b8.get 4 _ rfl
   obtain ⟨u7,fl,q7⟩:=b8.get 7 _ rfl
   have ch:ap (b::p::M) Ha:=tl.same an
   have ec:∀z o,H z=some o->Ha z=some o:=λz o e=>by
    have fn:z≠p:=da e ew
    exact an _ _<|tk z o fn<|s8 _ _<|s7 _ _<|s5 _ _<|S0 _ _ e
   have af:∀{z:Addr},Ha z=none->H z=none:=λ{z} e=>by
    cases qz:H z with
    |none=>rfl
    |some u=>rw [ec _ _ qz] at e;cases e
   refine ⟨.ref b,z4,(show gX K "list" (.ref b) _ from .inl ⟨rfl,us,aP.of d5⟩),u4,fa,.ref sa,z5,u7,fl,λx dx hx ed gb=>⟨x,dx,u4,.ref sa,u7,rfl,aR,λpo a4 cl=>⟨rfl,?_⟩⟩⟩
   have aj:Ha po=none:=by
    rw [aA cl] at a4
    by_cases e:po=dx
    .rw [e];exact ed
    .rw [aA e] at a4;exact a4
   have f1:po≠dx:=λe=>by rw [aA cl,e,aR] at a4;cases a4
   have SX:ab Ha (upd (upd (upd (upd Ha dx (.own x)) x (.ins C dx [])) po (.dT [])) x (.ins C dx<|jc u4 sa u7 po (-1))):=λz o e=>by
    rw [aA<|da e hx,aA<|da e aj,aA<|da e hx,aA<|da e ed];exact e
   refine ⟨b,us,.ref x,rfl,rfl,SX _ _ d5,by rw [a2.l1];exact cy Z4,?_⟩
   generalize eg:upd (upd (upd (upd Ha dx (.own x)) x (.ins C dx [])) po (.dT [])) x (.ins C dx<|jc u4 sa u7 po (-1))=HX at SX
   have fp:HX x=some (.ins C dx<|jc u4 sa u7 po (-1)):=by rw [<-eg];exact aR
   have ei:HX po=some (.dT []):=by rw [<-eg,aA cl];exact aR
   have eb:but (upd HX b (.lst<|us++[.ref x])) (b::p::M)=but HX (b::p::M):=dD Lz
   have ao:ab (but Ha (b::p::M)) (but (upd HX b (.lst<|us++[.ref x])) (b::p::M)):=by rw [eb];exact SX.but _
   have fr:x∉b::p::M:=ch.fresh hx
   have ej:po∉b::p::M:=ch.fresh aj
   have fs:sa∉b::p::M:=by
    simp only [LK,Qx]
    exact ⟨di,bk,dp⟩
   refine ⟨ak m a,Wj.filter λg=> !cp g (ak m a),done++[og a m Wj],us++[.ref x],am++[[x,po]],?_,dt,by rw [LR,MQ];omega,λg hg=>a1 g (LP.mp hg).1,L8 (Ml _ _) bi,z3,z4,?_,aR,?_,?_,?_,(ch.same SX).upd,S'.trans<|(s5.but _).trans<|cd.trans ao,?_⟩
   .rw [I]
    show done++(_::_)=_
    rw [Mw]
    rfl
   .rw [aA a0];exact SX _ _ d2
   .have ek:=(a2.mono<|(s5.but _).trans<|cd.trans ao)
    refine ek.snoc ⟨x,dx,u4,sa,u7,po,oS,rfl,rfl,?_,q4.mono ao,?_,q7.mono ao,?_,rfl⟩ λo ho z hz ft=>?_
    .rw [eb,bh fr];exact fp
    .refine ao _ _ ?_
     rw [bh fs];exact ea
    .rw [eb,bh ej];exact ei
    .obtain ⟨i,hi⟩:=Mt.mp ho
     obtain ⟨u,hu,_⟩:=a2.seen hi z hz
     obtain ⟨_,bd⟩:=ax<|(s5.but _|>.trans cd) _ _ hu
     rcases LK.mp ft with e|e
     .rw [e,hx] at bd;cases bd
     .have e:z=po:=by simpa using e
      rw [e,aj] at bd;cases bd
   .intro os ho z hz
    rcases LY.mp ho with e|e
    .exact a3 os e z hz
    .have e:os=[x,po]:=by simpa using e
     rw [e] at hz
     rcases LK.mp hz with e|e
     .rw [e];exact af hx
     .have e:z=po:=by simpa using e
      rw [e];exact af aj
   .refine mU (a:=b) (λz o e=>?_) ct (λz o hz e=>by rw [aA hz];exact e)
    exact SX _ _<|ec z o e
   .exact (((b8.mono ao).drop 4).drop 7)
 .rintro t T ⟨m,Wj,done,us,am,I,ez,e0,a1,bi,j3,j4,hp,hb,a2,a3,S0,l',S',E'⟩
  rw [LA,OP<|LF _] at I
  have I:cL ac [] W0=done++[]:=I
  rw [Mi] at I
  rw [I] at q
  refine ⟨.ref b,j4,q b us am T S0 (by rw [bh ex];exact hb) (a2.mono<|dU λz hz=>Lv _<|Lv _ hz) a3 ct⟩
end
end a5
namespace a5
open PySem L2 FL
section
variable {P:Program}{w:World}{K:PySem.W.Frag}{mg:Str->Option Value}{base:Heap}{f:Addr}{fd:FuncData}
def Dz:bW ["self","body"] ["self","body"] (ba mN):=⟨rfl,rfl,rfl,Z9,rfl,Z9,Z9⟩
def Jx(F:aF K "__init__" "Loom.__init__" mN f fd)(I:kO K CL)(B:Bl mg)(c:aV P w K mg base 2 "guards_in" ["body"] (bw oQ))(j:aV P w K mg base 2 "blanks_in" ["atom"] (bw oy))(t:aV P w K mg base 1 "holds" ["guard"] (bw sP))(k:aV P w K mg base 6 "steps_for" ["body"] (Aq C)):bp P w K mg base bz 7 f fd ["self","body"] (vD C CL):=by
 refine F.ok Dz (λvs H Q E q0=>by obtain ⟨_,_,_,_,_,e,_⟩:=q0;rw [e];rfl) λbi A a2 s H vs Q E hr h=>?_
 obtain ⟨M,m,x,n,T,rfl,hx,lv,r1,U,hG,q⟩:=h
 refine ⟨_,(aD (fL (pv 0) (bG k hr<|ai (pv 1) aw) rfl)
   (aD (fL (pv 0) (z7<|xS B<|fM ["guard"] [] 1 (cq<|bG c hr<|ai (pv 1) aw) (λ_ _ _ _ _=>(bv 0<|ky _)) (λ_ _ _ _ _=>(iH<|eF<|yw (kA j hr<|ai (pv 0) aw) λ_=>rfl)) λ_ _ _ _ _=>(kA t hr<|ai (pv 0) aw)) rfl)
   (aD (fL (pv 0) aM rfl)
   (aD (fL (pv 0) aM rfl)
   (aB<|fL (pv 0) (iQ iM aM) rfl))))),?_⟩
 have lx:ap (x::M) H:=lv.cons hx
 have Y:al (but H (x::M)) T (cf m):=al.eW hx rfl r1
 have E0:ay (but H (x::M)) (L2.start ["self","body"] [.ref x,T]) [none,some<|cf m]:=fV (.raw (.dat Y .nil)) _
 have bk:(m.filter aE).length<=100:=L8 (Ml _ _) U.2
 have ac:∀g∈m.filter aE,dz g/\∃r a b,g=[.str r,a,b]:=λg L=>⟨U.1 g (LP.mp L).1,hG g (LP.mp L).1 (LP.mp L).2⟩
 refine ⟨T,rfl,x::M,m,T,rfl,lx,Y,U,λp us af H1 s1 hp aj a3 bt=>?_⟩
 have a4:=s1 _ _ hx
 refine ⟨.ref x,rfl,x,CL,n,[],rfl,a4,I.cl,I.nS,by decide,?_⟩
 generalize J:upd H1 x (.ins CL n<|cV "steps" (.ref p) [])=H2
 have bc:H2 x=some (.ins CL n [("steps",.ref p)]):=by rw [<-J];exact aR
 have am:but H2 (x::M)=but H1 (x::M):=by rw [<-J];exact dD Lz
 have l2:ap (x::M) H2:=by rw [<-J];exact (lx.same s1).upd
 have E2:ay (but H2 (x::M)) (L2.start ["self","body"] [.ref x,T]) [none,some<|cf m]:=by rw [am];exact E0.same s1
 have K2:∀b u,b≠x->H b=some u->H2 b=some u:=λb u hb e=>by rw [<-J,aA hb];exact s1 _ _ e
 refine xI<|CZ (BR<|yu (bs:=((m.filter aE).filter λg=> !c9 g).map holdsA)<|aa (ae.eq (gm (caps:=aY [] 1) (i:=0) (p:=rR λg=> !c9 g) (f:=xV λg=>.bl<|holdsA g) (dG (ds:=(m.filter aE).map D.tup)<|bN (R:=oQ) (E:=L2.E0) ⟨m,rfl,U.1,U.2,rfl⟩<|aa (aG E2 (i:=1) rfl) ag) (λG' v d sG hd r=>?_) (λG' v d sG hd _ r=>?_) (by rw [LA];exact cy Z4)) ?_) ag) l2 λv3 H3 s3 r3=>?_
 .obtain ⟨g,L,rfl⟩:=LS.mp hd
  exact eB<|AT<|bN (d:=fX<|ak [] g) ⟨g,rfl,(ac g L).1,rfl⟩<|aa (cH (by simp [aY]) r) ag
 .obtain ⟨g,L,rfl⟩:=LS.mp hd
  obtain ⟨an,r0,a0,b0,rfl⟩:=ac g L
  exact bN ⟨r0,a0,b0,rfl,(an.sc a0 Z8).1,(an.sc b0 Z8).1,rfl⟩<|aa (cH (by simp [aY]) r) ag
 .rw [ul _ (λg=> !c9 g) _ (λg=>.bl<|holdsA g) _ (λ_ _=>rfl) λ_ _=>rfl,Mn]
  rfl
 have e3:v3=.bl (lD m):=by
  have:=r3.jA
  rw [this,Pk]
  rfl
 subst e3
 refine ⟨.ref x,rfl,x,CL,n,_,rfl,s3 _ _ bc,I.cl,I.nB,(show 1<1000 by decide),?_⟩
 refine ⟨.ref x,rfl,x,CL,n,_,rfl,aR,I.cl,I.nT,(show 2<1000 by decide),?_⟩
 refine ⟨.ref x,rfl,x,CL,n,_,rfl,aR,I.cl,I.nF,(show 3<1000 by decide),?_⟩
 refine ⟨1,rfl,.ref x,rfl,x,CL,n,_,rfl,aR,I.cl,I.nL,(show 4<1000 by decide),?_⟩
 rw [lE,lE,lE]
 have bd:but (upd H3 x (.ins CL n<|iT p (lD m) 0 0 (-1))) (x::M)=but H3 (x::M):=dD Lz
 have ao:ab (but H1 (x::M)) (but (upd H3 x (.ins CL n<|iT p (lD m) 0 0 (-1))) (x::M)):=by
  rw [bd,<-am];exact s3.but _
 have l:=aj.mono ao
 have a1:=l.own
 have G:∀os∈af,∀y∈os,∃o,upd H3 x (.ins CL n<|iT p (lD m) 0 0 (-1)) y=some o/\y∉x::M:=λos N y hy=>by
  obtain ⟨i,hi⟩:=Mt.mp N
  obtain ⟨o,h1,_⟩:=l.seen hi y hy
  obtain ⟨q1,q2⟩:=ax h1
  exact ⟨o,q2,q1⟩
 refine q af (upd H3 x (.ins CL n<|iT p (lD m) 0 0 (-1))) (λb u hb e=>by rw [aA hb];exact s3 _ _<|K2 b u hb e) a3 (λy hy=>?_) ⟨n,p,us,aR,?_,a1,LH _ Lz,λos N z=>(G os N x z).choose_spec.2 Lz⟩
 .rcases LY.mp hy with z|z
  .obtain ⟨os,N,O⟩:=Mv.mp z
   obtain ⟨o,h1,_⟩:=G os N y O
   rw [h1];exact λz=>nomatch z
  .exact (l2.same s3).upd y z
 .obtain ⟨q1,q2⟩:=ax (ao _ _ hp)
  rw [bh]
  .exact q2
  .intro z
   rcases LY.mp z with z|z
   .obtain ⟨os,N,O⟩:=Mv.mp z
    obtain ⟨i,hi⟩:=Mt.mp N
    obtain ⟨o,h1,h2⟩:=l.seen hi p O
    rw [(ax h1).2] at q2
    cases q2
    cases h2
   .exact q1 z
def sf:bW ["self","facts","step","place","fact"] ["self","facts"] (ba mr):=⟨rfl,rfl,rfl,Z9,rfl,Z9,Z9⟩
def IE(F:aF K "take_in" "Loom.take_in" mr f fd)(T:lG K C)(TL:kO K CL)(B:Bl mg)(b8:mg "max"=none)(a3:ee P w K mg base 3 C "offer" ["self","place","fact"] (yY C)):bp P w K mg base bz 4 f fd ["self","facts"] (AJ C CL):=by
 refine F.ok sf (λvs H Q E q0=>by obtain ⟨_,_,_,_,_,_,e,_⟩:=q0;rw [e];rfl) λfp A et s H vs Q E hr h=>?_
 obtain ⟨Z,an,k,c,a,v1,rfl,lv,hL,r1,hF,hS,fr,hz,q⟩:=h
 have mX:=T.cl
 refine ⟨_,(aD (fL (pv 0) (dC (pv 0) rfl) rfl)
   (aD (fL (pv 0) (cW ju (dC (pv 0) rfl)<|cY B<|pv 1) rfl)
   (aD (de L9 rfl (cq<|dC (pv 0) rfl) (bv 2 sf.nd)<|aB<|de L9 rfl (Jv B.enumerate (pv 1)<|dC (pv 0) rfl) (mZ rfl<|fj (bv 3 sf.nd)<|fj (bv 4 sf.nd) kn)<|aB<|jv<|jP (pv 2) mX a3 hr<|ai (pv 3)<|ai (pv 4) aw)
   (aB<|fL (pv 0) (yb b8 (fM ["self","n","step"] [0] 2 (z6 B.enumerate<|ai (dC (pv 0) rfl) aw) (λ_ _ _ _ _=>(vO (n:=2) rfl<|fj (bv 1 (show (["self","n","step"]:ZY).Nodup from by decide+kernel))<|fj (bv 2 (show (["self","n","step"]:ZY).Nodup from by decide+kernel)) kn)) (λ_ _ _ _ _=>(iH<|cA CT (qg (pv 2) rfl)<|qg (pv 0) rfl)) λ_ _ _ _ _=>(pv 1))<|iQ iM aM) rfl)))),?_⟩
 obtain ⟨dx,sl,us,ha,di,cd,aZ,ch⟩:=hL
 have dp:∀os∈an,∀x∈os,x∈Z:=λos L x J=>by
  obtain ⟨i,hi⟩:=Mt.mp L
  have a1:=(Lx.mp hi).1
  have ds:=cd.l2
  have co:i<k.steps.length:=by omega
  obtain ⟨_,o2,_,h2,_,h4⟩:=cd.get i k.steps[i]<|Ly co
  rw [hi] at h2
  cases h2
  exact h4 x J
 refine ⟨.ref a,rfl,a,CL,dx,_,.int k.taken,rfl,ha,TL.cl,TL.nT,rfl,.ref a,rfl,a,CL,dx,_,rfl,ha,TL.cl,TL.nF,(show 5<1000 by decide),?_⟩
 obtain ⟨af,vf,e1,hf,rf⟩:=r1.d7
 subst e1
 have eu:af≠a:=λz=>(ax hf).1 (by rw [z];exact aZ)
 refine ⟨.ref a,rfl,a,CL,dx,_,.int k.taken,rfl,aR,TL.cl,TL.nF,rfl,.ref af,rfl,af,vf,rfl,.inl<|aP.of (by rw [aA eu];exact (ax hf).2),_,_,rfl,rfl,.ref a,rfl,a,CL,dx,_,rfl,aR,TL.cl,TL.nT,(show 5<1000 by decide),?_⟩
 rw [lE]
 have ev:vf.length=c.length:=by rw [rf.length,LA]
 rw [ev]
 generalize bl:upd H a _=H2
 have dt:H2 a=some (.ins CL dx<|iT sl k.fB ((k.taken:Nat)+(c.length:Nat)) (k.taken:Nat) k.last):=by rw [<-bl];exact aR
 have cs:but H2 Z=but H Z:=by rw [<-bl];exact dD aZ
 have l2:ap Z H2:=by rw [<-bl];exact lv.upd
 have K2:∀b u,b≠a->H b=some u->H2 b=some u:=λb u hb e=>by rw [<-bl,aA hb];exact e
 have as:d6 C H2 Z us an k.steps:=cd.frame (λx J=>J) (λb u q4 e=>by obtain ⟨os,L,hb⟩:=q4;exact K2 b u (λz=>ch os L (by rw [<-z];exact hb)) e) (by rw [cs];exact ab.refl _)
 have N2:∀{x:Addr},H2 x=none->H x=none:=λ{x} e=>by
  cases qx:H x with
  |none=>rfl
  |some u=>
   by_cases z:x=a
   .rw [z,dt] at e;cases e
   .rw [K2 x u z qx] at e;cases e
 have ew:al (but H2 Z) (.ref af) (.lst<|c.map D.tup):=by rw [cs];exact r1
 have d1:but H2 Z sl=some (.lst us):=by rw [cs];exact di
 obtain ⟨Zr,bs,ex⟩:∃Zr:ZX,(∀x,x∈a::Zr↔x∈Z)/\a∉Zr:=⟨Z.filter λy=>decide<|y≠a,λx=>by
  by_cases e:x=a
  .simp [e,aZ]
  .simp [e],by simp⟩
 have G1:ab (but H2 Z) (but H2 Zr):=dU λx J=>(bs x).mp<|Lv _ J
 have lr:ap Zr H2:=λx J=>l2 x<|(bs x).mp<|Lv _ J
 have ga:but H2 Zr a=some (.ins CL dx<|iT sl k.fB ((k.taken:Nat)+(c.length:Nat)) (k.taken:Nat) k.last):=by rw [bh ex];exact dt
 have d5:but H2 Zr sl=some (.lst us):=G1 _ _ d1
 have ey:al (but H2 Zr) (.ref af) (.lst<|c.map D.tup):=ew.mono G1
 have N:∀os∈an,∀x∈os,x∈Zr:=λos L x J=>by
  have:=(bs x).mpr<|dp os L x J
  rcases LK.mp this with z|z
  .exact absurd (by rw [<-z];exact J)<|ch os L
  .exact z
 have bx:d6 C H2 Zr us an k.steps:=⟨as.l1,as.l2,λj s qs=>by
  obtain ⟨a',os,h1,h2,h3,h4⟩:=as.get j s qs
  have L:=LD h2
  exact ⟨a',os,h1,h2,h3.frame h4 (N os L) (λb u _ e=>e) G1,N os L⟩,as.apart⟩
 have E2:ay (but H2 Zr) (L2.start ["self","facts","step","place","fact"] [.ref a,.ref af]) [none,some (.lst<|c.map D.tup),none,none,none]:=fV (.raw (.dat ey .nil)) _
 have ct:=bx.l1
 refine sC (M:=Zr) (vL (li TL.cl TL.nS rfl ga rfl) d5) lr λH3 s3=>?_
 have c1:=bx.mono s3
 have ea:=(s3.but Zr) _ _ ga
 have eb:=(s3.but Zr) _ _ d5
 have E3:=E2.same s3
 let O:Nat->Nat->List be:=λj i=>(k.steps.zipIdx).map λp=>if p.2<j then ca p.1 k.taken c else if p.2=j then ca p.1 k.taken (c.take i) else p.1
 have l:∀j i m s,k.steps[m]?=some s->(O j i)[m]?=some (if m<j then ca s k.taken c else if m=j then ca s k.taken (c.take i) else s):=λj i m s e=>by
  show ((k.steps.zipIdx).map _)[m]?=_
  rw [LO,Ql,e]
  simp
 have r:∀j i,(O j i).length=k.steps.length:=λj i=>by simp [O]
 clear_value O
 have c3:O 0 0=k.steps:=by
  apply NE
  intro m
  cases e:k.steps[m]? with
  |none=>rw [Mx (by rw [r];exact Nz.mp e)]
  |some s=>
   rw [l 0 0 m s e]
   by_cases z:m=0
   .rw [LG Z4,LJ z];rfl
   .rw [LG Z4,LG z]
 have a4:O k.steps.length 0=k.steps.map λs=>ca s k.taken c:=by
  apply NE
  intro m
  rw [LO]
  cases e:k.steps[m]? with
  |none=>rw [Mx (by rw [r];exact Nz.mp e)];rfl
  |some s=>
   rw [l _ 0 m s e,LJ (Lx.mp e).1]
   rfl
 have a2:∀j,O j c.length=O (j+1) 0:=λj=>by
  apply NE
  intro m
  cases e:k.steps[m]? with
  |none=>
   have:=Nz.mp e
   rw [Mx (by rw [r];exact this),Mx (by rw [r];exact this)]
  |some s=>
   rw [l j _ m s e,l (j+1) 0 m s e,Mh<|LF _]
   by_cases z:m<j
   .rw [LJ z,LJ Z4]
   .by_cases z2:m=j
    .rw [LG z,LJ z2,LJ Z4]
    .rw [LG z,LG z2,LG Z4]
     by_cases z3:m=j+1
     .rw [LJ z3];rfl
     .rw [LG z3]
 have bc:∀j i g s,k.steps[j]?=some s->c[i]?=some g->(O j i).set j (cF (ca s k.taken<|c.take i) (k.taken+i) g)=O j (i+1):=λj i g s e eg=>by
  apply NE
  intro m
  by_cases z:j=m
  .subst z
   rw [LM (by rw [r];exact (Lx.mp e).1),l j (i+1) j s e,LG<|MV _,LJ rfl,DV eg]
  .rw [LB z]
   cases e2:k.steps[m]? with
   |none=>
    have:=Nz.mp e2
    rw [Mx (by rw [r];exact this),Mx (by rw [r];exact this)]
   |some t=>
    have z':¬m=j:=λw=>z w.symm
    rw [l j i m t e2,l j (i+1) m t e2,LG z',LG z']
 have b0:∀{H':Hp} {Z':ZX} {G:List ZX} {ez:List be},iJ C us H3 Zr an H' Z' G ez->but H' Z' a=some (.ins CL dx<|iT sl k.fB ((k.taken:Nat)+(c.length:Nat)) (k.taken:Nat) k.last):=λI=>I.same N _ _ ea
 refine ⟨λj M' Y H'=>∃G,iJ C us H3 Zr an H' M' G (O j 0)/\Y[0]?=some (some (.ref a))/\ay (but H3 Zr) Y [none,some (.lst<|c.map D.tup),none,none,none],
  ⟨an,⟨by rw [c3];exact c1,λos L x J=>.inl ⟨os,L,J⟩,λb u _ e=>e,lr.same s3,λx J=>J,λx J=>.inl J⟩,rfl,E3⟩,λj M' Y H' q5=>by obtain ⟨G,I,_,_⟩:=q5;exact ⟨I.same N,I.live⟩,?_,?_⟩
 .rintro j M' x Y H' e0 fs ⟨G,I,i0,E'⟩ s4 J
  have J:us[j]?=some x:=J
  have e3:j<k.steps.length:=by omega
  have c4:k.steps[j]?=some k.steps[j]:=Ly e3
  have I4:=I.mono s4
  have E4:ay (but e0 M') (Y.set 2<|some x) [none,some (.lst<|c.map D.tup),none,none,none]:=(E'.mono<|I4.same N).off 2 _
  have c0:(Y.set 2<|some x)[0]?=some (some (.ref a)):=(LB Z1).trans i0
  have e4:Y.length=5:=E'.len
  have c2:(Y.set 2<|some x)[2]?=some (some x):=LM Z4
  have EB:ay (but H3 Zr) (Y.set 2<|some x) [none,some (.lst<|c.map D.tup),none,none,none]:=E'.off 2 _
  have g4:=b0 I4
  refine sC (M:=M') (Fv<|Gv (n:=k.taken) Z4 (aG E4 rfl)<|gO TL.cl TL.nF c0 g4 rfl (.int _)) I4.live λH5 s5=>?_
  have I5:=I4.mono s5
  have ec:(kI k.taken<|c.map D.tup).length=c.length:=by simp [kI]
  refine ⟨λi M2 U X=>∃ac,iJ C us H3 Zr an X M2 ac (O j i)/\ab (but H5 M') (but X M2)/\U[0]?=some (some (.ref a))/\U[2]?=some (some x)/\ay (but H3 Zr) U [none,some (.lst<|c.map D.tup),none,none,none],
   ⟨G,I5,ab.refl _,c0,c2,EB⟩,λi M2 U X q6=>by obtain ⟨ac,I2,S2,_,_,_⟩:=q6;exact ⟨S2,I2.live⟩,?_,?_⟩
  .rintro i M2 y U X X' a1 ⟨ac,I2,S2,c5,ed,bt⟩ s6 ⟨d,hd,ry⟩
   have a1:i<c.length:=by rw [ec] at a1;exact a1
   have dc:c[i]?=some c[i]:=Ly a1
   have dw:d=.tup [.int ((k.taken+i:Nat):Int),.tup c[i]]:=by
    have:(kI k.taken<|c.map D.tup)[i]?=some (.tup [.int ((k.taken+i:Nat):Int),.tup c[i]]):=by
     simp [kI,dc]
    rw [this] at hd
    exact (LQ hd).symm
   subst dw
   have I6:=I2.mono s6
   refine oG ry λu1 u2 q1 q2=>?_
   have e1:=q1.eC
   subst e1
   have ds:U.length=5:=bt.len
   have d0:((U.set 3<|some (.int ((k.taken+i:Nat):Int))).set 4<|some u2)[0]?=some (some (.ref a)):=by rw [LB Z1,LB Z1];exact c5
   have d2:((U.set 3<|some (.int ((k.taken+i:Nat):Int))).set 4<|some u2)[2]?=some (some x):=by rw [LB Z1,LB Z1];exact ed
   have d3:((U.set 3<|some (.int ((k.taken+i:Nat):Int))).set 4<|some u2)[3]?=some (some (.int ((k.taken+i:Nat):Int))):=by rw [LB Z1];exact LM Z4
   have d4:((U.set 3<|some (.int ((k.taken+i:Nat):Int))).set 4<|some u2)[4]?=some (some u2):=LM (by rw [M8];omega)
   have bd:=l j i j _ c4
   rw [LG<|MV _,LJ rfl] at bd
   obtain ⟨aj,os,h1,h2,h3,h4⟩:=I6.st.get j _ bd
   have e5:x=.ref aj:=by rw [J] at h1;exact LQ h1
   subst e5
   obtain ⟨ei,w0,sa,w2,ao,ls,oS,e7,bi,_⟩:=h3.at_
   have e8:=hF _<|LD dc
   have ej:=hS _<|LD c4
   have ek:=ze k.steps[j] k.taken<|c.take i
   rw [Mr] at ek
   refine ⟨.ref aj,d2,aj,ei,_,rfl,bi,rfl,.int ((k.taken+i:Nat):Int),d3,u2,d4,M2,os,_,aj,k.taken+i,c[i],u2,rfl,I6.live,h3,h4,q2,by rw [Dj];exact ej.1,e8,by have:=ej.2;omega,λdd fa n1 n2 n3 n4 n5=>?_⟩
   have I7:=I6.put bd h1 h2 h4 n1 n2 n3 n4 n5
   rw [bc j i _ _ c4 dc] at I7
   have S7:ab (but X' M2) (but fa<|dd++M2):=vk n1 h4 n3
   exact ⟨dd++M2,ac.set j dd,I7,S2.trans<|(s6.but _).trans S7,d0,d2,(bt.off 3 _).off 4 _⟩
  .rintro M2 U X ⟨ac,I2,S2,c5,ed,bt⟩
   rw [ec,a2] at I2
   exact ⟨M2,ac,I2,c5,bt⟩
 .rintro M' Y H' ⟨G,I,i0,E'⟩
  rw [show us.length=k.steps.length from ct,a4] at I
  have bk:=(ax<|b0 I).2
  have b6:=I.same N _ _ eb
  have a0:=(ax b6).2
  have en:∀b,but H' [] b=H' b:=λb=>bh Z8
  refine CZ (M:=[]) (D8 (K:=K) (is:=((List.range us.length).filter λj=>decide<|(k.taken:Int)<=((k.steps.map λs=>ca s k.taken c).getD j ⟨[],[],[],[],-1⟩).newest).map λj=>((j:Nat):Int)) (n:=-1) (ae.eq (EF (K:=K) (caps:=aY [0] 2) (i:=1) (j:=2) Z1 (p:=λj=>decide<|(k.taken:Int)<=((k.steps.map λs=>ca s k.taken c).getD j ⟨[],[],[],[],-1⟩).newest) (f:=λj=>.int (j:Nat)) (Be (li TL.cl TL.nS i0 (by rw [en];exact bk) rfl) (by rw [en];exact a0)) (λG' v m sG hv=>?_) (λG' v m sG hv _=>cH (by simp [aY]) (.int _)) (by rw [ct];exact cy Z4)) (by rw [Mn];rfl))<|iK aq) ap.nil λv6 H6 s6 r6=>?_
  .have hm:=(Lx.mp hv).1
   have em:m<(k.steps.map λs=>ca s k.taken c).length:=by rw [LA];omega
   obtain ⟨am,os,h1,h2,h3,h4⟩:=I.st.get m _<|Ly em
   have e1:v=.ref am:=by rw [hv] at h1;exact LQ h1
   subst e1
   obtain ⟨ei,w0,sa,w2,ao,ls,oS,e7,bi,_⟩:=h3.at_
   have eN:(k.steps.map λs=>ca s k.taken c).getD m ⟨[],[],[],[],-1⟩=(k.steps.map λs=>ca s k.taken c)[m]:=by rw [List.getD,Ly em];rfl
   rw [eN]
   exact cw<|Ab (gO (a:=am) T.cl T.nN (by simp [aY]) (sG _ _ (by rw [en];exact bi)) rfl (.int _))<|gO (a:=a) TL.cl TL.nF (by simp [aY,i0]) (sG _ _ (by rw [en];exact bk)) rfl (.int _)
  have e6:=r6.eC
  subst e6
  refine ⟨.ref a,i0,a,CL,dx,_,rfl,s6 _ _ bk,TL.cl,TL.nL,(show 5<1000 by decide),?_⟩
  rw [show us.length=(k.steps.map λs=>ca s k.taken c).length by rw [LA];exact ct]
  generalize ep:upd H6 a _=H7
  have er:H7 a=some (.ins CL dx<|iT sl k.fB ((k.taken:Nat)+(c.length:Nat)) (k.taken:Nat)<|kj (k.steps.map λs=>ca s k.taken c) k.taken):=by rw [<-ep];exact aR
  have K7:∀b u,b≠a->H' b=some u->H7 b=some u:=λb u hb e=>by rw [<-ep,aA hb];exact s6 _ _ e
  have fl:H3 a=some (.ins CL dx<|iT sl k.fB ((k.taken:Nat)+(c.length:Nat)) (k.taken:Nat) k.last):=(ax ea).2
  have es:∀os∈G,a∉os:=λos L z=>by
   rcases I.own os L a z with ⟨o,h1,h2⟩|h1
   .exact ch o h1 h2
   .rw [fl] at h1;cases h1
  have b7:∀os∈G,∀x∈os,x∈M':=λos L x J=>by
   obtain ⟨i,hi⟩:=Mt.mp L
   have a1:=(Lx.mp hi).1
   have ds:=I.st.l2
   have co:i<(k.steps.map λs=>ca s k.taken c).length:=by omega
   obtain ⟨_,o2,_,h2,_,h4⟩:=I.st.get i _<|Ly co
   rw [hi] at h2
   cases h2
   exact h4 x J
  have ZM:∀x∈Z,x=a\/x∈M':=λx J=>by
   rcases LK.mp ((bs x).mpr J) with z|z
   .exact .inl z
   .exact .inr<|I.sub x z
  have S7:ab (but H' (a::M')) (but H7<|G.flatten++Z):=λb u e=>by
   obtain ⟨q1,q2⟩:=ax e
   simp only [LK,Qx] at q1
   rw [bh]
   .exact K7 b u q1.1 q2
   .intro z
    rcases LY.mp z with z|z
    .obtain ⟨os,L,J⟩:=Mv.mp z
     exact q1.2<|b7 os L b J
    .rcases ZM b z with w|w
     .exact q1.1 w
     .exact q1.2 w
  have l7:ap (G.flatten++Z) H7:=λx J=>by
   have hM:x=a\/x∈M':=by
    rcases LY.mp J with z|z
    .obtain ⟨os,L,J⟩:=Mv.mp z
     exact .inr<|b7 os L x J
    .exact ZM x z
   by_cases z:x=a
   .rw [z,er];exact λz=>nomatch z
   .rcases hM with w|w
    .exact absurd w z
    .cases q7:H' x with
     |none=>exact absurd q7<|I.live x w
     |some u=>rw [K7 x u z q7];exact λz=>nomatch z
  refine q G H7 (λos L x J=>?_) (λb u hb L e=>K7 b u hb<|I.keep b u L<|s3 _ _<|K2 b u hb e) l7 ⟨dx,sl,us,?_,?_,?_,LH _ aZ,es⟩
  .rcases I.own os L x J with z|z
   .exact .inl z
   .refine .inr (N2 ?_)
    cases q3:H2 x with
    |none=>rfl
    |some u=>rw [s3 _ _ q3] at z;cases z
  .exact er
  .refine S7 _ _ ?_
   have fn:sl≠a:=λz=>by rw [z,bk] at a0;cases a0
   rw [bh (by simp only [LK,Qx];exact ⟨fn,(ax b6).1⟩)]
   exact a0
  .exact (I.st.eW bk rfl).yX (λos L x J=>LL _<|Mv.mpr ⟨os,L,J⟩) (λb u q8 e=>by obtain ⟨os,L,hb⟩:=q8;exact K7 b u (λz=>es os L (by rw [<-z];exact hb)) e) S7
end
end a5
namespace a5
open PySem L2 FL
section
variable {P:Program}{w:World}{K:PySem.W.Frag}{mg:Str->Option Value}{base:Heap}{f:Addr}{fd:FuncData}
def Fo:bW ["self"] ["self"] (ba mR):=⟨rfl,rfl,rfl,Z9,rfl,Z9,Z9⟩
def D6(F:aF K "beginnings" "Loom.beginnings" mR f fd)(T:lG K C)(k:kO K CL)(B:Bl mg):bp P w K mg base bz 1 f fd ["self"] (CD C CL):=by
 refine F.ok Fo (λvs H Q E q0=>by obtain ⟨_,_,_,e,_⟩:=q0;rw [e];rfl) λac A L s H vs Q E hr h=>?_
 obtain ⟨M,b,v0,rfl,lv,hL,hn,q⟩:=h
 refine ⟨_,(aD (cj (iG (df<|dC (pv 0) rfl)<|jp (iY (cA nD (dC (pv 0) rfl) aM)<|iU<|cA mn (dC (pv 0) rfl) aM).pt).pt (aB<|bu<|dy aw) cu)
   (aD (cj (eF<|df<|xS B<|fM ["step"] [] 1 (cq<|dC (pv 0) rfl) (λ_ _ _ _ _=>(bv 0<|ky _)) (λ_ _ _ _ _=>jw) λ_ _ _ _ _=>(iZ CT (qg (pv 0) rfl) aM)) (aB<|bu<|dy aw) cu)
   (aB<|bu<|dy<|ai (eE<|ai (dy aw)<|ai (eE aw) aw) aw))),?_⟩
 obtain ⟨a,dx,sl,us,rfl,I,gs,o⟩:=hL
 have E0:ay (but H M) (L2.start ["self"] [.ref a]) [none]:=fV (.raw .nil) _
 have r:=o.len
 refine im lv E0 (iC (dh<|gO k.cl k.nB rfl I rfl (.bl _)) λ_=>ii (cw<|nq (gO k.cl k.nL rfl I rfl (.int _)) aq) λ_=>cw<|j6 (gO k.cl k.nF rfl I rfl (.int _)) aq) (λe H1 g N E1=>?_) λe H1 g N E1=>nx ?_
 .have c:ef b=[]:=by unfold ef;rw [LJ e]
  rw [c] at q
  exact uA N ag (Mb _) λp d O l t U r2=>q p d O (g.trans l) (gR g t) U r2
 have u:=o.mono<|g.but M
 refine im N E1 (eB<|dh<|yu (bs:=b.steps.map λs=>decide<|(0:Int)<=s.newest)<|aa (ae.eq (Jd (caps:=aY [] 1) (i:=0) (p:=λ_=>true) (f:=λj=>.bl<|decide<|(0:Int)<=(b.steps.getD j ⟨[],[],[],[],-1⟩).newest) (vL (K:=K) (li k.cl k.nS rfl ((g.but M) _ _ I) rfl)<|(g.but M) _ _ gs) (λj G G' v _ h=>h) (λG' v j _ _ _=>jS) (λG' v j sG hj _ Y=>?_) (by rw [r];exact cy Z4)) ?_) ag) (λn O l l2 E2=>?_) λn O l l2 E2=>nx ?_
 .have Y:us[j]?=some v:=Y
  have x:j<b.steps.length:=by omega
  obtain ⟨v',h1,U⟩:=u.get j _<|Ly x
  rw [Y] at h1
  cases h1
  obtain ⟨am,af,w0,sa,w2,ao,oS,rfl,g1,_⟩:=U
  have eN:b.steps.getD j ⟨[],[],[],[],-1⟩=b.steps[j]:=by rw [List.getD,Ly x];rfl
  rw [eN]
  exact Ab (gO T.cl T.nN (by simp [aY]) (sG _ _ g1) rfl (.int _)) aq
 .rw [MG.mpr λ_ _=>rfl,r,Mn]
  congr 1
  apply NE
  intro m
  rw [LO,LO]
  by_cases y:m<b.steps.length
  .rw [List.getElem?_range y,Ly y]
   show some (D.bl<|decide<|(0:Int)<=(b.steps.getD m ⟨[],[],[],[],-1⟩).newest)=_
   rw [List.getD,Ly y]
   rfl
  .rw [Mx (by simpa using Mp y),Mx<|Mp y]
   rfl
 .have c:ef b=[]:=by
   unfold ef
   rw [LG (by rw [e];exact LI),LG]
   intro z
   rw [Pk] at n
   have J:(b.steps.all<|id∘λs=>decide<|(0:Int)<=s.newest)=true:=z
   rw [J] at n
   cases n
  rw [c] at q
  exact uA l2 ag (Mb _) λp d H3 s3 t h3 r3=>q p d H3 (g.trans<|l.trans s3) (gR (g.trans l) t) h3 r3
 .have c:ef b=[([],[])]:=by
   unfold ef
   rw [LG (by rw [e];exact LI),LJ]
   rw [Pk] at n
   have J:(!(b.steps.all<|id∘λs=>decide<|(0:Int)<=s.newest))=false:=n
   rw [Bool.not_eq_false'] at J
   exact J
  rw [c] at q
  exact uA l2 (ds:=[.tup [.lst [],.tup []]]) (aa (aQ<|aa (fy (ds:=[]) ag (hz:=Mb _))<|aa (aQ (ds:=[]) ag (hz:=Mb _)) ag) ag) (show 1<=sizeLine by decide) λp d H3 s3 t h3 r3=>q p d H3 (g.trans<|l.trans s3) (gR (g.trans l) t) h3 r3
def Fy:bW ["self","way"] ["self","way"] (ba lH):=⟨rfl,rfl,rfl,Z9,rfl,Z9,Z9⟩
def JG(F:aF K "is_whole" "Loom.is_whole" lH f fd)(m:kO K CL)(B:Bl mg):bp P w K mg base bz 1 f fd ["self","way"] (vX C CL):=by
 refine F.ok Fy (λp H Q E r=>by obtain ⟨_,_,_,_,_,e,_⟩:=r;rw [e];rfl) λt A c s H p Q E u h=>?_
 obtain ⟨M,x,b,U,y,rfl,z,G,g,q⟩:=h
 have I:=dR u
 refine ⟨_,(aB<|bu<|iZ (fC (by exact I)) (cY B<|bg (pv 1) aM)<|cY B<|dC (pv 0) rfl),?_⟩
 obtain ⟨a,Y,sl,o,rfl,J,L,k⟩:=G
 have l:=k.len
 have E0:ay (but H M) (L2.start ["self","way"] [.ref a,y]) [none,some<|cZ b]:=fV (.raw (.dat g .nil)) _
 refine eA z (iL (i:=((b.2.map λn=>D.int (n:Nat)).length:Nat)) (j:=(o.length:Nat)) (h9<|aa (b9 (ds:=[.lst<|pairD b.1,.tup<|b.2.map λn=>D.int (n:Nat)]) (d:=.tup<|b.2.map λn=>D.int (n:Nat)) rfl (aG E0 rfl) aq) ag)<|DW (li m.cl m.nS rfl J rfl) L) λv N O g=>?_
 have T:=g.jA
 subst T
 have:decide ((((b.2.map λn=>D.int (n:Nat)).length:Nat):Int)=((o.length:Nat):Int))=decide (b.2.length=x.steps.length):=by
  rw [LA,l]
  exact Om.mpr ⟨λh=>by omega,λh=>by omega⟩
 rw [this]
 exact q N O
def qR:bW ["self","way","taken","lowest"] ["self","way"] (ba mv):=⟨rfl,rfl,rfl,Z9,rfl,Z9,Z9⟩
def Ff(F:aF K "carried_on" "Loom.carried_on" mv f fd)(T:lG K C)(k:kO K CL)(B:Bl mg)(o:mg "max"=none)(c:ee P w K mg base 3 C "carry_on" ["self","way","lowest"] (vI C)):bp P w K mg base bz 4 f fd ["self","way"] (wF C CL):=by
 refine F.ok qR (λvs H Q E q0=>by obtain ⟨_,_,_,_,_,_,e,_⟩:=q0;rw [e];rfl) λam A ac s H vs Q E hr h=>?_
 obtain ⟨M,l,w0,v0,v1,sz,rfl,lv,hL,r1,hR,hW,p,q⟩:=h
 have hu:=dR hr
 have mX:=T.cl
 refine ⟨_,(aD (bj 2 qR.nd<|cY B<|bg (pv 1) aM)
   (aD (bj 3 qR.nd aM)
   (aD (cj (iY (cA (fC (by exact hu)) (pv 2)<|dC (pv 0) rfl)<|iU<|cA nD (yb o (bg (pv 1) aM)<|iQ iM aM)<|dC (pv 0) rfl).pt (aB<|bj 3 qR.nd<|dC (pv 0) rfl) cu)
   (aB<|bu<|jP (bg (dC (pv 0) rfl)<|pv 2) mX c hr<|ai (pv 1)<|ai (pv 3) aw)))),?_⟩
 obtain ⟨a,dx,sl,us,rfl,z,gs,G⟩:=hL
 have an:=G.len
 obtain ⟨S,b⟩:=w0
 have p:b.length<l.steps.length:=p
 have E0:ay (but H M) (L2.start ["self","way","taken","lowest"] [.ref a,v1]) [none,some<|cZ (S,b),none,none]:=fV (.raw (.dat r1 .nil)) _
 have af:(b.map λn=>D.int (n:Nat))=(b.map λn=>((n:Nat):Int)).map D.int:=by rw [Mn];rfl
 refine f7 (i:=2) (d:=.int (b.length:Nat)) lv E0 ((h9<|aa (b9 (ds:=[.lst<|pairD S,.tup<|b.map λn=>D.int (n:Nat)]) (d:=.tup<|b.map λn=>D.int (n:Nat)) rfl (aG E0 rfl) aq) ag).eq (by rw [LA])) λao H1 o1 u l1 E1=>?_
 dsimp only
 refine xI<|f7 (i:=3) (d:=.int 0) l1 E1 (aq (i:=0)) λaj H2 o2 x l2 E2=>?_
 have g:aj[0]?=some (some (.ref a)):=(o2 0 Z1).trans<|(o1 0 Z1).trans rfl
 have I:=(u.trans x).but M
 have hs:=Ly p
 obtain ⟨vj,J,m⟩:=G.get b.length _ hs
 have L:ck l (S,b)=fg l.steps[b.length] (S,b) (gL l (S,b)):=by
  unfold ck
  rw [show l.steps[((S,b):aH).2.length]?=some l.steps[b.length] from hs]
 have N:jZ S.length l.steps[b.length]:=by
  have:=(hR.st _ _ hs).1
  have e:=hW.one
  have e:S.length=sz b.length:=e
  rw [e];exact this
 have O:S.length<=500:=by have e:S.length=sz b.length:=hW.one;rw [e];exact hR.le _
 have U:b.length<=500:=by have:=hR.len;omega
 rw [L] at q
 refine im l2 E2 (ii (cw<|iL (aG E2 rfl)<|gO k.cl k.nL g (I _ _ z) rfl (.int _)) λ_=>cw<|nq (Df (K:=K) (is:=b.map λn=>((n:Nat):Int)) ((b9 (ds:=[.lst<|pairD S,.tup<|b.map λn=>D.int (n:Nat)]) (d:=.tup<|b.map λn=>D.int (n:Nat)) rfl (aG E2 rfl) aq).eq (by rw [af]))<|iK aq)<|gO k.cl k.nF g (I _ _ z) rfl (.int _)) (λe H3 y l3 Y=>?_) λe H3 y l3 Y=>nx ?_
 .have j:=(u.trans<|x.trans y).but M
  refine f7 (i:=3) l3 Y (gO k.cl k.nF g (j _ _ z) rfl (.int _)) λas H4 o4 s4 l4 E4=>?_
  have r:=(u.trans<|x.trans<|y.trans s4).but M
  have t:gL l (S,b)=l.fresh:=by unfold gL;rw [LJ e]
  rw [t] at q
  exact eA l4 (Br (li k.cl k.nS ((o4 0 Z1).trans g) (r _ _ z) rfl) (r _ _ gs) (aG E4 rfl) J (m.mono r) hW.ok O U N (aG E4 rfl)<|aG E4 rfl) λv H5 s5 r5=>q v H5 (u.trans<|x.trans<|y.trans<|s4.trans s5) r5
 .have j:=(u.trans<|x.trans y).but M
  have t:gL l (S,b)=0:=by unfold gL;rw [LG (by rw [e];exact LI)]
  rw [t] at q
  exact eA l3 (Br (li k.cl k.nS g (j _ _ z) rfl) (j _ _ gs) (aG Y rfl) J (m.mono j) hW.ok O U N (aG Y rfl)<|aG Y rfl) λv H5 s5 r5=>q v H5 (u.trans<|x.trans<|y.trans s5) r5
end
end a5
namespace a5
open PySem L2 FL
section
variable {P:Program}{w:World}{K:PySem.W.Frag}{mg:Str->Option Value}{base:Heap}{f:Addr}{fd:FuncData}
def m9:bW ["self","number","loom","head","found","unfinished","way","fact"] ["self","number","loom"] (ba mD):=⟨rfl,rfl,rfl,Z9,rfl,Z9,Z9⟩
def Ge(F:aF K "given_by" "Weaving.given_by" mD f fd)(TL:kO K CL)(TW:oW K CW)(B:Bl mg)(a4:aV P w K mg base 1 "filled" ["atom","setting"] (bw qv))(Y:ee P w K mg base 1 CL "beginnings" ["self"] (CD C CL))(ao:ee P w K mg base 1 CL "is_whole" ["self","way"] (vX C CL))(ac:ee P w K mg base 4 CL "carried_on" ["self","way"] (wF C CL)):bp P w K mg base bz 5 f fd ["self","number","loom"] (xP C CL CW):=by
 refine F.ok m9 (λvs H Q E q0=>by obtain ⟨_,_,_,_,_,_,_,_,_,_,_,_,_,_,_,e,_⟩:=q0;rw [e];rfl) λhi A fr s H vs Q E hr h=>?_
 obtain ⟨M,r,a,dx,vr,ll,N,bs,G,I,bt,T,R,sz,v2,rfl,lv,ha,ek,bx,hT,rr,em,ch,en,hG,hN,q⟩:=h
 have ep:=fE hr
 have mw:=TL.cl
 refine ⟨_,(aD (bj 3 m9.nd<|bg (bg (dC (pv 0) rfl)<|pv 1) aM)
   (aD (bj 4 m9.nd<|dy aw)
   (aD (bj 5 m9.nd<|Kk (pv 2) mw Y hr)
   (aD (CJ L9 (vA (pv 5) λ_=>rfl) (aD (bj 6 m9.nd<|y3 NR PySem.F.slot_list_pop PySem.F.type_list_pop Hl<|pv 5)
   (aD (bj 7 m9.nd<|bG a4 hr<|ai (pv 3)<|ai (bg (pv 6) aM) aw)
   (aB (cj (jV<|pH (by exact ep) (pv 7)<|dC (pv 0) rfl) (aB (cj (df<|jP (pv 2) mw ao hr<|ai (pv 6) aw) (aD (kN ep (dC (pv 0) rfl) (pv 7) d9 rfl)
   (aB<|jY (pv 4)<|eE<|ai (pv 7)<|ai (pv 1)<|ai (bg (pv 6) aM) aw))<|aB<|jv<|vt NR OM PU CI (pv 5)<|ai (jP (pv 2) mw ac hr<|ai (pv 6) aw) aw)) cu)))))
   (aB<|bu<|pv 4))))),?_⟩
 have hR:=hG.run
 obtain ⟨aL,fs,hj,hk,eL,ft,hm,hf⟩:=id ch
 subst eL
 have E0:ay (but H M) (L2.start ["self","number","loom","head","found","unfinished","way","fact"] [.ref a,.int ((G:Nat):Int),.ref aL]) [none,some (.int ((G:Nat):Int)),none,none,none,none,none,none]:=fV (.raw (.dat (.int _) (.raw .nil))) _
 have fv:(bs.map a6)[G]?=some (a6 (I,bt)):=by rw [LO,em];rfl
 refine f7 (i:=3) (d:=.tup I) lv E0 (b9 (ds:=[.tup I,cf bt]) (d:=.tup I) rfl (cN (ds:=bs.map a6) (d:=a6 (I,bt)) (mJ fv) (gO TW.cl TW.nR rfl ha rfl rr)<|aG E0 rfl) aq) λeq H1 o1 s1 l1 E1=>?_
 dsimp only
 have f0:eq[0]?=some (some (.ref a)):=(o1 0 Z1).trans rfl
 have f1:eq[2]?=some (some (.ref aL)):=(o1 2 Z1).trans rfl
 refine m4 (i:=4) l1 E1 Z8 ag (Mb _) λy vF a0 H4 o4 i4 n4 h4 r4 l4 k4 E4=>?_
 have d4:ab H1 H4:=λx o e=>(k4 x o e).2
 have f2:H1 y=none:=none_of (ab.refl H1) k4
 have HF:H y=none:=none_of s1 k4
 have f3:vF=[]:=by cases r4;rfl
 subst f3
 have f4:a0[0]?=some (some (.ref a)):=(o4 0 Z1).trans f0
 have er:a0[2]?=some (some (.ref aL)):=(o4 2 Z1).trans f1
 have d5:ab (but H M) (but H4 (y::M)):=(s1.but M).trans<|ir f2 d4
 have es:=ch.mono d5
 refine ⟨.ref aL,er,aL,fs,_,rfl,(ax<|d5 _ _ ft).2,rfl,y::M,r,.ref aL,rfl,l4,es,en,λk vU H5 s5 co h5 r5=>?_⟩
 have b6:y≠k:=λz=>by rw [<-z,h4] at co;cases co
 have HU:H k=none:=gR (s1.trans d4) co
 have et:ab H H5:=s1.trans<|d4.trans s5
 have eu:H5 N=some (.dT<|cC T):=et _ _ bx
 have dd:N≠y:=λz=>by rw [z,HF] at bx;cases bx
 have b7:N≠k:=λz=>by rw [z,HU] at bx;cases bx
 have ev:ab (but H4 (y::M)) (but H5 (k::y::M)):=ir co s5
 have f5:ab (but H M) (but H5 (k::y::M)):=d5.trans ev
 have l5:ap (k::y::M) H5:=(l4.same s5).cons h5
 have ga:=E4.len
 have E5:ay (but H5 (k::y::M)) (a0.set 5<|some (.ref k)) [none,some (.int ((G:Nat):Int)),none,some (.tup I),none,none,none,none]:=(E4.mono ev).off 5 _
 have gb:(a0.set 5<|some (.ref k))[0]?=some (some (.ref a)):=(LB Z1).trans f4
 have gd:(a0.set 5<|some (.ref k))[2]?=some (some (.ref aL)):=(LB Z1).trans er
 have gh:(a0.set 5<|some (.ref k))[4]?=some (some (.ref y)):=(LB Z1).trans i4
 have gl:(a0.set 5<|some (.ref k))[5]?=some (some (.ref k)):=LM (by rw [ga];exact (show 5<8 by decide))
 have gn:=s5 _ _ h4
 have ea:ef r=[]\/ef r=[([],[])]:=by
  unfold ef
  split
  .exact .inl rfl
  .split
   .exact .inr rfl
   .exact .inl rfl
 have di:(ef r).reverse=ef r:=by rcases ea with z|z<;>rw [z]<;>rfl
 have ew:0+((ef r).map λw=>dF r (bP r w) w).sum<=dF r r.steps.length ([],[]):=by
  rcases ea with z|z
  .rw [z];exact Mb _
  .rw [z]
   show 0+(dF r (r.steps.length-0) ([],[])+0)<=_
   rw [Qt];omega
 have ex:∀w∈ef r,GoodW sz r.steps w/\R w:=λw hw=>by
  rcases ea with z|z
  .rw [z] at hw;cases hw
  .rw [z] at hw
   rw [L4.mp hw];exact ⟨GoodW.nil hR,hG.r0⟩
 unfold fO at q
 generalize ef r=B0 at q r5 di ew ex
 refine ⟨λm O X=>∃(j:List bH) (stack:List aH) (uF L:List V),cz I G (B0.flatMap λw=>cJ r (bP r w) w) T=j++cz I G (stack.reverse.flatMap λw=>cJ r (bP r w) w) (T++aI j)/\(∀g∈T++aI j,fR g)/\m=(stack.map λw=>dF r (bP r w) w).sum/\j.length+m<=dF r r.steps.length ([],[])/\(∀w∈stack,GoodW sz r.steps w/\R w)/\O[0]?=some (some (.ref a))/\O[2]?=some (some (.ref aL))/\O[4]?=some (some (.ref y))/\O[5]?=some (some (.ref k))/\X y=some (.lst uF)/\aC (but X (k::y::M)) uF (j.map fx)/\X k=some (.lst L)/\aC (but X (k::y::M)) L (stack.map cZ)/\X N=some (.dT<|cC<|T++aI j)/\(∀b u,b≠N->H b=some u->X b=some u)/\ap (k::y::M) X/\ab (but H M) (but X (k::y::M))/\ay (but X (k::y::M)) O [none,some (.int ((G:Nat):Int)),none,some (.tup I),none,none,none,none],
  ⟨_,[],B0,[],vU,by rw [di];show _=[]++cz I G _ (T++[]);rw [Mi];rfl,by show∀g∈T++[],fR g;rw [Mi];exact hT,rfl,ew,ex,gb,gd,gh,gl,gn,.nil,h5,r5,by show H5 N=some (.dT<|cC<|T++[]);rw [Mi];exact eu,λb u _ e=>et _ _ e,l5,f5,E5⟩,?_⟩
 rintro m O X ⟨j,stack,uF,L,as,U,rfl,go,an,j0,j2,j4,j5,ey,rF,ec,rU,ez,KX,lX,gp,EX⟩
 refine ⟨.ref k,j5, !L.isEmpty,.inl ⟨L,aP.of ec,rfl⟩,?_⟩
 have e0:stack=[]\/∃J w,stack=J++[w]:=by
  rcases List.eq_nil_or_concat stack with z|⟨J,w,z⟩
  .exact .inl z
  .exact .inr ⟨J,w,by rw [z,List.concat_eq_append]⟩
 rcases e0 with rfl|⟨J,w,rfl⟩
 .have hu:L=[]:=by cases rU;rfl
  subst hu
  refine Eq.mpr (LG (c:=(!([]:List V).isEmpty)=true) Z8) ?_
  have as:cz I G (B0.flatMap λw=>cJ r (bP r w) w) T=j++[]:=as
  rw [Mi] at as
  rw [as] at q
  refine ⟨.ref y,j4,q y uF X KX HF ey (rF.mono<|dU λz hz=>Lv _ hz) ez⟩
 .have cs:=rU.length
  rw [LA,LR,MQ] at cs
  obtain ⟨hw,ed⟩:=an w<|LH _<|L4.mpr rfl
  have ct:(((J++[w]).map cZ))[L.length-1]?=some (cZ w):=by
   rw [cs,OF,LO,Ma<|LF _,Qw]
   rfl
  obtain ⟨u,hu,ru⟩:=rU.get ct
  have gs:(!L.isEmpty)=true:=by
   cases L with
   |nil=>simp at cs
   |cons _ _=>rfl
  refine Eq.mpr (LJ (c:=(!L.isEmpty)=true) gs) ?_
  rw [Me,Qd,List.map_singleton,List.sum_singleton] at go⊢
  refine ⟨λaj af=>∃m',m'<(J.map λw=>dF r (bP r w) w).sum+dF r (bP r w) w/\∃(j:List bH) (stack:List aH) (uF L:List V),cz I G (B0.flatMap λw=>cJ r (bP r w) w) T=j++cz I G (stack.reverse.flatMap λw=>cJ r (bP r w) w) (T++aI j)/\(∀g∈T++aI j,fR g)/\m'=(stack.map λw=>dF r (bP r w) w).sum/\j.length+m'<=dF r r.steps.length ([],[])/\(∀w∈stack,GoodW sz r.steps w/\R w)/\aj[0]?=some (some (.ref a))/\aj[2]?=some (some (.ref aL))/\aj[4]?=some (some (.ref y))/\aj[5]?=some (some (.ref k))/\af y=some (.lst uF)/\aC (but af (k::y::M)) uF (j.map fx)/\af k=some (.lst L)/\aC (but af (k::y::M)) L (stack.map cZ)/\af N=some (.dT<|cC<|T++aI j)/\(∀b u,b≠N->H b=some u->af b=some u)/\ap (k::y::M) af/\ab (but H M) (but af (k::y::M))/\ay (but af (k::y::M)) aj [none,some (.int ((G:Nat):Int)),none,some (.tup I),none,none,none,none],λaj af h=>h,?_⟩
  refine ⟨.ref k,j5,(show gX K "list" (.ref k) _ from .inl ⟨rfl,L,aP.of ec⟩),k,L,u,rfl,rfl,ec,hu,?_⟩
  have eb:but (upd X k (.lst L.dropLast)) (k::y::M)=but X (k::y::M):=dD Lz
  have bd:aC (but (upd X k (.lst L.dropLast)) (k::y::M)) L.dropLast (J.map cZ):=by
   rw [eb]
   have h1:=rU.take J.length
   rw [Me,Ni (by rw [LA];exact LF _),Mh (l:=List.map cZ J) (by rw [LA];exact LF _)] at h1
   have h2:L.dropLast=L.take J.length:=by rw [List.dropLast_eq_take,cs,OF]
   rw [h2];exact h1
  have Ea:ay (but (upd X k (.lst L.dropLast)) (k::y::M)) (O.set 6<|some u) [none,some (.int ((G:Nat):Int)),none,some (.tup I),none,none,some<|cZ w,none]:=by rw [eb];exact EX.set 6 ru
  have la:ap (k::y::M) (upd X k (.lst L.dropLast)):=lX.upd
  have Ka:∀b u,b≠N->H b=some u->(upd X k (.lst L.dropLast)) b=some u:=λb o hb e=>by
   rw [aA λz=>by rw [z,HU] at e;cases e];exact KX b o hb e
  have e1:ab (but H M) (but (upd X k (.lst L.dropLast)) (k::y::M)):=by rw [eb];exact gp
  have a2:(upd X k (.lst L.dropLast)) y=some (.lst uF):=by rw [aA b6];exact ey
  have am:(upd X k (.lst L.dropLast)) k=some (.lst L.dropLast):=aR
  have b8:(upd X k (.lst L.dropLast)) N=some (.dT<|cC<|T++aI j):=by rw [aA b7];exact ez
  have c1:aC (but (upd X k (.lst L.dropLast)) (k::y::M)) uF (j.map fx):=by rw [eb];exact rF
  have b0:(O.set 6<|some u)[0]?=some (some (.ref a)):=(LB Z1).trans j0
  have b2:(O.set 6<|some u)[2]?=some (some (.ref aL)):=(LB Z1).trans j2
  have b4:(O.set 6<|some u)[4]?=some (some (.ref y)):=(LB Z1).trans j4
  have b5:(O.set 6<|some u)[5]?=some (some (.ref k)):=(LB Z1).trans j5
  clear eb rU ru
  generalize upd X k (.lst L.dropLast)=Xa at bd Ea la Ka e1 a2 am b8 c1
  generalize L.dropLast=uV at bd am
  have a1:cz I G (B0.flatMap λw=>cJ r (bP r w) w) T=j++cz I G (cJ r (bP r w) w++J.reverse.flatMap λw=>cJ r (bP r w) w) (T++aI j):=by
   rw [as,List.reverse_append,Pt]
   simp
  have gy:(aI j).length=j.length:=by unfold aI;rw [LA]
  have e2:∀n,n<=dF r r.steps.length ([],[])->n<sizeLine:=λn h=>by omega
  have hh:=xn r J
  have dp:=Ad r (bP r w) w
  have dt:∀p∈w.1,p.2.sc=true:=λp hp=>(hw.ok p hp).1
  have a3:bV (bn I w):=yE hG.cG dt
  have d0:∀g∈T++aI j,bV g:=λg hg=>(U g hg).1
  refine f7 (i:=7) (d:=.tup<|bn I w) la Ea (bN (R:=qv) ⟨I,w.1,rfl,hG.cG,dt,by have:=hG.hl;omega,rfl⟩<|aa (aG Ea rfl)<|aa (b9 (ds:=[.lst<|pairD w.1,.tup<|w.2.map λn=>D.int (n:Nat)]) (d:=.lst<|pairD w.1) rfl (aG Ea rfl) aq) ag) λg0 Xb ob sb lb Eb=>?_
  have c0:=(ob 0 Z1).trans b0
  have c2:=(ob 2 Z1).trans b2
  have c4:=(ob 4 Z1).trans b4
  have c5:=(ob 5 Z1).trans b5
  have bi:=e1.trans<|sb.but (k::y::M)
  have cd:=sb _ _ b8
  obtain ⟨v7,e7,r7⟩:=Eb.get 7 _ rfl
  obtain ⟨e3,hn,g1,h7,g2⟩:=r7.fe
  subst g1
  have eg:=(ax h7).2
  rw [lW a3 g2] at eg
  have g3:=(ax<|bi _ _ ha).2
  refine ⟨.ref e3,e7,.ref a,c0,a,CW,dx,_,.ref N,rfl,g3,TW.cl,TW.nT,rfl,N,_,rfl,cR.t cd eg,_,rfl,?_⟩
  rw [wy a3 d0]
  by_cases bk:bn I w∈T++aI j
  .
   rw [LV bk]
   refine Eq.mpr (LG (c:=(!true)=true) Z8) ?_
   have g4:=hG.skip w ed (U _ bk).2
   refine ⟨_,P5 dp,j,J,uF,uV,?_,U,rfl,by omega,λx hx=>an x<|LL _ hx,c0,c2,c4,c5,sb _ _ a2,c1.mono<|sb.but _,sb _ _ am,bd.mono<|sb.but _,cd,λb u hb e=>sb _ _<|Ka b u hb e,lb,bi,(Eb.drop 7).drop 6⟩
   rw [a1,AF _ _ _ λx hx=>by rw [g4 x hx];exact bk]
  .rw [Mc bk]
   refine Eq.mpr (LJ (c:=(!false)=true) rfl) ?_
   refine im lb Eb (G5 c2 (ch.mono bi)<|aG Eb rfl) (λe Xc sc lc Ec=>?_) λe Xc sc lc Ec=>?_
   .have e:=LW e
    have kJ:cJ r (bP r w) w=[w]:=by
     have:bP r w=0:=by unfold bP;omega
     rw [this];rfl
    have g5:fR (bn I w):=⟨a3,hG.flat w ed e⟩
    have g6:=(ax<|((sc.but (k::y::M)) _ _<|bi _ _ ha)).2
    have e4:=sc _ _ cd
    refine ⟨.ref a,c0,a,CW,dx,_,.ref N,rfl,g6,TW.cl,TW.nT,rfl,.ref e3,e7,N,_,rfl,gt.t e4 (sc _ _ eg) (by rw [A3,LR,gy];omega),?_⟩
    rw [yR a3 d0,LG bk]
    have c3:but (upd Xc N (.dT<|cC<|T++aI j++[bn I w])) (k::y::M)=but Xc (k::y::M):=dD<|Lv _<|Lv _ ek
    have Ed:ay (but (upd Xc N (.dT<|cC<|T++aI j++[bn I w])) (k::y::M)) g0 [none,some (.int ((G:Nat):Int)),none,some (.tup I),none,none,some<|cZ w,some (.tup<|bn I w)]:=by rw [c3];exact Ec
    have d1:(upd Xc N (.dT<|cC<|T++aI j++[bn I w])) y=some (.lst uF):=by rw [aA<|MC dd];exact sc _ _<|sb _ _ a2
    have d2:(upd Xc N (.dT<|cC<|T++aI j++[bn I w])) k=some (.lst uV):=by rw [aA<|MC b7];exact sc _ _<|sb _ _ am
    have e5:aC (but (upd Xc N (.dT<|cC<|T++aI j++[bn I w])) (k::y::M)) uF (j.map fx):=by rw [c3];exact c1.mono<|(sb.trans sc).but _
    have e6:aC (but (upd Xc N (.dT<|cC<|T++aI j++[bn I w])) (k::y::M)) uV (J.map cZ):=by rw [c3];exact bd.mono<|(sb.trans sc).but _
    have Kd:∀b u,b≠N->H b=some u->(upd Xc N (.dT<|cC<|T++aI j++[bn I w])) b=some u:=λb u hb e=>by rw [aA hb];exact sc _ _<|sb _ _<|Ka b u hb e
    have e8:ab (but H M) (but (upd Xc N (.dT<|cC<|T++aI j++[bn I w])) (k::y::M)):=by rw [c3];exact bi.trans<|sc.but _
    have ld:ap (k::y::M) (upd Xc N (.dT<|cC<|T++aI j++[bn I w])):=lc.upd
    have d3:(upd Xc N (.dT<|cC<|T++aI j++[bn I w])) N=some (.dT<|cC<|T++aI j++[bn I w]):=aR
    generalize upd Xc N (.dT<|cC<|T++aI j++[bn I w])=Xd at Ed d1 d2 e5 e6 Kd e8 ld d3
    refine sF ld Ed (a:=y) (d:=fx (bn I w,(G,w.2))) Z8 c4 d1 e5 (by rw [LA];exact e2 _ Z4) (aQ<|aa (aG Ed rfl)<|aa (aG Ed rfl)<|aa (b9 (ds:=[.lst<|pairD w.1,.tup<|w.2.map λn=>D.int (n:Nat)]) (d:=.tup<|w.2.map λn=>D.int (n:Nat)) rfl (aG Ed rfl) aq) ag) λvd Xe ke le he re Ee=>?_
    have Se:ab (but Xd (k::y::M)) (but Xe (k::y::M)):=mh Z8 ke
    have ei:aI (j++[(bn I w,(G,w.2))])=aI j++[bn I w]:=by rw [oo];rfl
    refine ⟨_,P5 dp,j++[(bn I w,(G,w.2))],J,_,uV,?_,?_,rfl,?_,λx hx=>an x<|LL _ hx,c0,c2,c4,c5,he,?_,ke _ _ (MC b6) d2,e6.mono Se,?_,?_,le,e8.trans Se,(Ee.drop 7).drop 6⟩
    .rw [a1,kJ,List.singleton_append,oz bk,ei,<-Mw T]
     exact (Mw j [(bn I w,(G,w.2))] _).symm
    .rw [ei,<-Mw]
     intro g hg
     rcases LY.mp hg with z|z
     .exact U g z
     .rw [L4.mp z];exact g5
    .rw [LR,MQ];omega
    .rw [Me];exact re
    .rw [ei,<-Mw];exact ke _ _ dd d3
    .exact λb u hb e=>ke b u (λz=>by rw [z,HF] at e;cases e)<|Kd b u hb e
   .have e:=MB e
    have ho:=hw.two
    have ej:w.2.length<r.steps.length:=by omega
    have g7:=A2 hR hw
    have fa:=D9 ej
    have fl:=Kt ej
    have fn:=bi.trans<|sc.but (k::y::M)
    have hq:=xn r<|ck r w
    refine ⟨.ref k,c5,(show gX K "list" (.ref k) _ from .inl ⟨rfl,uV,aP.of<|sc _ _<|sb _ _ am⟩),Lk c2 (ch.mono fn) hR hw ej (aG Ec rfl) (k::y::M) Xc (ab.refl _) lc _ λv Xd sd rv=>?_⟩
    obtain ⟨bc,zs,rfl,g8,fp⟩:=rv.d7
    have g9:=fp.length
    rw [LA] at g9
    have hc:=bd.length
    rw [LA] at hc
    have bl:=sb.trans<|sc.trans sd
    refine ⟨k,bc,uV,zs,rfl,rfl,bl _ _ am,(ax g8).2,Nc<|e2 _ Z4,?_⟩
    have dc:but (upd Xd k (.lst<|uV++zs)) (k::y::M)=but Xd (k::y::M):=dD Lz
    refine ⟨((J++ck r w).map λw=>dF r (bP r w) w).sum,?_,j,J++ck r w,uF,uV++zs,?_,U,rfl,?_,λx hx=>?_,c0,c2,c4,c5,?_,?_,aR,?_,?_,?_,(lc.same sd).upd,?_,?_⟩
    .rw [Me,Qd,fa];omega
    .rw [a1,fl,List.reverse_append,Pt]
    .rw [Me,Qd];omega
    .rcases LY.mp hx with z|z
     .exact an x<|LL _ z
     .exact ⟨g7 x z,hG.rs w ed x z⟩
    .rw [aA b6];exact bl _ _ a2
    .rw [dc];exact c1.mono<|bl.but _
    .rw [dc,Me];exact (bd.mono<|bl.but _).append fp
    .rw [aA b7];exact bl _ _ b8
    .exact λb u hb e=>by rw [aA λz=>by rw [z,HU] at e;cases e];exact bl _ _<|Ka b u hb e
    .rw [dc];exact fn.trans<|sd.but _
    .rw [dc];exact ((Ec.same sd).drop 7).drop 6
end
end a5
namespace a5
open PySem L2 FL
section
variable {P:Program}{w:World}{K:PySem.W.Frag}{mg:Str->Option Value}{base:Heap}{f:Addr}{fd:FuncData}
def pB:bW ["self","facts","fact","found","number","loom"] ["self","facts"] (ba lS):=⟨rfl,rfl,rfl,Z9,rfl,Z9,Z9⟩
def Gb(F:aF K "one_round" "Weaving.one_round" lS f fd)(TL:kO K CL)(TW:oW K CW)(B:Bl mg)(a1:ee P w K mg base 4 CL "take_in" ["self","facts"] (AJ C CL))(ao:ee P w K mg base 5 CW "given_by" ["self","number","loom"] (xP C CL CW)):bp P w K mg base bz 6 f fd ["self","facts"] (CK C CL CW):=by
 refine F.ok pB (λvs H Q E q0=>by obtain ⟨_,_,_,_,_,_,_,_,_,_,_,_,_,e,_⟩:=q0;rw [e];rfl) λj2 A g1 s H vs Q E hr h=>?_
 obtain ⟨Z,a,dx,vr,ll,td,us,ac,I,l,T,c,v1,rfl,lv,ha,g2,c2,ev,ew,g3,rr,r1,hO,q⟩:=h
 have g4:=fE hr
 have mw:=TL.cl
 have ni:=TW.cl
 refine ⟨_,(aD (de L9 rfl (cq<|pv 1) (bv 2 pB.nd)<|aB<|kN g4 (dC (pv 0) rfl) (pv 2) d9 rfl)
   (aD (bj 3 pB.nd<|dy aw)
   (aD (de L9 rfl (z6 B.enumerate<|ai (dC (pv 0) rfl) aw) (mZ rfl<|fj (bv 4 pB.nd)<|fj (bv 5 pB.nd) kn) (aD (jv<|jP (pv 5) mw a1 hr<|ai (pv 1) aw)
   (aB<|jv<|vt NR OM PU CI (pv 3)<|ai (jP (pv 0) ni ao hr<|ai (pv 4)<|ai (pv 5) aw) aw)))
   (aB<|bu<|pv 3)))),?_⟩
 have E0:ay (but H Z) (L2.start ["self","facts","fact","found","number","loom"] [.ref a,v1]) [none,some (.lst<|c.map D.tup),none,none,none,none]:=fV (.raw (.dat r1 .nil)) _
 have ex:∀g∈dj T c,fR g:=λg hg=>by
  rcases (vh c T g).mp hg with z|z
  .exact hO.tok g z
  .exact (hO.pq g z).2
 have bl:=hO.all
 rw [LR] at bl
 refine gJ (M:=Z) (dG<|aG (i:=1) E0 rfl) lv λH1 s1=>?_
 refine ⟨λj O X=>X td=some (.dT<|cC<|dj T<|c.take j)/\(∀b u,b≠td->H b=some u->X b=some u)/\ap Z X/\ab (but H1 Z) (but X Z)/\O[0]?=some (some (.ref a))/\ay (but X Z) O [none,some (.lst<|c.map D.tup),none,none,none,none],
  ⟨s1 _ _ g3,λb u _ e=>s1 _ _ e,lv.same s1,ab.refl _,rfl,E0.same s1⟩,λj O X q3=>by obtain ⟨_,_,x,y,_⟩:=q3;exact ⟨y,x⟩,?_,?_⟩
 .rintro j d x O X X' hd ⟨ht,kX,lX,SX,j0,EX⟩ s2 rx
  rw [LO] at hd
  obtain ⟨g,hg,rfl⟩:=Mz.mp hd
  have ey:=LD hg
  obtain ⟨nJ,j4,rfl,h2,g5⟩:=rx.fe
  have ez:=(ax h2).2
  rw [lW (hO.pq g ey).2.1 g5] at ez
  have g6:but H1 Z a=some (.ins CW dx<|lO vr ll td):=(s1.but Z) _ _ ha
  have e0:=s2 _ _ (ax<|SX _ _ g6).2
  have g7:∀g∈dj T (c.take j),bV g:=λg hg=>by
   rcases (vh _ T g).mp hg with z|z
   .exact (hO.tok g z).1
   .exact (hO.pq g<|O2 z).2.1
  have d1:=Js T c j
  refine ⟨.ref a,(LB Z1).trans j0,a,CW,dx,_,.ref td,rfl,e0,TW.cl,TW.nT,rfl,.ref nJ,LM (by rw [EX.len];exact (show 2<6 by decide)),td,_,rfl,gt.t (s2 _ _ ht) ez (by rw [A3];exact cy Z4),?_⟩
  rw [yR (hO.pq g ey).2.1 g7]
  have g8:c.take (j+1)=c.take j++[g]:=by rw [Mm,hg];rfl
  have eb:∀o,but (upd X' td o) Z=but X' Z:=λo=>dD ev
  refine ⟨by rw [g8,JK];exact aR,λb u hb e=>by rw [aA hb];exact s2 _ _<|kX b u hb e,(lX.same s2).upd,by rw [eb];exact SX.trans<|s2.but Z,(LB Z1).trans j0,?_⟩
  rw [eb]
  exact (EX.same s2).off 2 _
 rintro j5 H2 ⟨bs,k2,l2,S2,g9,E2⟩
 rw [LA,MO] at bs
 have hc:ab (but H Z) (but H2 Z):=(s1.but Z).trans S2
 clear S2 s1 H1
 refine m4 (i:=3) l2 E2 Z8 ag (Mb _) λn vF he H3 o3 i3 n3 h3 r3 l3 k3 E3=>?_
 have ed:ab H2 H3:=λx o e=>(k3 x o e).2
 have a2:H2 n=none:=none_of (ab.refl H2) k3
 have hf:vF=[]:=by cases r3;rfl
 subst hf
 have e5:he[0]?=some (some (.ref a)):=(o3 0 Z1).trans g9
 have dc:ab (but H Z) (but H3 (n::Z)):=hc.trans<|ir a2 ed
 have bi:=c2.fD
 have K3:∀b u,b≠td->H b=some u->H3 b=some u:=λb u hb e=>ed _ _<|k2 b u hb e
 have hh:H n=none:=by
  cases qx:H n with
  |none=>rfl
  |some u=>
   by_cases z:n=td
   .rw [z,bs] at a2;cases a2
   .rw [k2 n u z qx] at a2;cases a2
 have e6:n≠td:=λz=>by rw [z,bs] at a2;cases a2
 have dd:=ed _ _ bs
 have eg:∀{x:Addr},H3 x=none->H x=none:=λ{x} e=>by
  cases qx:H x with
  |none=>rfl
  |some u=>
   by_cases z:x=td
   .rw [z,dd] at e;cases e
   .rw [K3 x u z qx] at e;cases e
 have hi:dk C CL H3 (n::Z) us ac l:=c2.frame (λos N x G=>Lv _<|bi os N x G) (λb u q4 e=>by obtain ⟨os,N,hb⟩:=q4;exact K3 b u (λz=>ew os N (by rw [<-z];exact hb)) e) dc
 have i2:=hO.len
 have e7:(fH I l c).length=l.length:=by
  unfold fH
  rw [LA,List.length_zip]
  omega
 generalize i4:dj T c=T1 at ex bs dd q bl
 have d2:∀(j:Nat) r U,I[j]?=some r->l[j]?=some U->(fH I l c)[j]?=some (r.1,fO<|bT U c):=λj r U e1 e2=>by
  unfold fH
  rw [LO,(PD (z:=(r,U))).mpr ⟨e1,e2⟩]
  rfl
 generalize hk:fH I l c=L at e7 q d2 bl
 have d1:∀j,bf 0 L T1=bf 0 (L.take j) T1++bf (0+(L.take j).length) (L.drop j) (T1++aI (bf 0 (L.take j) T1)):=λj=>by
  have:=uD (L.take j) (L.drop j) 0 T1
  rw [Oc] at this
  exact this
 have bt:∀j,T1.length+(bf 0 (L.take j) T1).length<=1000:=λj=>by
  have e:=MA List.length<|d1 j
  rw [LR] at e
  have e2:(aI<|bf 0 L T1).length=(bf 0 L T1).length:=by unfold aI;rw [LA]
  omega
 refine sC (M:=n::Z) (Be (li TW.cl TW.nL e5 (dc _ _ ha) rfl)<|dc _ _ g2) l3 λH4 s4=>?_
 refine ⟨λj J O X=>∃m uF,dk C CL X J us m ((l.take j).map (λU=>bT U c)++l.drop j)/\(∀os∈m,∀x∈os,(∃o∈ac,x∈o)\/H4 x=none)/\(∀b u,b≠td->b≠n->(∀os∈ac,b∉os)->H4 b=some u->X b=some u)/\ap J X/\(∀x∈n::Z,x∈J)/\(∀x∈J,x∈n::Z\/H4 x=none)/\X td=some (.dT<|cC<|T1++aI (bf 0 (L.take j) T1))/\X n=some (.lst uF)/\aC (but X J) uF ((bf 0 (L.take j) T1).map fx)/\ab (but H4 (n::Z)) (but X J)/\O[0]?=some (some (.ref a))/\O[3]?=some (some (.ref n))/\ay (but X J) O [none,some (.lst<|c.map D.tup),none,none,none,none],
  ⟨ac,[],?_,λos N x G=>.inl ⟨os,N,G⟩,λb u _ _ _ e=>e,l3.same s4,λx G=>G,λx G=>.inl G,?_,s4 _ _ h3,.nil,ab.refl _,e5,i3,E3.same s4⟩,λj J O X q5=>by obtain ⟨_,_,_,_,_,x,_,_,_,_,_,y,_⟩:=q5;exact ⟨y,x⟩,?_,?_⟩
 .show dk C CL H4 (n::Z) us ac ([]++l)
  rw [NK]
  exact hi.frame (λos N x G=>Lv _<|bi os N x G) (λb u _ e=>s4 _ _ e)<|s4.but _
 .show H4 td=some (.dT<|cC<|T1++[])
  rw [Mi];exact s4 _ _ dd
 .rintro j J x O X X' hj ⟨m,uF,a3,Y,kX,lX,an,bx,bk,b0,rF,SX,j0,j3,EX⟩ s5 ⟨TT,v,rfl,hl,hv⟩
  have ei:j<l.length:=by rw [<-c2.l1];exact hj
  have b6:=Ly ei
  generalize e8:l[j]=U at b6
  have di:=Ly (show j<I.length by omega)
  generalize I[j]'(show j<I.length by omega)=ru at di
  obtain ⟨hd,fa⟩:=ru
  obtain ⟨R,sz,hG,i5⟩:=hO.give j _ U di b6
  obtain ⟨fl,hm,hn⟩:=hO.dH U<|LD b6
  refine ⟨TT,_,rfl,bq.of (ax hl).2,rfl,_,[v],rfl,v,[],rfl,rfl,?_⟩
  have fn:=lX.same s5
  have d3:((l.take j).map (λU=>bT U c)++l.drop j)[j]?=some U:=by
   rw [Ma (by rw [LA,Mr];omega),LA,Mr,show j-min j l.length=0 by omega,List.getElem?_drop,Nat.add_zero]
   exact b6
  have d4:dk C CL X' J us m ((l.take j).map (λU=>bT U c)++l.drop j):=a3.frame a3.fD (λb u _ e=>s5 _ _ e)<|s5.but _
  obtain ⟨aj,dp,hu,fp,fr,d5⟩:=d4.get j U d3
  rw [hv] at hu
  cases hu
  have E5:ay (but X' J) ((O.set 4<|some (.int ((j:Nat):Int))).set 5<|some (.ref aj)) [none,some (.lst<|c.map D.tup),none,none,some (.int ((j:Nat):Int)),none]:=((EX.same s5).set 4 (.int _)).off 5 _
  have fs:=EX.len
  have c0:((O.set 4<|some (.int ((j:Nat):Int))).set 5<|some (.ref aj))[0]?=some (some (.ref a)):=(LB Z1).trans<|(LB Z1).trans j0
  have c3:((O.set 4<|some (.int ((j:Nat):Int))).set 5<|some (.ref aj))[3]?=some (some (.ref n)):=(LB Z1).trans<|(LB Z1).trans j3
  have c4:((O.set 4<|some (.int ((j:Nat):Int))).set 5<|some (.ref aj))[4]?=some (some (.int ((j:Nat):Int))):=(LB Z1).trans<|LM (by rw [fs];exact (show 4<6 by decide))
  have c5:((O.set 4<|some (.int ((j:Nat):Int))).set 5<|some (.ref aj))[5]?=some (some (.ref aj)):=LM (by rw [M8,fs];exact (show 5<6 by decide))
  generalize (O.set 4<|some<|V.int ((j:Nat):Int)).set 5 (some (.ref aj))=τ at E5 c0 c3 c4 c5
  obtain ⟨ft,c1,hp⟩:=E5.get 1 _ rfl
  obtain ⟨hs,kc,kd,hw,i7,i8,fv,jk⟩:=id fr
  refine ⟨.ref aj,c5,aj,hs,_,rfl,hw,rfl,ft,c1,J,dp,U,c,aj,ft,rfl,fn,fr,hp,λg hg=>(hO.pq g hg).1,hn,fl,hm,λk X6 n6 k6 l6 L6=>?_⟩
  have h0:td∈J:=an td<|Lv _ ev
  have f0:n∈J:=an n Lz
  have f1:H4 td≠none:=λz=>by rw [s4 _ _ dd] at z;cases z
  have f2:H4 n≠none:=λz=>by rw [s4 _ _ h3] at z;cases z
  have b7:∀{y:Addr},(∀o∈ac,y∉o)->H4 y≠none->∀os∈m,y∉os:=λ{y} h1 h2 os N hy=>by
   rcases Y os N y hy with ⟨o,am,w⟩|w
   .exact h1 o am w
   .exact h2 w
  have b8:=b7 ew f1
  have as:=b7 (λo N z=>by have:=bi o N n z;exact n3 this) f2
  have af:=LD fp
  have cd:∀x∈k.flatten,x∈aj::dp.flatten\/X' x=none:=λx G=>by
   obtain ⟨os,N,hy⟩:=Mv.mp G
   rcases n6 os N x hy with ⟨o,am,w⟩|w
   .exact .inl<|Lv _<|Mv.mpr ⟨o,am,w⟩
   .exact .inr w
  have ch:∀b u,b∉aj::dp.flatten->X' b=some u->X6 b=some u:=λb u hb e=>k6 b u (λz=>hb (by rw [z];exact Lz)) (λos N z=>hb<|Lv _<|Mv.mpr ⟨os,N,z⟩) e
  have ej:=d4.put fn d3 hv fp Lz cd ch L6
  have ek:ab (but X' J) (but X6<|k.flatten++J):=λb u e=>by
   obtain ⟨q1,q2⟩:=ax e
   rw [bh]
   .exact ch b u (λz=>q1<|d5 b z) q2
   .intro z
    rcases LY.mp z with z|z
    .rcases cd b z with w|w
     .exact q1<|d5 b w
     .rw [w] at q2;cases q2
    .exact q1 z
  have ea:((l.take j).map (λU=>bT U c)++l.drop j).set j (bT U c)=(l.take<|j+1).map (λU=>bT U c)++l.drop (j+1):=by
   have f3:((l.take j).map λU=>bT U c).length=j:=by rw [LA,Mr];omega
   rw [List.set_append_right _ _ Z4,f3,Qw,Nx ei,List.set_cons_zero,Mm,Ly ei,Me,Mw,e8]
   rfl
  rw [ea] at ej
  have f4:X6 td=some (.dT<|cC<|T1++aI (bf 0 (L.take j) T1)):=ch _ _ (b8 _ af)<|s5 _ _ bk
  have co:X6 n=some (.lst uF):=ch _ _ (as _ af)<|s5 _ _ b0
  have E6:=E5.mono ek
  have f5:ab (but H4 (n::Z)) (but X6<|k.flatten++J):=SX.trans<|(s5.but _).trans ek
  have em:ab (but H Z) (but X6<|k.flatten++J):=dc.trans<|(s4.but _).trans f5
  have ga:=rF.mono<|(s5.but _).trans ek
  obtain ⟨Mg,a0⟩:∃Mg:ZX,∀x,x∈Mg↔x∈k.flatten++J/\x∉aj::k.flatten:=⟨(k.flatten++J).filter λx=>decide (x∉aj::k.flatten),λx=>by rw [LP,Nk]⟩
  have a4:∀x∈Mg,x∈k.flatten++J:=λx G=>((a0 x).mp G).1
  have gb:ab (but X6<|k.flatten++J) (but X6 Mg):=dU a4
  have h4:iO C CL (but X6 Mg) (.ref aj) (bT U c):=L6.rep a4 (λz=>((a0 aj).mp z).2 Lz) λos N x G z=>((a0 x).mp z).2<|Lv _<|Mv.mpr ⟨os,N,G⟩
  have cs:∀{y:Addr},X' y≠none->y∉aj::dp.flatten->y∉aj::k.flatten:=λ{y} h1 h2 z=>by
   rcases LK.mp z with w|w
   .exact h2 (by rw [w];exact Lz)
   .rcases cd y w with u|u
    .exact h2 u
    .exact h1 u
  have bc:td∈Mg:=(a0 td).mpr ⟨LH _ h0,cs (λz=>by rw [s5 _ _ bk] at z;cases z)<|b8 _ af⟩
  have ec:n∈Mg:=(a0 n).mpr ⟨LH _ f0,cs (λz=>by rw [s5 _ _ b0] at z;cases z)<|as _ af⟩
  have en:∀g∈T1++aI (bf 0 (L.take j) T1),fR g:=λg hg=>by
   rcases LY.mp hg with z|z
   .exact ex g z
   .obtain ⟨y,hy,rfl⟩:=LS.mp z
    obtain ⟨_,i,qq,hq,_,ww,ep,e1,_⟩:=t6 _ _ _ y hy
    have eq:(fH I l c)[i]?=some qq:=by
     rw [hk]
     have h5:=(Lx.mp hq).1
     rw [Mr] at h5
     rw [Op Z4] at hq
     exact hq
    unfold fH at eq
    rw [LO] at eq
    obtain ⟨⟨r',h6⟩,hz,rfl⟩:=Mz.mp eq
    obtain ⟨e3,e4⟩:=PD.mp hz
    obtain ⟨R',ke,G',_⟩:=hO.give i r' h6 e3 e4
    rw [e1]
    exact G'.nc ww ep
  have kk:τ.length=6:=E5.len
  refine ⟨.ref n,c3,(show gX K "list" (.ref n) _ from .inl ⟨rfl,uF,aP.of co⟩),.ref a,c0,a,dx,_,rfl,(ax<|em _ _ ha).2,rfl,.int ((j:Nat):Int),c4,.ref aj,c5,Mg,bT U c,a,dx,vr,ll,td,I,j,hd,fa,T1++aI (bf 0 (L.take j) T1),R,sz,.ref aj,rfl,λx G=>l6 x<|a4 x G,(em.trans gb) _ _ ha,bc,f4,en,rr.mono<|em.trans gb,di,h4,?_,hG,?_,λp ds X7 k7 gd h7 r7 gh=>?_⟩
  .show ((U.steps).map _).length<=100
   rw [LA];exact fl
  .have:=bt j
   have e2:(aI<|bf 0 (L.take j) T1).length=(bf 0 (L.take j) T1).length:=by unfold aI;rw [LA]
   rw [LR,e2]
   have:sizeLine=16777216:=by decide
   omega
  have gl:=d2 j _ U di b6
  have h8:L.take (j+1)=L.take j++[(hd,fO<|bT U c)]:=by rw [Mm,gl];rfl
  have er:(L.take j).length=j:=by rw [Mr];omega
  have ct:bf 0 (L.take<|j+1) T1=bf 0 (L.take j) T1++cz hd j (fO<|bT U c) (T1++aI (bf 0 (L.take j) T1)):=by
   rw [h8,uD,er,MY]
   show _++(cz hd j _ _++[])=_
   rw [Mi]
  have km:n≠p:=λz=>by rw [<-z,co] at gd;cases gd
  have gn:X7 n=some (.lst uF):=k7 _ _ e6 co
  have dt:=bt<|j+1
  rw [ct,LR] at dt
  have ih:=r7.length
  rw [LA] at ih
  have it:=ga.length
  rw [LA] at it
  refine ⟨n,p,uF,ds,rfl,rfl,gn,h7,Nc<|cy Z4,?_⟩
  have L7:dk C CL X7 (k.flatten++J) us (m.set j (aj::k.flatten)) ((l.take<|j+1).map (λU=>bT U c)++l.drop (j+1)):=by
   have es:∀os∈m.set j (aj::k.flatten),td∉os:=λos N=>by
    rcases Ny N with w|w
    .exact b8 os w
    .rw [w];exact ((a0 td).mp bc).2
   refine ej.frame ej.fD (λb u q6 e=>by obtain ⟨os,N,hb⟩:=q6;exact k7 b u (λz=>es os N (by rw [<-z];exact hb)) e) λb u e=>?_
   obtain ⟨q1,q2⟩:=ax e
   rw [bh q1]
   exact k7 b u (λz=>q1 (by rw [z];exact a4 td bc)) q2
  have et:ab (but X6<|k.flatten++J) (but X7<|k.flatten++J):=λb u e=>by
   obtain ⟨q1,q2⟩:=ax e
   rw [bh q1]
   exact k7 b u (λz=>q1 (by rw [z];exact a4 td bc)) q2
  have go:n∈k.flatten++J:=a4 n ec
  have eb:but (upd X7 n (.lst<|uF++ds)) (k.flatten++J)=but X7 (k.flatten++J):=dD go
  have iv:∀x∈aj::k.flatten,∀ts,X7 x≠some (.tup ts):=by
   have ix:=L7.get j (bT U c) (by
    rw [<-ea,LM (by rw [LR,LA,Mr,Oi];omega)])
   obtain ⟨a',j1,_,e2,A',_⟩:=ix
   rw [LM (by rw [a3.l2,LR,LA,Mr,Oi];omega)] at e2
   have e2:=LQ e2
   rw [e2]
   exact A'.IH
  have i0:aC (but X7<|k.flatten++J) ds ((cz hd j (fO<|bT U c)<|T1++aI (bf 0 (L.take j) T1)).map fx):=by
   have h1:=r7.mono<|dU (H:=X7) (M:=Mg) (M':=p::Mg) λx G=>Lv _ G
   have h2:=aC.pR iv (vv λd i1=>by
    obtain ⟨y,hy,rfl⟩:=LS.mp i1
    obtain ⟨_,_,ww,ep,e1,_⟩:=oN _ _ y hy
    exact J9 y (by rw [e1];exact (hG.nc ww ep).1)) h1
   rw [kb (M':=k.flatten++J)] at h2
   .exact h2
   .intro x
    rw [LY]
    constructor
    .rintro (w|w)
     .rcases LK.mp w with z|z
      .rw [z];exact LH _ fv
      .exact LL _ z
     .exact a4 x w
    .intro w
     by_cases z:x∈aj::k.flatten
     .exact .inl z
     .exact .inr<|(a0 x).mpr ⟨w,z⟩
  have gp:∀{x:Addr},X' x=none->(∃o∈ac,x∈o)\/H4 x=none:=λ{x} e=>by
   by_cases z:∃o∈ac,x∈o
   .exact .inl z
   .cases qx:H4 x with
    |none=>exact .inr rfl
    |some u=>
     by_cases z1:x=td
     .rw [z1,s5 _ _ bk] at e;cases e
     .by_cases z2:x=n
      .rw [z2,s5 _ _ b0] at e;cases e
      .have:=s5 _ _ (kX x u z1 z2 (λo N G=>z ⟨o,N,G⟩) qx)
       rw [e] at this;cases this
  refine ⟨k.flatten++J,m.set j (aj::k.flatten),uF++ds,?_,λos N x G=>?_,λb u hb d0 gs e=>?_,?_,λx G=>LH _<|an x G,λx G=>?_,?_,aR,?_,?_,c0,c3,?_⟩
  .have eu:∀os∈m.set j (aj::k.flatten),n∉os:=λos N=>by
    rcases Ny N with w|w
    .exact as os w
    .rw [w];exact ((a0 n).mp ec).2
   refine L7.frame L7.fD (λb u ⟨os,N,hb⟩ e=>?_) (by rw [eb];exact ab.refl _)
   rw [aA λz=>eu os N (by rw [<-z];exact hb)]
   exact e
  .rcases Ny N with w|w
   .exact Y os w x G
   .rw [w] at G
    rcases LK.mp G with z|z
    .exact Y _ af x (by rw [z];exact Lz)
    .rcases cd x z with y|y
     .exact Y _ af x y
     .exact gp y
  .rw [aA d0]
   refine k7 b u hb<|ch b u (λz=>?_)<|s5 _ _<|kX b u hb d0 gs e
   rcases Y _ af b z with ⟨o,am,w⟩|w
   .exact gs o am w
   .rw [e] at w;cases w
  .have:ap (k.flatten++J) X7:=λx G z=>by
    cases qx:X6 x with
    |none=>exact l6 x G qx
    |some u=>
     by_cases w:x=td
     .rw [w,gh] at z;cases z
     .rw [k7 x u w qx] at z;cases z
   exact this.upd
  .rcases LY.mp G with z|z
   .rcases cd x z with y|y
    .rcases Y _ af x y with ⟨o,am,w⟩|w
     .exact .inl<|Lv _<|bi o am x w
     .exact .inr w
    .rcases gp y with ⟨o,am,w⟩|w
     .exact .inl<|Lv _<|bi o am x w
     .exact .inr w
   .exact bx x z
  .rw [aA<|MC e6,gh,ct,oo,Mw]
  .rw [eb,ct,Me]
   exact (ga.mono et).append i0
  .rw [eb];exact f5.trans et
  .rw [eb]
   exact ((E6.mono et).drop 4)
 .rintro J O X ⟨m,uF,a3,Y,kX,lX,an,bx,bk,b0,rF,SX,j0,j3,EX⟩
  have gy:us.length=l.length:=c2.l1
  rw [gy,MO,List.drop_length,Mi] at a3
  rw [gy,<-e7,MO] at bk rF
  refine ⟨.ref n,j3,?_⟩
  have bd:∀{x:Addr},H4 x=none->H x=none:=λ{x} e=>eg<|gR s4 e
  have f0:n∈J:=an n Lz
  have as:∀os∈m,n∉os:=λos N hy=>by
   rcases Y os N n hy with ⟨o,am,w⟩|w
   .exact n3<|bi o am n w
   .rw [s4 _ _ h3] at w;cases w
  have Zs:∀x∈J.filter (λx=>decide<|x≠n),x∈J:=λx G=>(LP.mp G).1
  have g0:n∉J.filter (λx=>decide<|x≠n):=λz=>by simp at z
  refine q (.ref n) X (J.filter λx=>decide<|x≠n) m (λb u hb d0 e=>?_) (λx G=>?_) (λx G=>?_) (λx G=>lX x<|Zs x G) ?_ (λos N x G=>?_) bk ?_
  .have nb:b≠n:=λz=>by rw [z,hh] at e;cases e
   exact kX b u hb nb d0<|s4 _ _<|K3 b u hb e
  .refine LP.mpr ⟨an x<|Lv _ G,LV λz=>?_⟩
   rw [z] at G;exact n3 G
  .rcases bx x (Zs x G) with z|z
   .rcases LK.mp z with w|w
    .rw [w] at G;exact absurd G g0
    .exact .inl w
   .exact .inr<|bd z
  .refine a3.frame (λos N x G=>LP.mpr ⟨a3.fD os N x G,LV λz=>as os N (by rw [<-z];exact G)⟩) (λb u _ e=>e)<|dU Zs
  .rcases Y os N x G with z|z
   .exact .inl z
   .exact .inr<|bd z
  .exact .lst (by rw [bh g0];exact b0)<|rF.mono<|dU Zs
end
end a5
namespace a5
open PySem L2 FL
section
variable {P:Program}{w:World}{K:PySem.W.Frag}{mg:Str->Option Value}{base:Heap}{f:Addr}{fd:FuncData}
def FC:bW ["self","rules"] ["self","rules"] (ba mQ):=⟨rfl,rfl,rfl,Z9,rfl,Z9,Z9⟩
def HC(F:aF K "__init__" "Weaving.__init__" mQ f fd)(J:oW K CW)(t:jo P w K mg base 7 CL "Loom" ["self","body"] (vD C CL)):bp P w K mg base bz 9 f fd ["self","rules"] (Av C CL CW):=by
 refine F.ok FC (λvs H Q E q0=>by obtain ⟨_,_,_,_,_,e,_⟩:=q0;rw [e];rfl) λas A ac s H vs Q E hr h=>?_
 obtain ⟨M,m,x,g,d,rfl,hx,lv,a0,r1,az,a1,q⟩:=h
 refine ⟨_,(aD (fL (pv 0) (pv 1) rfl)
   (aD (fL (pv 0) (fM ["rule"] [] 1 (cq<|pv 1) (λ_ _ _ _ _=>(bv 0<|ky _)) (λ_ _ _ _ _=>jw) λ_ _ _ _ _=>(IC t hr<|ai (nW (pv 0) aM) aw)) rfl)
   (aB<|fL (pv 0) tQ rfl))),?_⟩
 have af:al (but H (x::M)) d (.lst<|m.map a6):=al.eW hx rfl r1
 refine ⟨d,rfl,.ref x,rfl,x,CW,g,[],rfl,hx,J.cl,J.nR,(show 0<1000 by decide),?_⟩
 have N:but (upd H x (.ins CW g<|cV "rules" d [])) (x::M)=but H (x::M):=dD Lz
 have l1:ap (x::M) (upd H x (.ins CW g<|cV "rules" d [])):=(lv.upd).cons aR
 have E1:ay (but (upd H x (.ins CW g<|cV "rules" d [])) (x::M)) (L2.start ["self","rules"] [.ref x,d]) [none,some (.lst<|m.map a6)]:=by
  rw [N];exact fV (.raw (.dat af .nil)) _
 have n:(upd H x (.ins CW g<|cV "rules" d [])) x=some (.ins CW g<|cV "rules" d []):=aR
 have K1:∀b u,b≠x->H b=some u->(upd H x (.ins CW g<|cV "rules" d [])) b=some u:=λb u r e=>by rw [aA r];exact e
 have N1:∀{b:Addr},(upd H x (.ins CW g<|cV "rules" d [])) b=none->H b=none:=λ{b} e=>by
  cases qb:H b with
  |none=>rfl
  |some u=>
   by_cases z:b=x
   .rw [z,n] at e;cases e
   .rw [K1 b u z qb] at e;cases e
 generalize upd H x (.ins CW g<|cV "rules" d [])=H1 at N l1 E1 n K1 N1
 refine FK (M:=x::M) (dG<|aG E1 rfl) l1 az Z4 λD us o L k2 B O hn l2 aj=>?_
 have am:=k2 _ _ n
 have an:x≠D:=λz=>by rw [<-z,n] at B;cases B
 refine ⟨.ref x,rfl,x,CW,g,_,rfl,am,J.cl,J.nL,(show 1<1000 by decide),λi j=>⟨.ref x,rfl,x,CW,g,[("rules",d),("looms",.ref D)],rfl,?_,J.cl,J.nT,(show 2<1000 by decide),?_⟩⟩
 .rw [aA λz=>by rw [<-z,aR] at j;cases j]
  exact aR
 have T:i≠x:=λz=>by rw [z,aR] at j;cases j
 have a:L i=none:=by rw [aA T] at j;exact j
 have U:i≠D:=λz=>by rw [z,O] at a;cases a
 have Y:∀{b:Addr},L b=none->H b=none:=λ{b} e=>N1<|gR (λc u q=>k2 c u q) e
 have k:∀b,(upd (upd (upd L x (.ins CW g<|cV "looms" (.ref D)<|cV "rules" d [])) i (.dT [])) x (.ins CW g<|cV "told" (.ref i) [("rules",d),("looms",.ref D)])) b=if b=x then some (.ins CW g<|lO d D i) else if b=i then some (.dT []) else L b:=λb=>by
  by_cases z:b=x
  .rw [LJ z,z];exact aR
  .rw [LG z,aA z]
   by_cases v:b=i
   .rw [LJ v,v];exact aR
   .rw [LG v,aA v,aA z]
 generalize upd (upd (upd L x (.ins CW g<|cV "looms" (.ref D)<|cV "rules" d [])) i (.dT [])) x (.ins CW g<|cV "told" (.ref i) [("rules",d),("looms",.ref D)])=H5 at k
 have G:∀os∈o,∀y∈os,y≠x/\y≠i:=λos l y p=>by
  refine ⟨λz=>?_,λz=>?_⟩
  .have:=(hn os l y p).1
   rw [z,n] at this;cases this
  .refine l2 y (LL _<|Mv.mpr ⟨os,l,p⟩) ?_
   rw [z];exact a
 have I:∀b u,b≠x->L b=some u->H5 b=some u:=λb u r e=>by
  rw [k,LG r,LG λz=>by rw [z,a] at e;cases e];exact e
 have a2:i∉M:=λz=>lv i z<|Y a
 have a3:x∉o.flatten:=λz=>by
  obtain ⟨os,l,p⟩:=Mv.mp z
  exact (G os l x p).1 rfl
 refine q D i us o H5 (λb u r e=>I b u r<|k2 _ _<|K1 b u r e) (by rw [k,LJ rfl]) (Y a) (by rw [k,LG T,LJ rfl]) (λos l y p=>⟨N1 (hn os l y p).1,(G os l y p).2⟩) ?_ (λb r z=>?_) ?_
 .rw [bh,k,LG<|MC an,LG<|MC U]
  .exact O
  .intro z
   rcases LK.mp z with w|w
   .exact U w.symm
   .rcases LY.mp w with w|w
    .obtain ⟨os,l,p⟩:=Mv.mp w
     exact (hn os l D p).2 rfl
    .exact lv D w<|N1 B
 .rw [k] at z
  by_cases z1:b=x
  .rw [LJ z1] at z;cases z
  .rw [LG z1] at z
   by_cases v:b=i
   .rw [LJ v] at z;cases z
   .rw [LG v] at z
    rcases LK.mp r with w|w
    .exact v w
    .refine l2 b ?_ z
     rcases LY.mp w with w|w
     .exact LL _ w
     .exact LH _<|Lv _ w
 .refine aj.frame (λos l y p=>Lv _<|LL _<|Mv.mpr ⟨os,l,p⟩) (λb u q3 e=>by obtain ⟨os,l,r⟩:=q3;exact I b u (G os l b r).1 e) λb u e=>?_
  obtain ⟨q1,q2⟩:=ax e
  have ao:b≠x:=λz=>q1<|LH _ (by rw [z];exact Lz)
  rw [bh]
  .exact I b u ao q2
  .intro z
   rcases LK.mp z with w|w
   .rw [w,a] at q2;cases q2
   .rcases LY.mp w with w|w
    .exact q1<|LL _ w
    .exact q1<|LH _<|Lv _ w
end
end a5
namespace a5
open PySem L2 FL
section
variable {P:Program}{w:World}{K:PySem.W.Frag}{mg:Str->Option Value}{base:Heap}{f:Addr}{fd:FuncData}
def KC:bW ["_law_script","_law_k"] ["_law_script","_law_k"] (ba sU):=⟨rfl,rfl,rfl,Z9,rfl,Z9,Z9⟩
def Li (F:aF K "_law_at" "_law_at" sU f fd)(B:Bl mg):bp P w K mg base bz 1 f fd ["_law_script","_law_k"] (bw qH):=by
 refine F.ok KC (eP (n:=2) λo d p=>by obtain ⟨l,k,e,_⟩:=p;rw [e];rfl) λr A b s H I Q E t h=>?_
 obtain ⟨M,o,d,u,x,⟨l,k,rfl,y,rfl⟩,q⟩:=h
 have J:=dR t
 refine ⟨_,(aD (cj (cA nD (pv 1)<|cY B<|pv 0) (aB<|bu<|bg (pv 0)<|pv 1) cu)
   (aB<|bu aM)),?_⟩
 have E0:=gH x ["_law_script","_law_k"]
 refine im u E0 (cw<|nq (aG E0 rfl)<|ff<|aa (aG E0 rfl) ag) (λe j c m g=>?_) λe j c m g=>?_
 .have a:=LW e
  have i:l[k.toNat]?=some (lJ l k):=by
   unfold lJ
   rw [LJ a,List.getD,Ly Z4]
   rfl
  exact eA m (cN (ox y i) (aG g rfl)<|aG g rfl) λv z C G=>q v z (c.trans C) G
 .have a:=MB e
  have i:lJ l k=.int 0:=by unfold lJ;rw [LG a]
  rw [i] at q
  exact q (.int 0) j c (.int 0)
def DE:bW ["_law_found"] ["_law_found"] (ba qG):=⟨rfl,rfl,rfl,Z9,rfl,Z9,Z9⟩
def Db (F:aF K "_law_whole" "_law_whole" qG f fd)(B:Bl mg):bp P w K mg base bz 1 f fd ["_law_found"] (bw sI):=by
 refine F.ok DE (eP (n:=1) λb d c=>by obtain ⟨x,e,_⟩:=c;rw [e];rfl) λg A a s H k Q E l h=>?_
 obtain ⟨M,b,d,i,j,⟨x,rfl,rfl⟩,q⟩:=h
 refine ⟨_,(aB<|bu<|nz (gg B (pv 0) B.int OS)<|pO<|z7<|gg B (pv 0) B.bool PyProof.Rows.boot_bool),?_⟩
 have E0:=gH j ["_law_found"]
 exact eA i (fK (oC<|aG E0 rfl) λ_=>BR<|Ef<|aG E0 rfl) q
def KA:bW ["_law_script"] ["_law_script"] (ba uu):=⟨rfl,rfl,rfl,Z9,rfl,Z9,Z9⟩
def Je (F:aF K "_law_mixed" "_law_mixed" uu f fd)(B:Bl mg):bp P w K mg base bz 1 f fd ["_law_script"] (bw Au):=by
 refine F.ok KA (eP (n:=1) λz d C=>by obtain ⟨x,e,_⟩:=C;rw [e];rfl) λG A b s H u Q E hr h=>?_
 obtain ⟨M,z,d,I,J,⟨a,rfl,L,rfl⟩,q⟩:=h
 refine ⟨_,(aB<|bu<|fM ["_law_script","_law_k"] [0] 1 (nj rfl B.range<|ai (cY B<|pv 0) aw) (λ_ _ _ _ _=>(bv 1 (show (["_law_script","_law_k"]:ZY).Nodup from by decide+kernel))) (λ_ _ _ _ _=>jw) λ_ _ _ _ _=>(cW eI (cW Bw (cW ju (nW (pv 0)<|pv 1)<|cW Bw aM<|pv 1) aM) aM)),?_⟩
 have E0:=gH J ["_law_script"]
 obtain ⟨N,c,O⟩:=E0.get 0 _ rfl
 let g:D->D:=λd=>match d with
  |.int j=>.int<|(a.getD j.toNat 0+7919*j)*48271%1000003
  |_=>.av
 have m:=gm (caps:=aY [0] 1) (i:=1) (p:=λ_=>true) (f:=g) (tt:=jD) (te:=bY (rI (λ_ j=>0<j) λi j=>.int<|i%j) (bY (rI mV λi j=>.int<|i*j) (bY (f9 λi j=>.int<|i+j) (bY (gf K) (aW 0)<|aW 1)<|bY (rI mV λi j=>.int<|i*j) (tC (.int 7919))<|aW 1)<|tC (.int 48271))<|tC (.int 1000003))
  (CN (n:=a.length) Z4<|aa ((ff (K:=K) (l:=a.map D.int)<|aa (aG (i:=0) E0 rfl) ag).eq Z8) ag)
  (λT v d _ _ _=>jS) (λT v d U Y _ r=>?_) (by simp only [LA,Pl];exact cy Z4)
 .refine eA I (m.eq ?_) q
  have e1:(List.filter (λ_=>true)<|(List.range a.length).map λ(k:Nat)=>D.int<|0+k)=(List.range a.length).map λ(k:Nat)=>D.int (0+k):=MG.mpr λ_ _=>rfl
  rw [e1]
  show D.lst _=D.lst _
  congr 1
  unfold lP
  rw [Mn,Mn]
  refine Md λk _=>?_
  show D.int ((a.getD (0+(k:Int)).toNat 0+7919*(0+(k:Int)))*48271%1000003)=D.int _
  have o:(0+(k:Int)).toNat=k:=by omega
  rw [o,Qv]
 .obtain ⟨k,hk,rfl⟩:=LS.mp Y
  have t:k<a.length:=Qo.mp hk
  have h0:((aY [0] 1<|L2.start ["_law_script"] u).set 1<|some v)[0]?=some (some N):=by simp [aY,c]
  have y:((aY [0] 1<|L2.start ["_law_script"] u).set 1<|some v)[1]?=some (some v):=by simp [aY]
  have ix:dO (a.map D.int) (0+(k:Int))=some (.int<|a.getD (0+(k:Int)).toNat 0):=by
   have o:(0+(k:Int)).toNat=k:=by omega
   refine ox Z4 ?_
   rw [o,LO,List.getD,Ly t]
   rfl
  exact eQ Z1 (Bh (.inr ⟨by decide,by decide⟩) (kq (cN ix (cH h0<|O.mono U)<|cH y r)<|Bh (.inl ⟨by decide,by decide⟩) aq<|cH y r) aq) aq
def yZ:bW ["_law_found","_law_part"] ["_law_found"] (ba ug):=⟨rfl,rfl,rfl,Z9,rfl,Z9,Z9⟩
def JC (F:aF K "_law_is_fact" "_law_is_fact" ug f fd)(B:Bl mg)(a:aV P w K mg base 1 "_law_whole" ["_law_found"] (bw sI)):bp P w K mg base bz 2 f fd ["_law_found"] (bw zf):=by
 refine F.ok yZ (eP (n:=1) λt d u=>by obtain ⟨_,e,_⟩:=u;rw [e];rfl) λy A k s H T Q E p h=>?_
 obtain ⟨M,t,d,C,I,⟨_,rfl,⟨r,l,rfl,J⟩,rfl⟩,q⟩:=h
 have L:=dR p
 refine ⟨_,(aD (cj (iG (eF<|df<|gg B (pv 0) B.tuple M3)<|iG (cA (fC (by exact L)) (cY B<|pv 0) aM)<|jp<|eF<|df<|gg B (bg (pv 0) aM) B.str Ob).pt (aB<|bu d9) cu)
   (aD (de L9 rfl (cq<|pv 0) (bv 1 yZ.nd)<|aB<|cj (iY (eF<|df<|gg B (pv 1) B.str Ob)<|iU<|eF<|df<|bG a p<|ai (pv 1) aw).pt (aB<|bu d9) cu)
   (aB<|bu d9))),?_⟩
 have N:Bx H M [] _ H [Sl.d (.tup (.str r::l)),.no]:=gW C I ["_law_found","_law_part"]
 refine a8.run N ?_
 refine iN (λG m e=>iC (b:=false) (c:=false) (br.eq (eB<|dh<|qa<|e.v rfl) rfl) λ_=>iC (b:=false) (c:=false) (br.eq (cw<|iL (h9 (K:=K)<|aa (e.v rfl) ag) aq)<|Mc (by simp;omega)) λ_=>br.eq (eB<|dh<|jO<|b9 (ds:=.str r::l) (d:=.str r) gZ (e.v rfl) aq) rfl) ?_
 refine bI<|iR (i:=1) (eU.of λG m e=>jI<|e.vd rfl) (λ_ g=>∃s,g=[Sl.d (.tup (.str r::l)),s]) ⟨_,rfl⟩ (λU Y hk j x g O o=>?_) λg o=>?_
 .obtain ⟨s,rfl⟩:=o
  have cG:x.sc=true:=by
   rcases LK.mp (LD O) with z|z
   .rw [z];rfl
   .exact J x z
  exact eO (b:=false) (λG m e=>br.eq (ii (eB<|dh<|jO<|e.v rfl) λ_=>eB<|dh<|bN ⟨x,rfl,rfl⟩<|aa (e.v rfl) ag)<|z8 cG) (λz=>nomatch z) λ_=>fW<|fc ⟨_,rfl⟩
 .obtain ⟨s,rfl⟩:=o
  dsimp only
  exact fk (λG m e=>qB (b:=true)) q
def qE:bW ["_law_atoms","_law_blanks","_law_atom","_law_part"] ["_law_atoms"] (ba sj):=⟨rfl,rfl,rfl,Z9,rfl,Z9,Z9⟩
def JR (F:aF K "_law_blanks_in" "_law_blanks_in" sj f fd)(B:Bl mg):bp P w K mg base bz 1 f fd ["_law_atoms"] (bw x3):=by
 refine F.ok qE (eP (n:=1) λds d q0=>by obtain ⟨_,e,_⟩:=q0;rw [e];rfl) λao A T s H vs Q E hr h=>?_
 obtain ⟨M,ds,d,lv,rs,⟨g,rfl,t,rfl⟩,q⟩:=h
 have hu:=dR hr
 refine ⟨_,(aD (bj 1 qE.nd<|dy aw)
   (aD (de L9 rfl (cq<|pv 0) (bv 2 qE.nd)<|aB<|de L9 rfl (cq<|nU sS (pv 2) (mW aM) pL) (bv 3 qE.nd)<|aB<|cj (iY (cA (Fk hu) (pv 3)<|eE<|ai gc<|ai gc<|ai gc aw)<|iU<|cA (xN hu) (pv 3)<|pv 1).pt (aB<|jY (pv 1)<|pv 3) cu)
   (aB<|bu<|pv 1))),?_⟩
 have b0:Bx H M [] _ H [Sl.d<|cf g,.no,.no,.no]:=gW lv rs ["_law_atoms","_law_blanks","_law_atom","_law_part"]
 refine a8.run b0<|bI<|BX (i:=1) ?_
 have dH:∀(u:ZW) (l:ZZ) (j:Nat),u.length<=100->(∀a∈u,a.length<=10)->l.length<=10->(ak (aT [] u)<|l.take j).length<=1010:=λu l j h1 h2 h3=>by
  have g1:=zh (B:=[]) h2
  have g2:=jT (l.take j)<|aT [] u
  rw [Mr] at g2
  rw [NI] at g1
  omega
 refine bI<|iR (i:=2) (ds:=g.map D.tup) (eU.of λG O e=>jI<|e.vd rfl) (λj m=>∃U p,m=[Sl.d<|cf g,.l<|(aT []<|g.take j).map D.str,U,p]) ⟨_,_,rfl⟩ (λB' sB hk j x m hj r=>?_) λm r=>?_
 .obtain ⟨U,p,rfl⟩:=r
  rw [LO] at hj
  obtain ⟨a,ha,rfl⟩:=Mz.mp hj
  have o:=LD ha
  obtain ⟨C,Y⟩:=t.ne a o
  have ac:=t.dH.2 a o
  obtain ⟨y,l,rfl⟩:∃y l,a=y::l:=by
   cases a with
   |nil=>exact absurd rfl C
   |cons y l=>exact ⟨y,l,rfl⟩
  have I:l.length<=10:=by rw [Mq] at ac;omega
  have J:aT [] (g.take<|j+1)=ak (aT []<|g.take j) l:=by rw [Hn g j ha,Gi C Y];rfl
  have af:∀z∈g.take j,z∈g:=λz hz=>O2 hz
  have aj:(g.take j).length<=100:=by rw [Mr];have:=t.dH.1;omega
  refine iR (i:=3) (ds:=l) (eU.of λG O e=>jI<|tw (k:=1) (l:=y::l) Z1 (Nat.succ_pos _)<|e.vd rfl) (λi m=>∃p,m=[Sl.d<|cf g,.l<|(ak (aT []<|g.take j)<|l.take i).map D.str,.d (.tup (y::l)),p]) ⟨_,rfl⟩ (λB2 a0 a1 i x am hx r=>?_) λam r=>?_
  .obtain ⟨p,rfl⟩:=r
   have L:x∈l:=LD hx
   have cG:=t.sc _ o x<|Lv _ L
   have N:aJ x=decide (x∈dn):=t.bl _ o x L
   have c:=KL (B:=aT []<|g.take j) hx
   have hf:=dH (g.take j) l i aj (λz hz=>t.dH.2 z<|af z hz) I
   generalize ak (aT []<|g.take j) (l.take i)=Bj at c hf
   rw [GI _ _ cG,N] at c
   refine eO (b:=decide (x∈dn)&& !decide (x∈Bj.map D.str)) (λG O e=>ii (cw<|IU (λy hy=>fu ((by decide:∀y∈dn,y.sc=true) y hy) cG) (e.v rfl)<|aQ (ds:=dn) (aa aN<|aa aN<|aa aN ag) Z1) λ_=>cw<|zH (λy hy=>by obtain ⟨b,_,rfl⟩:=LS.mp hy;exact fu rfl cG) (e.v rfl)<|e.v rfl) (λz=>?_) λz=>?_
   .rw [LJ z] at c
    have an:x=.str x.name:=by
     refine jl ?_
     rw [N];exact (O0.mp z).1
    refine BD (j:=1) (d:=x) rfl (λG O e=>e.v rfl) (oq cG) (by rw [LA];exact N3 hf Z1) ?_
    rw [show Bj.map D.str++[x]=(Bj++[x.name]).map D.str by rw [Me,an];rfl,<-c]
    exact fc ⟨_,rfl⟩
   .rw [LG (by rw [z];exact LI)] at c
    rw [<-c]
    exact fW<|fc ⟨_,rfl⟩
  .obtain ⟨p,rfl⟩:=r
   rw [MO,<-J]
   exact fc ⟨_,_,rfl⟩
 .obtain ⟨U,p,rfl⟩:=r
  rw [LA,MO]
  exact fk (λG O e=>e.v rfl) q
def vm:bW ["_law_script","_law_seed","_law_pools"] ["_law_script"] (ba uj):=⟨rfl,rfl,rfl,Z9,rfl,Z9,Z9⟩
def Ib (F:aF K "_law_pool_by" "_law_pool_by" uj f fd)(B:Bl mg)(a:aV P w K mg base 1 "_law_at" ["_law_script","_law_k"] (bw qH)):bp P w K mg base bz 2 f fd ["_law_script"] (bw xh):=by
 refine F.ok vm (eP (n:=1) λo d p=>by obtain ⟨_,e,_⟩:=p;rw [e];rfl) λr A k s H O Q E g h=>?_
 obtain ⟨M,o,d,t,u,⟨b,rfl,rfl⟩,q⟩:=h
 have x:=dR g
 refine ⟨_,(aD (cj (cA (fC (by exact x)) (cW eI (bG a g<|ai (pv 0)<|ai aM aw) aM) aM) (aB<|bu<|fM ["_law_k"] [] 1 (nj rfl B.range<|ai aM aw) (λ_ _ _ _ _=>(bv 0<|ky _)) (λ_ _ _ _ _=>jw) λ_ _ _ _ _=>(pv 0)) cu)
   (aD (bj 1 vm.nd<|cW eI (bG a g<|ai (pv 0)<|ai aM aw) aM)
   (aD (bj 2 vm.nd<|dy<|ai (dy<|ai gc<|ai aM<|ai gc aw)<|ai (dy<|ai gc<|ai aM<|ai (iQ iM aM) aw)<|ai (dy<|ai (cW Jw aM aM)<|ai aM<|ai (iQ iM aM) aw) aw)
   (aB<|bu<|bg (cW p6 (pv 2)<|dy<|ai (dy<|ai gc<|ai (cW ju (pv 1) aM)<|ai (cW GQ (iQ iM aM)<|pv 1) aw) aw)<|cW eI (cW gK (bG a g<|ai (pv 0)<|ai aM aw) aM) aM)))),?_⟩
 have y:Bx H M [] _ H [Sl.d (.lst<|b.map D.int),.no,.no]:=gW t u ["_law_script","_law_seed","_law_pools"]
 refine a8.run y<|bI<|eO (λG j e=>cw<|iL (eQ Z1 (bN (mi b 0)<|aa (e.v rfl)<|aa aq ag) aq) aq) (λz=>?_) λz=>?_
 .have m:i9 b=tG:=by unfold i9;rw [LJ<|LW z]
  rw [m] at q
  exact fk (λG j e=>ae.eq (e.comp (λ_=>true) (λd=>d) (CN (n:=10) Z1<|aa aq ag) (λ_ _ _ _ _=>jS) (λT C d U _ I=>I.v rfl)<|cy Z8) (by rw [MG.mpr λ_ _=>rfl,Ol];rfl)) q
 .obtain ⟨d,J,L,N⟩:=fG (l:=nY<|b.getD 1 0%1000) (n:=4) (b.getD 0 0/4) Z1 rfl
  obtain ⟨c,rfl,_⟩:=BC (Qb (b.getD 1 0) (show (1000:Int)≠0 by decide)) d L
  have m:i9 b=c:=by unfold i9;rw [LG<|MB z,<-N];rfl
  rw [m] at q
  refine fW ?_
  dsimp only
  refine bI<|dZ (i:=1) (d:=.int<|b.getD 1 0%1000) (λG j e=>eQ Z1 (bN (mi b 1)<|aa (e.v rfl)<|aa aq ag) aq) rfl ?_
  refine bI<|gI (i:=2) (d:=.lst [.lst [.str "ashenashenashen",.int 0,.str "ashenashxnashen"],.lst [.str "ashenashenashen",.int 2,.int (-1)],.lst [.int<|10^(30:Int).toNat,.int 0,.int (-1)]]) (λG j e=>fy<|aa (fy<|aa aN<|aa aq<|aa aN ag)<|aa (fy<|aa aN<|aa aq<|aa (iK aq) ag)<|aa (fy<|aa (JS ⟨by decide,by decide,by decide⟩ aq aq)<|aa aq<|aa (iK aq) ag) ag) ?_
  exact fk (λG j e=>cN (ds:=nY<|b.getD 1 0%1000) J (pr (xs:=[.lst [.str "ashenashenashen",.int 0,.str "ashenashxnashen"],.lst [.str "ashenashenashen",.int 2,.int (-1)],.lst [.int<|10^(30:Int).toNat,.int 0,.int (-1)]]) (ys:=[.lst [.str "qu",.int<|b.getD 1 0%1000+4,.int (-4-b.getD 1 0%1000)]]) (by show 3+1<=1000;decide) (e.v rfl)<|fy<|aa (fy<|aa aN<|aa (kq (e.v rfl) aq)<|aa (K0 (iK aq)<|e.v rfl) ag) ag)<|eQ Z1 (gS ⟨by decide,by decide⟩ (bN (mi b 0)<|aa (e.v rfl)<|aa aq ag) aq) aq) q
end
end a5
namespace a5
open PySem L2 FL
section
variable {P:Program}{w:World}{K:PySem.W.Frag}{mg:Str->Option Value}{base:Heap}{f:Addr}{fd:FuncData}
def G9:bW ["_law_atom","_law_things"] ["_law_atom","_law_things"] (ba tP):=⟨rfl,rfl,rfl,Z9,rfl,Z9,Z9⟩
def GK (F:aF K "_law_fill_in" "_law_fill_in" tP f fd)(B:Bl mg):bp P w K mg base bz 1 f fd ["_law_atom","_law_things"] (iX rm):=by
 refine F.ok G9 (xz (n:=2) λds d q0=>by obtain ⟨_,_,e,_⟩:=q0;rw [e];rfl) (λcdv A outer s H vs Q E hr h=>?_)
 obtain ⟨M,ds,d,lv,rs,⟨a,S,rfl,hne,cG,hS,hz,rfl⟩,q⟩:=h
 have hu1:=fE hr
 obtain ⟨v0,v1,rfl,r0,⟨p,rfl,hp⟩⟩:=xy rs
 have r0:al (but H M) v0 (.tup a):=r0
 refine ⟨_,(aB (bu (sV B (cW p6 (dy (ai (bg (pv 0) aM) aw)) (fM ["_law_things","_law_part"] [1] 1 (cq (nU sS (pv 0) (mW aM) pL)) (λ_ _ _ _ _=>(bv 1 (show (["_law_things","_law_part"]:ZY).Nodup from by decide+kernel))) (λ_ _ _ _ _=>jw) (λ_ _ _ _ _=>(ue hu1 (pv 0) (pv 1) (pv 1) ⟨rfl,rfl,rfl,rfl⟩))))))),?_⟩
 have E0:ay (but H M) (L2.start ["_law_atom","_law_things"] [v0,.ref p]) [some (.tup a),none]:=fV (.dat r0 (.raw .nil)) ["_law_atom","_law_things"]
 obtain ⟨x,r,rfl⟩:∃x r,a=x::r:=by
  cases a with
  |nil=>exact absurd rfl hne
  |cons x r=>exact ⟨x,r,rfl⟩
 rw [Mq] at hz
 refine eA lv (ae.eq (rO (aa (pr (xs:=[x]) (ys:=r.map (cb S)) (by rw [LA,MQ];omega) (fy (aa (b9 (d:=x) gZ (aG E0 rfl) aq) ag)) (ae.eq (gm (caps:=aY [1] 1) (i:=1) (p:=λ_=>true) (f:=cb S) (tt:=jD) (te:=pE (aW 0) (aW 1) (aW 1)) (jI (ds:=r) (tw (k:=1) (l:=x::r) Z1 (Nat.succ_pos _) (aG E0 rfl))) (λG' v d _ _ _=>jS) (λG' v d sG hd _ rv=>?_) (cy Z4)) (by rw [MG.mpr λ_ _=>rfl]))) ag)) rfl) q
 exact Cq (i:=0) (j:=1) (a:=p) (by simp [aY,L2.start]) (sG _ _ hp) (cG d (Lv _ hd)) hS (cH (by simp [aY]) rv)
def DL:bW ["_law_atom","_law_there"] ["_law_atom","_law_there"] (ba ro):=⟨rfl,rfl,rfl,Z9,rfl,Z9,Z9⟩
def DM (F:aF K "_law_true" "_law_true" ro f fd)(B:Bl mg)(g:aV P w K mg base 1 "_law_whole" ["_law_found"] (bw sI)):bp P w K mg base bz 2 f fd ["_law_atom","_law_there"] (spS ym):=by
 refine F.ok DL (xt (n:=2) λT d U=>by obtain ⟨_,_,e,_⟩:=U;rw [e];rfl) λY A I s H vs Q E p h=>?_
 obtain ⟨M,T,d,lv,rs,⟨a,l,rfl,⟨J,cG,o⟩,rfl⟩,q⟩:=h
 have L:=dR p
 have N:=fE p
 refine ⟨_,(aD (cj (cA (fC (by exact L)) (bg (pv 0) aM) gc) (aB<|bu<|iZ (ij (by exact L)) (bg (pv 0) aM)<|bg (pv 0) aM) cu)
   (aD (cj (cA (fC (by exact L)) (bg (pv 0) aM) gc) (aB<|bu<|nz (bG g p<|ai (bg (pv 0) aM) aw)<|nz (bG g p<|ai (bg (pv 0) aM) aw)<|pO<|iZ nD (bg (pv 0) aM)<|bg (pv 0) aM) cu)
   (aB<|bu<|J4<|qc (by exact N) (pv 0)<|pv 1))),?_⟩
 have b0:Bx H M [] _ H [Sl.d (.tup a),.td l]:=xl lv rs (by simp [Sl.own]) ["_law_atom","_law_there"]
 obtain ⟨x,r,rfl⟩:∃x r,a=x::r:=by
  cases a with
  |nil=>exact absurd rfl J
  |cons x r=>exact ⟨x,r,rfl⟩
 have t:=cG x Lz
 refine a8.run b0<|bI<|eO (λG m e=>cw<|lL (d1:=x) (d2:=.str "unlike") (fu t rfl).1 (fu t (b:=.str "unlike") rfl).2 (b9 (d:=x) gZ (e.v rfl) aq) aN) (λz=>?_) λz=>fW ?_
 .have e:=LW z
  subst e
  obtain ⟨r0,y,z,O⟩:=o (by unfold aE;simp)
  obtain ⟨_,rfl⟩:=NJ O
  have k:fb (l.map (·.1)) [.str "unlike",y,z]= !decide (y=z):=rfl
  rw [k] at q
  have u:=cG y Z8
  have C:=cG z Z8
  exact fk (λG m e=>nl (fu u C).1 (fu u C).2 (b9 (d:=y) rfl (e.v rfl) aq)<|b9 (d:=z) rfl (e.v rfl) aq) q
 have n1:=MB z
 dsimp only
 refine bI<|eO (λG m e=>cw<|lL (d1:=x) (d2:=.str "less") (fu t rfl).1 (fu t (b:=.str "less") rfl).2 (b9 (d:=x) gZ (e.v rfl) aq) aN) (λz=>?_) λz=>fW ?_
 .have e:=LW z
  subst e
  obtain ⟨r0,y,z,O⟩:=o (by unfold aE;simp)
  obtain ⟨_,rfl⟩:=NJ O
  have u:=cG y Z8
  have C:=cG z Z8
  cases y with
  |int i=>
   cases z with
   |int j=>
    have k:fb (l.map (·.1)) [.str "less",.int i,.int j]=decide (i<j):=rfl
    rw [k] at q
    exact fk (λG m e=>(fK (b:=true) (c:=decide<|i<j) (bN ⟨.int i,rfl,rfl⟩<|aa (b9 (d:=.int i) rfl (e.v rfl) aq) ag) λ_=>(fK (b:=true) (bN ⟨.int j,rfl,rfl⟩<|aa (b9 (d:=.int j) rfl (e.v rfl) aq) ag) λ_=>nq (b9 (d:=.int i) rfl (e.v rfl) aq)<|b9 (d:=.int j) rfl (e.v rfl) aq).eq (by rw [OX])).eq (by rw [OX])) q
   |str j=>
    have k:fb (l.map (·.1)) [.str "less",.int i,.str j]=false:=rfl
    rw [k] at q
    exact fk (λG m e=>fK (b:=true) (c:=false) (bN ⟨.int i,rfl,rfl⟩<|aa (b9 (d:=.int i) rfl (e.v rfl) aq) ag) λ_=>fK (b:=false) (c:=false) (bN ⟨.str j,rfl,rfl⟩<|aa (b9 (d:=.str j) rfl (e.v rfl) aq) ag) λz=>nomatch z) q
   |_=>simp [D.sc] at C
  |str i=>
   have k:fb (l.map (·.1)) [.str "less",.str i,z]=false:=by cases z<;>rfl
   rw [k] at q
   exact fk (λG m e=>fK (b:=false) (c:=false) (bN ⟨.str i,rfl,rfl⟩<|aa (b9 (d:=.str i) rfl (e.v rfl) aq) ag) λz=>nomatch z) q
  |_=>simp [D.sc] at u
 have n2:=MB z
 have k:fb (l.map (·.1)) (x::r)=decide (x::r∈l.map (·.1)):=by
  unfold fb
  rw [LG (show¬(x::r).headD .av=.str "unlike" from n1),LG (show¬(x::r).headD .av=.str "less" from n2)]
 rw [k] at q
 dsimp only
 exact fk (λG m e=>e.Ir rfl cG<|e.v rfl) q
end
end a5
namespace L2
open PySem PySem.Spec PyProof.Rows
structure WE (X:Cx)(e:Expr)(t:TE):Prop where
 h:PE X e t
structure WA (X:Cx)(es:List Expr)(t:TA):Prop where
 h:PA X es t
structure WS (X:Cx)(st:Stmt)(t:TS):Prop where
 h:PS X st t
structure rJ (X:Cx)(l:List Stmt)(t:TS):Prop where
 h:gw X l t
section
variable {X:Cx}{e a b c:Expr}{es:List Expr}{te ta tb:TE}{t:TA}{st:Stmt}{cc:List Stmt}{ts us:TS}{pos:Pos}
def aU{j}:WE X (.Constant (.str x) j pos) (tC (.str x)):=⟨gc⟩
def bC{j}:WE X (.Constant (.int i) j pos) (tC (.int i)):=⟨aM⟩
def wv(i:Nat)(f:X.N[i]?=some x:=by rfl)(g:pK X.env.scope x:=by first|exact Or.inl rfl|exact Or.inr (Or.inl rfl)|exact Or.inr (Or.inr rfl))(h:(x==("__debug__":Str))=false:=by decide)(d:(x==("__classdict__":Str))=false:=by decide):WE X (.Name x pos) (aW i):=⟨zX f g h d⟩
def aX:WA X [] bA:=⟨aw⟩
def ah (d:WE X e te)(f:WA X es t)(g:starEach (e::es) X.env=(false,eval e X.env)::starEach es X.env:=by rfl):WA X (e::es) (bo te t):=⟨ai d.h f.h g⟩
def a7 {d}(h:WA X es t):WE X (.Tuple es d pos) (qM t):=⟨eE h.h⟩
def oE (h:WA X es t):WE X (.List es pos) (jF t):=⟨dy h.h⟩
def dQ(f:cK X (binaryOp d) r)(g:WE X a ta)(i:WE X b tb):WE X (.BinOp a d b pos) (bY r ta tb):=⟨cW f g.h i.h⟩
def gx (ha:WE X a ta)(hb:WE X b tb)(hs:qT b:=by intro _ _;rfl):WE X (.Subscript a b pos) (bY (gf X.K) ta tb):=⟨FL.bg ha.h hb.h hs⟩
def AS (h:WS X st ts):rJ X [st] ts:=⟨aB h.h⟩
def fi (h:WS X st ts)(d:rJ X cc us):rJ X (st::cc) (n0 ts us):=⟨aD h.h d.h⟩
def JN (h:WE X e te):WS X (.Return (some e) pos) (o0 te):=⟨bu h.h⟩
def iV{i:Nat}(f:X.N.Nodup)(g:X.N[i]?=some x)(j:Loc X.env.scope x)(k:WE X e te)(l:swapsWith e (some (.Name x d)) pos.line X.env=pure false:=by rfl)(m:X.fn x=true\/X.env.scope.names.lookup x=some .local:=by first|exact .inl rfl|exact .inr rfl|assumption):
  WS X (.Assign [.Name x d] e pos) (eY te (cv i)):=⟨AX f g j k.h l m⟩
end
section
variable {P:Program}{w:World}{K:PySem.W.Frag}{mg:Str->Option Value}{base:Heap}
def aF.AE{st:Stmt}{i:Sp}(F:aF K x b st f m)(S:bW N g (ba st))(j:∀d H Q E,i d H Q E->d.length=g.length)
  (e:∀(c:Value) (A:Around) (a:List Env) (s:Shared) (H:Hp) (d:List V) (Q:VK) (E:XK),cS k (A.deeper (envOfC b (ba st) s.heap.objs.size f c))->i d H Q E->
   ∃t,rJ (me bz P w K mg base N b (ba st) f c A a s H E).oX (dA st) t/\t {nx:=λ_ n=>Q .av n,rt:=Q} (start N d) H):bp P w K mg base bz (k+1) f m g i:=
 F.ok S j λc A a s H d Q E o l=>let ⟨t,h,q⟩:=e c A a s H d Q E o l;⟨t,h.h,q⟩
end
end L2
namespace a5
open PySem L2 FL
section
variable {P:Program}{w:World}{K:PySem.W.Frag}{mg:Str->Option Value}{base:Heap}{f:Addr}{fd:FuncData}
abbrev AO:List Str:=["_law_seed","_law_pool","_law_first","_law_second","_law_third","_law_one","_law_two","_law_parts","_law_words","_law_left","_law_right","_law_both","_law_head"]
def jL:bW AO ["_law_seed","_law_pool","_law_first","_law_second","_law_third"] (ba uc):=⟨rfl,rfl,rfl,Z9,rfl,Z9,Z9⟩
def J3 (F:aF K "_law_menu_by" "_law_menu_by" uc f fd)(B:Bl mg):bp P w K mg base bz 1 f fd ["_law_seed","_law_pool","_law_first","_law_second","_law_third"] (jB zR B5):=by
 refine F.AE jL (qF (n:=5) λds q0=>by obtain ⟨_,_,_,_,_,e,_⟩:=q0;rw [e];rfl) λbx A am s H vs Q E hr h=>?_
 obtain ⟨M,ds,lv,rs,⟨p,m,a,b,c,rfl,L⟩,q⟩:=h
 refine ⟨_,(fi (iV (i:=5) jL.nd rfl (Or.inl rfl)<|gx (wv 1)<|dQ eI (wv 0) ⟨cY B<|pv 1⟩)
   (fi (iV (i:=6) jL.nd rfl (Or.inl rfl)<|gx (wv 1)<|dQ eI (dQ ju (dQ gK (wv 0) ⟨cY B<|pv 1⟩) bC) ⟨cY B<|pv 1⟩)
   (fi (iV (i:=7) jL.nd rfl (Or.inl rfl)<|oE<|ah aU<|ah aU<|ah aU<|ah (wv 5) aX)
   (fi (iV (i:=8) jL.nd rfl (Or.inl rfl)<|oE<|ah aU<|ah aU<|ah aU aX)
   (fi (iV (i:=9) jL.nd rfl (Or.inl rfl)<|a7<|ah (gx (wv 8)<|dQ eI (wv 2) bC)<|ah (gx (wv 7)<|dQ eI (dQ gK (wv 2) bC) bC)<|ah (gx (wv 7)<|dQ eI (dQ gK (wv 2) bC) bC) aX)
   (fi (iV (i:=10) jL.nd rfl (Or.inl rfl)<|a7<|ah (gx (wv 8)<|dQ eI (wv 3) bC)<|ah (gx (wv 7)<|dQ eI (dQ gK (wv 3) bC) bC)<|ah (gx (wv 7)<|dQ eI (dQ gK (wv 3) bC) bC) aX)
   (fi (iV (i:=11) jL.nd rfl (Or.inl rfl)<|dQ yi ⟨nU sS (pv 9) (mW aM) pL⟩ ⟨nU sS (pv 10) (mW aM) pL⟩)
   (fi (iV (i:=12) jL.nd rfl (Or.inl rfl)<|a7<|ah (gx (wv 8)<|dQ eI (wv 4) bC)<|ah (gx (wv 11)<|dQ eI (dQ gK (wv 4) bC) bC)<|ah (gx (wv 11)<|dQ eI (dQ gK (wv 4) bC) bC) aX)
   (AS<|JN<|oE<|ah (a7<|ah (a7<|ah aU<|ah aU<|ah aU aX)<|ah (a7<|ah (a7<|ah aU<|ah aU<|ah aU aX) aX) aX)<|ah (a7<|ah (a7<|ah aU<|ah aU<|ah aU aX)<|ah (a7<|ah (a7<|ah aU<|ah aU<|ah aU aX)<|ah (a7<|ah aU<|ah aU<|ah aU aX) aX) aX)<|ah (a7<|ah (a7<|ah aU<|ah aU aX)<|ah (a7<|ah (a7<|ah aU<|ah aU aX)<|ah (a7<|ah aU<|ah aU<|ah aU aX) aX) aX)<|ah (a7<|ah (a7<|ah aU<|ah aU<|ah aU aX)<|ah (a7<|ah (a7<|ah aU<|ah aU<|ah aU aX) aX) aX)<|ah (a7<|ah (a7<|ah aU<|ah aU<|ah aU aX)<|ah (a7<|ah (a7<|ah aU<|ah aU<|ah aU aX)<|ah (a7<|ah aU<|ah aU<|ah aU aX)<|ah (a7<|ah aU<|ah aU<|ah aU aX) aX) aX)<|ah (a7<|ah (a7<|ah aU aX)<|ah (a7<|ah (a7<|ah aU<|ah (wv 5) aX)<|ah (a7<|ah aU<|ah aU<|ah aU aX) aX) aX)<|ah (a7<|ah (a7<|ah aU<|ah aU<|ah aU aX)<|ah (a7<|ah (a7<|ah aU<|ah aU<|ah aU aX)<|ah (a7<|ah aU<|ah aU<|ah aU aX) aX) aX)<|ah (a7<|ah (a7<|ah aU<|ah (wv 6) aX)<|ah (a7<|ah (a7<|ah aU aX) aX) aX)<|ah (a7<|ah (a7<|ah aU<|ah aU<|ah aU aX)<|ah (a7<|ah (a7<|ah aU<|ah aU<|ah aU aX)<|ah (a7<|ah aU<|ah aU<|ah aU aX)<|ah (a7<|ah aU<|ah aU<|ah aU aX) aX) aX)<|ah (a7<|ah (a7<|ah aU<|ah aU<|ah aU aX)<|ah (a7<|ah (a7<|ah aU<|ah aU<|ah aU aX)<|ah (a7<|ah aU<|ah aU<|ah aU aX) aX) aX)<|ah (a7<|ah (a7<|ah aU<|ah aU<|ah (wv 5) aX)<|ah (a7<|ah (a7<|ah aU<|ah aU aX)<|ah (a7<|ah aU<|ah (wv 6)<|ah bC aX) aX) aX)<|ah (a7<|ah (a7<|ah aU<|ah (wv 5) aX)<|ah (a7<|ah (a7<|ah aU<|ah bC<|ah bC aX) aX) aX)<|ah (a7<|ah (wv 12)<|ah (a7<|ah (wv 9)<|ah (wv 10) aX) aX)<|ah (a7<|ah (wv 12)<|ah (a7<|ah (wv 9)<|ah (a7<|ah aU<|ah (gx (wv 11) bC)<|ah (gx (wv 11) bC) aX)<|ah (wv 10) aX) aX) aX))))))))),?_⟩
 have b0:Bx H M [] _ H [Sl.d (.int p),.d (.lst m),.d (.int a),.d (.int b),.d (.int c),.no,.no,.no,.no,.no,.no,.no,.no]:=gW lv rs AO
 obtain ⟨n,N,h0,b6⟩:∃n:Nat,m.length=n/\0<n/\n<=10:=⟨_,rfl,by rcases L.len with z|z<;>omega,by rcases L.len with z|z<;>omega⟩
 obtain ⟨g,o1,o2,_⟩:=fG (l:=m) (n:=n) p h0 N
 obtain ⟨J,t1,t2,_⟩:=fG (l:=m) (n:=n) (p/(n:Int)+1) h0 N
 refine a8.run b0<|bI<|dZ (i:=5) (d:=g) (λG I e=>cN o1 (e.v rfl)<|eQ Z4 (e.v rfl)<|(ff (K:=K)<|aa (e.v rfl) ag).eq (by rw [N])) (oq (L.gp g o2).1) ?_
 dsimp only
 refine bI<|dZ (i:=6) (d:=J) (λG I e=>cN t1 (e.v rfl)<|eQ Z4 (kq (gS ⟨by omega,by omega⟩ (e.v rfl)<|(ff (K:=K)<|aa (e.v rfl) ag).eq (by rw [N])) aq)<|(ff (K:=K)<|aa (e.v rfl) ag).eq (by rw [N])) (oq (L.gp J t2).1) ?_
 dsimp only
 refine bI<|gI (i:=7) (d:=.lst [.str "X",.str "Xy",.str "Z",g]) (λG I e=>fy<|aa aN<|aa aN<|aa aN<|aa (e.vd rfl) ag) ?_
 dsimp only
 refine bI<|gI (i:=8) (d:=.lst<|ig.map D.str) (λG I e=>fy (aa aN<|aa aN<|aa aN ag) Z1) ?_
 have O:∀x∈[D.str "X",.str "Xy",.str "Z",g],x∈m\/x∈dn:=λx j=>by
  simp only [LK,Mj,ME] at j
  rcases j with rfl|rfl|rfl|rfl
  .exact .inr (by simp [dn])
  .exact .inr (by simp [dn])
  .exact .inr (by simp [dn])
  .exact .inl o2
 have o:∀x∈[D.str "X",.str "Xy",.str "Z",g],x.sc=true:=λx j=>(O x j).elim (λz=>(L.gp x z).1) λz=>(pU x z).1
 obtain ⟨_,an,ao,_⟩:=fG (l:=ig.map D.str) (n:=3) a Z1 rfl
 obtain ⟨wl,as,rfl⟩:=LS.mp ao
 obtain ⟨u,a0,T,_⟩:=fG (l:=[D.str "X",.str "Xy",.str "Z",g]) (n:=4) (a/3) Z1 rfl
 obtain ⟨r,a1,U,_⟩:=fG (l:=[D.str "X",.str "Xy",.str "Z",g]) (n:=4) (a/12) Z1 rfl
 dsimp only
 refine bI<|dZ (i:=9) (d:=.tup [.str wl,u,r]) (λG I e=>aQ<|aa (cN (ds:=ig.map D.str) an (e.v rfl)<|eQ Z1 (e.v rfl) aq)<|aa (cN a0 (e.v rfl)<|eQ Z1 (gS ⟨by decide,by decide⟩ (e.v rfl) aq) aq)<|aa (cN a1 (e.v rfl)<|eQ Z1 (gS ⟨by decide,by decide⟩ (e.v rfl) aq) aq) ag) (iy λx j=>?_) ?_
 .simp only [LK,Mj,ME] at j
  rcases j with rfl|rfl|rfl
  .rfl
  .exact o _ T
  .exact o _ U
 obtain ⟨_,a2,a3,_⟩:=fG (l:=ig.map D.str) (n:=3) b Z1 rfl
 obtain ⟨wr,a4,rfl⟩:=LS.mp a3
 obtain ⟨t,bc,Y,_⟩:=fG (l:=[D.str "X",.str "Xy",.str "Z",g]) (n:=4) (b/3) Z1 rfl
 obtain ⟨y,bd,ac,_⟩:=fG (l:=[D.str "X",.str "Xy",.str "Z",g]) (n:=4) (b/12) Z1 rfl
 dsimp only
 refine bI<|dZ (i:=10) (d:=.tup [.str wr,t,y]) (λG I e=>aQ<|aa (cN (ds:=ig.map D.str) a2 (e.v rfl)<|eQ Z1 (e.v rfl) aq)<|aa (cN bc (e.v rfl)<|eQ Z1 (gS ⟨by decide,by decide⟩ (e.v rfl) aq) aq)<|aa (cN bd (e.v rfl)<|eQ Z1 (gS ⟨by decide,by decide⟩ (e.v rfl) aq) aq) ag) (iy λx j=>?_) ?_
 .simp only [LK,Mj,ME] at j
  rcases j with rfl|rfl|rfl
  .rfl
  .exact o _ Y
  .exact o _ ac
 have C:∀x∈[u,r,t,y],x∈[D.str "X",.str "Xy",.str "Z",g]:=λx j=>by
  simp only [LK,Mj,ME] at j
  rcases j with rfl|rfl|rfl|rfl
  .exact T
  .exact U
  .exact Y
  .exact ac
 dsimp only
 refine bI<|dZ (i:=11) (d:=.tup [u,r,t,y]) (λG I e=>B9 (xs:=[u,r]) (ys:=[t,y]) Z8 (tw (k:=1) (l:=[.str wl,u,r]) Z1 Z8<|e.v rfl)<|tw (k:=1) (l:=[.str wr,t,y]) Z1 Z8<|e.v rfl) (iy λx j=>o x<|C x j) ?_
 obtain ⟨_,bi,bk,_⟩:=fG (l:=ig.map D.str) (n:=3) c Z1 rfl
 obtain ⟨wh,bl,rfl⟩:=LS.mp bk
 obtain ⟨h1,bs,af,_⟩:=fG (l:=[u,r,t,y]) (n:=4) (c/3) Z1 rfl
 obtain ⟨h2,bt,aj,_⟩:=fG (l:=[u,r,t,y]) (n:=4) (c/12) Z1 rfl
 dsimp only
 refine bI<|dZ (i:=12) (d:=.tup [.str wh,h1,h2]) (λG I e=>aQ<|aa (cN (ds:=ig.map D.str) bi (e.v rfl)<|eQ Z1 (e.v rfl) aq)<|aa (b9 bs (e.v rfl)<|eQ Z1 (gS ⟨by decide,by decide⟩ (e.v rfl) aq) aq)<|aa (b9 bt (e.v rfl)<|eQ Z1 (gS ⟨by decide,by decide⟩ (e.v rfl) aq) aq) ag) (iy λx j=>?_) ?_
 .simp only [LK,Mj,ME] at j
  rcases j with rfl|rfl|rfl
  .rfl
  .exact o _<|C _ af
  .exact o _<|C _ aj
 dsimp only
 refine fk (d:=.lst<|(u8 g J [.str wl,u,r] [.str wr,t,y] [.str wh,h1,h2] r t).map a6) (λG I e=>ae.eq (fy<|aa (aQ<|aa (aQ<|aa aN<|aa aN<|aa aN ag)<|aa (aQ<|aa (aQ<|aa aN<|aa aN<|aa aN ag) ag) ag)<|aa (aQ<|aa (aQ<|aa aN<|aa aN<|aa aN ag)<|aa (aQ<|aa (aQ<|aa aN<|aa aN<|aa aN ag)<|aa (aQ<|aa aN<|aa aN<|aa aN ag) ag) ag)<|aa (aQ<|aa (aQ<|aa aN<|aa aN ag)<|aa (aQ<|aa (aQ<|aa aN<|aa aN ag)<|aa (aQ<|aa aN<|aa aN<|aa aN ag) ag) ag)<|aa (aQ<|aa (aQ<|aa aN<|aa aN<|aa aN ag)<|aa (aQ<|aa (aQ<|aa aN<|aa aN<|aa aN ag) ag) ag)<|aa (aQ<|aa (aQ<|aa aN<|aa aN<|aa aN ag)<|aa (aQ<|aa (aQ<|aa aN<|aa aN<|aa aN ag)<|aa (aQ<|aa aN<|aa aN<|aa aN ag)<|aa (aQ<|aa aN<|aa aN<|aa aN ag) ag) ag)<|aa (aQ<|aa (aQ<|aa aN ag)<|aa (aQ<|aa (aQ<|aa aN<|aa (e.v rfl) ag)<|aa (aQ<|aa aN<|aa aN<|aa aN ag) ag) ag)<|aa (aQ<|aa (aQ<|aa aN<|aa aN<|aa aN ag)<|aa (aQ<|aa (aQ<|aa aN<|aa aN<|aa aN ag)<|aa (aQ<|aa aN<|aa aN<|aa aN ag) ag) ag)<|aa (aQ<|aa (aQ<|aa aN<|aa (e.v rfl) ag)<|aa (aQ<|aa (aQ<|aa aN ag) ag) ag)<|aa (aQ<|aa (aQ<|aa aN<|aa aN<|aa aN ag)<|aa (aQ<|aa (aQ<|aa aN<|aa aN<|aa aN ag)<|aa (aQ<|aa aN<|aa aN<|aa aN ag)<|aa (aQ<|aa aN<|aa aN<|aa aN ag) ag) ag)<|aa (aQ<|aa (aQ<|aa aN<|aa aN<|aa aN ag)<|aa (aQ<|aa (aQ<|aa aN<|aa aN<|aa aN ag)<|aa (aQ<|aa aN<|aa aN<|aa aN ag) ag) ag)<|aa (aQ<|aa (aQ<|aa aN<|aa aN<|aa (e.v rfl) ag)<|aa (aQ<|aa (aQ<|aa aN<|aa aN ag)<|aa (aQ<|aa aN<|aa (e.v rfl)<|aa aq ag) ag) ag)<|aa (aQ<|aa (aQ<|aa aN<|aa (e.v rfl) ag)<|aa (aQ<|aa (aQ<|aa aN<|aa aq<|aa aq ag) ag) ag)<|aa (aQ<|aa (e.v rfl)<|aa (aQ<|aa (e.v rfl)<|aa (e.v rfl) ag) ag)<|aa (aQ<|aa (e.v rfl)<|aa (aQ<|aa (e.v rfl)<|aa (aQ<|aa aN<|aa (b9 (ds:=[u,r,t,y]) (d:=r) rfl (e.v rfl) aq)<|aa (b9 (ds:=[u,r,t,y]) (d:=t) rfl (e.v rfl) aq) ag)<|aa (e.v rfl) ag) ag) ag) rfl) λv H' s' r'=>q _ v H' ⟨p,m,a,b,c,_,rfl,rfl,rfl,Ds L o2 t2 as a4 bl (λx j=>O x<|C x j) λx j=>?_,rfl⟩ s' r'
 simp only [LK,Mj,ME] at j
 rcases j with rfl|rfl
 .exact af
 .exact aj
end
end a5
namespace a5
open PySem L2 FL
section
variable {P:Program}{w:World}{K:PySem.W.Frag}{mg:Str->Option Value}{base:Heap}{f:Addr}{fd:FuncData}
def kT:List (List Nat):=[[0,1,2],[0,6,5],[1,0,4],[3,8,9],[9,0,6],[3,9,2],[0,5,7],[10,3,2],[11,2,10],[12,0,3],[13,1,0],[12,13,2]]
def je (l:List Nat):D:=.tup (l.map λn=>D.int (n:Nat))
def Fz:∀l∈kT,l.length=3/\∀x∈l,x<14:=by decide
abbrev BJ:List Str:=["_law_script","_law_pool","_law_seed","_law_more","_law_menu","_law_threes","_law_three","_law_cells","_law_rules","_law_k","_law_way","_law_one","_law_two","_law_rule"]
def eR:bW BJ ["_law_script"] (ba qQ):=⟨rfl,rfl,rfl,Z9,rfl,Z9,Z9⟩
def Ei (F:aF K "_law_rules_by" "_law_rules_by" qQ f fd)(B:Bl mg)(o:aV P w K mg base 1 "_law_at" ["_law_script","_law_k"] (bw qH))(t:aV P w K mg base 2 "_law_pool_by" ["_law_script"] (bw xh))(u:aV P w K mg base 1 "_law_menu_by" ["_law_seed","_law_pool","_law_first","_law_second","_law_third"] (jB zR B5)):bp P w K mg base bz 3 f fd ["_law_script"] (jB yo AA):=by
 refine F.AE eR (qF (n:=1) λds q0=>by obtain ⟨_,e,_⟩:=q0;rw [e];rfl) λc2 A bi s H vs Q E T h=>?_
 obtain ⟨M,ds,lv,J,⟨b,rfl,c3⟩,q⟩:=h
 have hu:=dR T
 refine ⟨_,(fi ⟨bj 1 eR.nd<|bG t T<|ai (pv 0) aw⟩
   (fi ⟨bj 2 eR.nd<|bG o T<|ai (pv 0)<|ai aM aw⟩
   (fi ⟨bj 3 eR.nd<|dy<|ai (bG o T<|ai (pv 0)<|ai aM aw)<|ai (bG o T<|ai (pv 0)<|ai aM aw)<|ai (bG o T<|ai (pv 0)<|ai aM aw) aw⟩
   (fi ⟨bj 4 eR.nd<|bG u T<|ai (cW gK (pv 2) aM)<|ai (pv 1)<|ai (bg (pv 3) aM)<|ai (bg (pv 3) aM)<|ai (bg (pv 3) aM) aw⟩
   (fi (iV (i:=5) eR.nd rfl (Or.inl rfl)<|oE<|ah (a7<|ah bC<|ah bC<|ah bC aX)<|ah (a7<|ah bC<|ah bC<|ah bC aX)<|ah (a7<|ah bC<|ah bC<|ah bC aX)<|ah (a7<|ah bC<|ah bC<|ah bC aX)<|ah (a7<|ah bC<|ah bC<|ah bC aX)<|ah (a7<|ah bC<|ah bC<|ah bC aX) aX)
   (fi (iV (i:=5) eR.nd rfl (Or.inl rfl)<|dQ p6 (wv 5)<|oE<|ah (a7<|ah bC<|ah bC<|ah bC aX)<|ah (a7<|ah bC<|ah bC<|ah bC aX)<|ah (a7<|ah bC<|ah bC<|ah bC aX) aX)
   (fi (iV (i:=6) eR.nd rfl (Or.inl rfl)<|gx (dQ p6 (wv 5)<|oE<|ah (a7<|ah bC<|ah bC<|ah bC aX)<|ah (a7<|ah bC<|ah bC<|ah bC aX)<|ah (a7<|ah bC<|ah bC<|ah bC aX) aX)<|dQ eI (wv 2) bC)
   (fi ⟨bj 7 eR.nd<|nU AQ (pv 0) (mW aM)<|mW aM⟩
   (fi ⟨bj 8 eR.nd<|dy aw⟩
   (fi ⟨de L9 rfl (nj rfl B.range<|ai (cY B<|pv 7) aw) (bv 9 eR.nd) (aD (bj 10 eR.nd<|cW eI (bg (pv 7)<|pv 9) aM)
   (aD (bj 11 eR.nd<|bg (pv 1)<|cW eI (cW ju (cW gK (bg (pv 7)<|pv 9) aM)<|pv 9)<|cY B<|pv 1)
   (aD (bj 12 eR.nd<|bg (pv 1)<|cW eI (cW ju (cW ju (cW gK (cW gK (bg (pv 7)<|pv 9) aM)<|cY B<|pv 1)<|pv 9) aM)<|cY B<|pv 1)
   (aD (bj 13 eR.nd<|eE<|ai (eE<|ai gc<|ai (pv 11)<|ai (pv 12) aw)<|ai (eE aw) aw)
   (aD (cj (cA (fC (by exact hu)) (pv 10) aM) (aB<|bj 13 eR.nd<|eE<|ai (eE<|ai gc<|ai (pv 11) aw)<|ai (eE aw) aw)<|aB<|cj (iY (cA mn (cY B<|pv 1) aM)<|iU<|cA mn (pv 10) aM).pt (aB<|bj 13 eR.nd<|bg (pv 4) aM)<|aB<|cj (cA mn (pv 10) aM) (aB<|bj 13 eR.nd<|bg (pv 4)<|bg (pv 6)<|cW eI (cW ju (cW gK (bg (pv 7)<|pv 9) aM)<|pv 9) aM)<|aB<|cj (iY (cA (fC (by exact hu)) (pv 10) aM)<|iU<|cA (fC (by exact hu)) (cY B<|pv 1) aM).pt (aB<|bj 13 eR.nd<|eE<|ai (eE<|ai gc<|ai (pv 11)<|ai (pv 12) aw)<|ai (eE aw) aw) cu)
   (aB<|cj (cA (xN hu) (pv 13)<|pv 8) (aB<|jY (pv 8)<|pv 13) cu))))))⟩
   (AS ⟨bu<|pv 8⟩))))))))))),?_⟩
 have b0:Bx H M [] _ H [Sl.d (.lst<|b.map D.int),.no,.no,.no,.no,.no,.no,.no,.no,.no,.no,.no,.no,.no]:=gW lv J BJ
 have N:=Ba b
 generalize a1:i9 b=a at N
 obtain ⟨n,hn,h0,c4⟩:∃n:Nat,a.length=n/\0<n/\n<=10:=⟨_,rfl,by rcases N.len with z|z<;>omega,by rcases N.len with z|z<;>omega⟩
 have U:(0:Int)<(n:Int):=by omega
 have bk:(n:Int)<1073741824:=by omega
 refine a8.run b0<|bI<|gI (i:=1) (d:=.lst a) (λG C e=>bN ⟨b,rfl,by rw [a1]⟩<|aa (e.vd rfl) ag) ?_
 dsimp only
 refine bI<|dZ (i:=2) (d:=.int<|b.getD 1 0) (λG C e=>bN (mi b 1)<|aa (e.v rfl)<|aa aq ag) rfl ?_
 dsimp only
 refine bI<|gI (i:=3) (d:=.lst [.int<|b.getD 2 0,.int<|b.getD 3 0,.int<|b.getD 4 0]) (λG C e=>fy<|aa (bN (mi b 2)<|aa (e.vd rfl)<|aa aq ag)<|aa (bN (mi b 3)<|aa (e.vd rfl)<|aa aq ag)<|aa (bN (mi b 4)<|aa (e.vd rfl)<|aa aq ag) ag) ?_
 dsimp only
 refine bI<|vW (i:=4) (ds:=[.int<|b.getD 1 0/12,.lst a,.int<|b.getD 2 0,.int<|b.getD 3 0,.int<|b.getD 4 0]) (λG C e=>aa (gS ⟨by decide,by decide⟩ (e.vd rfl) aq)<|aa (e.vd rfl)<|aa (cN (ds:=[.int<|b.getD 2 0,.int<|b.getD 3 0,.int<|b.getD 4 0]) (d:=.int<|b.getD 2 0) rfl (e.vd rfl) aq)<|aa (cN (ds:=[.int<|b.getD 2 0,.int<|b.getD 3 0,.int<|b.getD 4 0]) (d:=.int<|b.getD 3 0) rfl (e.vd rfl) aq)<|aa (cN (ds:=[.int<|b.getD 2 0,.int<|b.getD 3 0,.int<|b.getD 4 0]) (d:=.int<|b.getD 4 0) rfl (e.vd rfl) aq) ag) ⟨_,_,_,_,_,rfl,N⟩ λd hd=>?_
 obtain ⟨_,bl,_,_,_,L,he,rfl,bs,af,aj⟩:=hd
 simp only [Qc,D.lst.injEq] at he
 obtain ⟨_,rfl,_⟩:=he
 dsimp only
 refine bI<|gI (i:=5) (d:=.lst<|(kT.take 6).map je) (λG C e=>ae.eq (fy<|aa (aQ<|aa aq<|aa aq<|aa aq ag)<|aa (aQ<|aa aq<|aa aq<|aa aq ag)<|aa (aQ<|aa aq<|aa aq<|aa aq ag)<|aa (aQ<|aa aq<|aa aq<|aa aq ag)<|aa (aQ<|aa aq<|aa aq<|aa aq ag)<|aa (aQ<|aa aq<|aa aq<|aa aq ag) ag) rfl) ?_
 dsimp only
 refine bI<|gI (i:=5) (d:=.lst<|(kT.take 9).map je) (λG C e=>ae.eq (pr (xs:=(kT.take 6).map je) Z1 (e.vd rfl)<|fy<|aa (aQ<|aa aq<|aa aq<|aa aq ag)<|aa (aQ<|aa aq<|aa aq<|aa aq ag)<|aa (aQ<|aa aq<|aa aq<|aa aq ag) ag) rfl) ?_
 obtain ⟨dt,bt,bx,_⟩:=fG (l:=kT.map je) (n:=12) (b.getD 1 0) Z1 rfl
 obtain ⟨tl,b6,rfl⟩:=LS.mp bx
 obtain ⟨b7,a2⟩:=Fz tl b6
 dsimp only
 refine bI<|dZ (i:=6) (d:=je tl) (λG C e=>cN (ds:=kT.map je) bt (ae.eq (pr (xs:=(kT.take 9).map je) Z1 (e.v rfl)<|fy<|aa (aQ<|aa aq<|aa aq<|aa aq ag)<|aa (aQ<|aa aq<|aa aq<|aa aq ag)<|aa (aQ<|aa aq<|aa aq<|aa aq ag) ag) rfl)<|eQ Z1 (e.v rfl) aq) (iy λx hx=>by obtain ⟨_,_,rfl⟩:=LS.mp hx;rfl) ?_
 obtain ⟨cs,b8,c5⟩:∃cs:List Int,((b.map D.int).drop 2).take 30=cs.map D.int/\cs.length<=30:=⟨(b.drop 2).take 30,by rw [PR,List.map_drop],by rw [Mr];exact Nat.min_le_left _ _⟩
 dsimp only
 refine bI<|gI (i:=7) (d:=.lst<|cs.map D.int) (λG C e=>ae.eq (Fu (k:=2) (n:=30) (m:=32) rfl<|e.vd rfl) (by rw [b8])) ?_
 dsimp only
 refine bI<|BX (i:=8) ?_
 generalize Sl.d (D.lst<|b.map D.int)=s0
 generalize Sl.d (D.int<|b.getD 1 0)=s2
 generalize Sl.d (D.lst [.int<|b.getD 2 0,.int<|b.getD 3 0,.int<|b.getD 4 0])=s3
 generalize Sl.d (D.lst<|(kT.take 9).map je)=s5
 dsimp only
 refine bI<|iR (i:=9) (eU.rG (n:=cs.length) Z4 λG C e=>aa ((ff (K:=K)<|aa (e.v rfl) ag).eq (by rw [LA])) ag) (λj O=>∃J s9 am an ao as,gi a J/\J.length<=j/\O=[s0,.d (.lst a),s2,s3,.d (.lst<|L.map a6),s5,.d<|je tl,.d (.lst<|cs.map D.int),.l<|J.map a6,s9,am,an,ao,as]) ⟨[],_,_,_,_,_,⟨(λr T=>nomatch T),(λ_ r T=>nomatch T),NQ⟩,LF _,rfl⟩ (λB' sB hk j x O hx hp=>?_) λO hp=>?_
 .obtain ⟨J,s9,am,an,ao,as,Y,ac,rfl⟩:=hp
  obtain ⟨hj,rfl⟩:=nE 0 _ j x hx
  have hc:dO (cs.map D.int) (0+(j:Int))=some (.int<|cs[j]'hj):=sW (by rw [LO,Ly hj];rfl)
  generalize cs[j]'hj=c at hc
  refine bI<|dZ (i:=10) (d:=.int<|c%8) (λG C e=>eQ Z1 (cN hc (e.v rfl)<|e.v rfl) aq) rfl ?_
  obtain ⟨p,o1,o2,_⟩:=fG (l:=a) (n:=n) (c/8+(0+(j:Int))) h0 hn
  refine bI<|dZ (i:=11) (d:=p) (λG C e=>cN o1 (e.v rfl)<|eQ U (kq (gS ⟨by decide,by decide⟩ (cN hc (e.v rfl)<|e.v rfl) aq)<|e.v rfl)<|(ff (K:=K)<|aa (e.v rfl) ag).eq (by rw [hn])) (oq (N.gp p o2).1) ?_
  obtain ⟨I,t1,t2,_⟩:=fG (l:=a) (n:=n) (c/8/(n:Int)+(0+(j:Int))+1) h0 hn
  refine bI<|dZ (i:=12) (d:=I) (λG C e=>cN t1 (e.v rfl)<|eQ U (kq (kq (gS ⟨U,bk⟩ (gS ⟨by decide,by decide⟩ (cN hc (e.v rfl)<|e.v rfl) aq)<|(ff (K:=K)<|aa (e.v rfl) ag).eq (by rw [hn]))<|e.v rfl) aq)<|(ff (K:=K)<|aa (e.v rfl) ag).eq (by rw [hn])) (oq (N.gp I t2).1) ?_
  have p2:∀x∈[p,I],x∈a:=λx hx=>by
   simp only [LK,Mj,ME] at hx
   rcases hx with rfl|rfl
   .exact o2
   .exact t2
  have kr:db a (jH "road" [p,I]):=wY N (by simp [dB]) p2
  have kk:db a (jH "kin" [p,I]):=wY N (by simp [dB]) p2
  have km:db a (jH "mark" [p]):=wY N (by simp [dB]) λx hx=>by rw [L4.mp hx];exact o2
  have nr:∀{r:bJ},db a r->(a6 r).fz=true:=λh=>JD (h.sc N).1 (h.sc N).2
  refine bI<|dZ (i:=13) (d:=a6<|jH "road" [p,I]) (λG C e=>ae.eq (aQ<|aa (aQ<|aa aN<|aa (e.v rfl)<|aa (e.v rfl) ag)<|aa (aQ ag) ag) rfl) (nr kr) ?_
  refine bI<|Hb (λO=>∃r,db a r/\(a.length=10->tN a r)/\O=[s0,.d (.lst a),s2,s3,.d (.lst<|L.map a6),s5,.d<|je tl,.d (.lst<|cs.map D.int),.l<|J.map a6,.d (.int<|0+(j:Int)),.d (.int<|c%8),.d p,.d I,.d<|a6 r]) (λG C e=>cw<|iL (e.v rfl) aq) (λk z=>?_) (λk z=>?_) λO hp=>?_
  .exact dZ (i:=13) (d:=a6<|jH "mark" [p]) (λG C e=>ae.eq (aQ<|aa (aQ<|aa aN<|aa (e.v rfl) ag)<|aa (aQ ag) ag) rfl) (nr km)<|k _ ⟨_,km,λ_=>.inr (.inr ⟨p,o2,rfl⟩),rfl⟩
  .refine eO (λG C e=>ii (cw<|j6 ((ff (K:=K)<|aa (e.v rfl) ag).eq (by rw [hn])) aq) λ_=>cw<|j6 (e.v rfl) aq) (λz1=>?_) (λz1=>?_)
   .exact dZ (i:=13) (d:=a6 wV) (λG C e=>cN (i:=((2:Nat):Int)) (mJ (by rw [LO,aj];rfl)) (e.v rfl) aq) (nr<|af _<|LD aj)<|k _ ⟨_,af _<|LD aj,λ_=>.inl rfl,rfl⟩
   .refine eO (λG C e=>cw<|j6 (e.v rfl) aq) (λz2=>?_) (λz2=>?_)
    .have cd:¬a.length=10:=λw=>by
      rw [z2,OW] at z1
      have:=MB z1
      omega
     obtain ⟨di,ch,cl,_⟩:=fG (l:=tl.map λn=>D.int (n:Nat)) (n:=3) (c/8+(0+(j:Int))) Z1 (by rw [LA];exact b7)
     obtain ⟨i,co,rfl⟩:=LS.mp cl
     have hi:=a2 i co
     have a3:L[i]?=some (L[i]'Z4):=Ly _
     have a4:=af _<|LD a3
     exact dZ (i:=13) (d:=a6<|L[i]'Z4) (λG C e=>cN (mJ (by rw [LO,a3];rfl)) (e.v rfl)<|b9 ch (e.v rfl)<|eQ Z1 (kq (gS ⟨by decide,by decide⟩ (cN hc (e.v rfl)<|e.v rfl) aq)<|e.v rfl) aq) (nr a4)<|k _ ⟨_,a4,λw=>absurd w cd,rfl⟩
    .refine eO (λG C e=>ii (cw<|iL (e.v rfl) aq) λ_=>cw<|iL ((ff (K:=K)<|aa (e.v rfl) ag).eq (by rw [hn])) aq) (λz3=>?_) (λz3=>fW<|k _ ⟨_,kr,λ_=>.inr (.inl ⟨p,o2,I,t2,rfl⟩),rfl⟩)
     have ct:¬a.length=10:=λw=>by
      have:=LW (O0.mp z3).2
      omega
     exact dZ (i:=13) (d:=a6<|jH "kin" [p,I]) (λG C e=>ae.eq (aQ<|aa (aQ<|aa aN<|aa (e.v rfl)<|aa (e.v rfl) ag)<|aa (aQ ag) ag) rfl) (nr kk)<|k _ ⟨_,kk,λw=>absurd w ct,rfl⟩
  obtain ⟨r,a0,c0,rfl⟩:=hp
  have bc:=a0.sc N
  dsimp only
  refine eO (λG C e=>cw<|zH (d:=a6 r) (es:=J.map a6) (λy hy=>?_) (e.v rfl)<|e.v rfl) (λz=>?_) λz=>fW<|fc ⟨J,_,_,_,_,_,Y,Nat.le_succ_of_le ac,rfl⟩
  .obtain ⟨g,hg,rfl⟩:=LS.mp hy
   have bd:=(Y.ok g hg).sc N
   exact IF bd.1 bd.2 bc.1 bc.2
  .have c1:r∉J:=λw=>by
    have:decide (a6 r∈J.map a6)=true:=LV<|LS.mpr ⟨r,w,rfl⟩
    rw [this] at z;cases z
   refine BD (j:=8) rfl (λG C e=>e.v rfl) (nr a0) (by rw [LA];exact cy Z4) ?_
   rw [show J.map a6++[a6 r]=(J++[r]).map a6 by rw [Me];rfl]
   exact fc ⟨J++[r],_,_,_,_,_,Y.snoc a0 c0 c1,by rw [LR];exact Nat.succ_le_succ ac,rfl⟩
 obtain ⟨J,s9,am,an,ao,as,Y,ac,rfl⟩:=hp
 rw [LA,Pl] at ac
 dsimp only
 exact fk (d:=.lst<|J.map a6) (λG C e=>e.v rfl) λv H' s' r'=>q _ v H' ⟨b,J,rfl,rfl,by rw [a1];exact Y,by omega⟩ s' r'
end
end a5
namespace a5
open PySem L2 FL
section
variable {P:Program}{w:World}{K:PySem.W.Frag}{mg:Str->Option Value}{base:Heap}{f:Addr}{fd:FuncData}
def kG:bW ["_law_blanks","_law_pool","_law_made","_law_blank","_law_more","_law_things","_law_thing","_law_longer_one"] ["_law_blanks","_law_pool"] (ba sO):=⟨rfl,rfl,rfl,Z9,rfl,Z9,Z9⟩
def Ln (F:aF K "_law_choices" "_law_choices" sO f fd)(B:Bl mg):bp P w K mg base bz 1 f fd ["_law_blanks","_law_pool"] ut:=by
 refine F.ok kG (λvs H Q E q0=>by obtain ⟨_,_,_,_,_,e,_⟩:=q0;rw [e];rfl) λep A co s H vs Q E hr h=>?_
 obtain ⟨M,r,g,v0,v1,rfl,lv,r0,r1,hp,ct,a4,q⟩:=h
 have c0:=fE hr
 refine ⟨_,(aD (bj 2 kG.nd<|dy<|ai ux aw)
   (aD (de L9 rfl (cq<|pv 0) (bv 3 kG.nd) (aD (bj 4 kG.nd<|dy aw)
   (aD (de L9 rfl (cq<|pv 2) (bv 5 kG.nd) (aB (de L9 rfl (cq<|pv 1) (bv 6 kG.nd) (aD (bj 7 kG.nd<|F7 B<|pv 5)
   (aD (kN c0 (pv 7) (pv 3) (pv 6) rfl)
   (aB<|jY (pv 4)<|pv 7))))))
   (aB<|bj 2 kG.nd<|pv 4))))
   (aB<|bu<|pv 2))),?_⟩
 have E0:ay (but H M) (L2.start ["_law_blanks","_law_pool","_law_made","_law_blank","_law_more","_law_things","_law_thing","_law_longer_one"] [v0,v1]) [some<|fX r,some (.lst g),none,none,none,none,none,none]:=fV (.dat r0 (.dat r1 .nil)) _
 have c1:∀k,(cM g (r.take k) [[]]).length<=1000:=λk=>by
  rw [Bo,MQ,Nat.one_mul]
  have h1:(r.take k).length<=3:=L8 (by rw [Mr];exact Nat.min_le_right _ _) ct
  calc g.length^(r.take k).length<=10^(r.take k).length:=Nat.pow_le_pow_left a4 _
   _<=10^3:=Nat.pow_le_pow_right Z1 h1
   _=1000:=by decide
 intro J kJ
 refine ⟨by show 1<=sizeLine;decide,λm0 bc=>?_⟩
 have sA:=dr kJ (.dK [])
 have sB:=dr bc (.lst [.ref J])
 have af:ab H (upd (upd H J (.dK [])) m0 (.lst [.ref J])):=sA.trans sB
 have c3:J∉M:=lv.fresh kJ
 have c4:m0∉M:=(lv.same sA).fresh bc
 have bd:gP (but (upd (upd H J (.dK [])) m0 (.lst [.ref J])) M) [.ref J] (cM g (r.take 0) [[]]):=by
  refine ⟨rfl,λj c e=>?_⟩
  cases j with
  |zero=>
   have e:([]:aO)=c:=LQ e
   subst e
   exact ⟨J,rfl,by rw [bh c3];exact sB _ _ aR⟩
  |succ j=>simp [cM] at e
 have bi:but (upd (upd H J (.dK [])) m0 (.lst [.ref J])) M m0=some (.lst [.ref J]):=by rw [bh c4];exact aR
 generalize upd (upd H J (.dK [])) m0 (.lst [.ref J])=H1 at af bd bi
 have E1:ay (but H1 M) ((L2.start ["_law_blanks","_law_pool","_law_made","_law_blank","_law_more","_law_things","_law_thing","_law_longer_one"] [v0,v1]).set 2<|some (.ref m0)) [some<|fX r,some (.lst g),none,none,none,none,none,none]:=(E0.same af).off 2 _
 have l1:ap M H1:=lv.same af
 refine gJ (M:=M) (ds:=r.map D.str) (dG<|aG E1 rfl) l1 λH2 s2=>?_
 refine ⟨λk C H'=>∃m us,C[2]?=some (some (.ref m))/\but H' M m=some (.lst us)/\gP (but H' M) us (cM g (r.take k) [[]])/\ab H2 H'/\ay (but H' M) C [some<|fX r,some (.lst g),none,none,none,none,none,none],
  ⟨m0,_,rfl,(s2.but M) _ _ bi,bd.mono<|s2.but M,ab.refl _,E1.same s2⟩,λk C H' q1=>by obtain ⟨_,_,_,_,_,x,_⟩:=q1;exact ⟨x.but M,(l1.same s2).same x⟩,?_,?_⟩
 .rintro k d x C H' u hd ⟨m,us,j2,hm,hD,S',E'⟩ s3 rx
  obtain ⟨b,c5,rfl⟩:∃b,r[k]?=some b/\d=.str b:=by
   rw [LO] at hd
   cases e:r[k]? with
   |none=>rw [e] at hd;cases hd
   |some y=>rw [e] at hd;exact ⟨y,rfl,(LQ hd).symm⟩
  have dc:r.take (k+1)=r.take k++[b]:=by rw [Mm,c5];rfl
  have l3:ap M u:=((l1.same s2).same S').same s3
  have E3:ay (but u M) (C.set 3<|some x) [some<|fX r,some (.lst g),none,some (.str b),none,none,none,none]:=(E'.same s3).set 3 rx
  have c2:(C.set 3<|some x)[2]?=some (some (.ref m)):=(LB Z1).trans j2
  refine m4 (i:=4) l3 E3 Z8 ag (Mb _) λa dd di H4 o4 i4 n4 h4 r4 l4 k4 E4=>?_
  have dp:dd=[]:=by cases r4;rfl
  subst dp
  have bk:ab u H4:=λx o e=>(k4 x o e).2
  have bl:u a=none:=none_of (ab.refl u) k4
  have SV:ab (but u M) (but H4 (a::M)):=ir bl bk
  have d2:di[2]?=some (some (.ref m)):=(o4 2 Z1).trans c2
  have dt:=SV _ _<|(s3.but M) _ _ hm
  have bs:=(hD.mono<|s3.but M).mono SV
  have dx:=c1 k
  generalize as:cM g (r.take k) [[]]=L at bs dx
  have ek:∀c∈L,∀p∈c,p.2.sc=true:=λc hc=>by
   rw [<-as] at hc
   exact tZ g _ [[]] c hp (λm hm p bt=>by rw [L4.mp hm] at bt;cases bt) hc
  have bx:∀c∈L,c.length<=3:=λc hc=>by
   rw [<-as] at hc
   have:=xO g (r.take k) [[]] 0 (λm hm=>by rw [L4.mp hm];rfl) c hc
   rw [Mr] at this
   omega
  refine sC (M:=a::M) (vL (G3 d2) dt) l4 λH5 s5=>?_
  have a0:=bs.mono<|s5.but _
  refine ⟨λj M' N X=>M'=a::M/\∃ws,N[4]?=some (some (.ref a))/\X a=some (.lst ws)/\gP (but X (a::M)) ws ((L.take j).flatMap λc=>g.map λt=>c++[(b,t)])/\ab u X/\ap (a::M) X/\ab (but H5 (a::M)) (but X (a::M))/\ay (but X (a::M)) N [some<|fX r,some (.lst g),none,some (.str b),none,none,none,none],
   ⟨rfl,[],i4,s5 _ _ h4,.nil,bk.trans s5,l4.same s5,ab.refl _,E4.same s5⟩,λj M' N X q2=>by obtain ⟨e,_,_,_,_,_,x,y,_⟩:=q2;rw [e];exact ⟨y,x⟩,?_,?_⟩
  .rintro j M' y N X X' hj ⟨rfl,ws,t4,a1,O,SX,lX,a2,EX⟩ s6 hy
   have hy:us[j]?=some y:=hy
   have ao:=a0.len
   have d1:j<L.length:=by omega
   have aj:L[j]?=some L[j]:=Ly d1
   obtain ⟨U,h1,h2⟩:=a0.get j _ aj
   have ey:y=.ref U:=by rw [hy] at h1;exact LQ h1
   subst ey
   have b0:=LD aj
   generalize eq:L[j]=c at h2 aj b0
   have E6:ay (but X' (a::M)) (N.set 5<|some (.ref U)) [some<|fX r,some (.lst g),none,some (.str b),none,none,none,none]:=(EX.same s6).off 5 _
   have d3:N.length=8:=EX.len
   have e4:(N.set 5<|some (.ref U))[4]?=some (some (.ref a)):=(LB Z1).trans t4
   have e5:(N.set 5<|some (.ref U))[5]?=some (some (.ref U)):=LM Z4
   have d4:=(s6.but (a::M)) _ _<|a2 _ _ h2
   have b6:(L.take<|j+1).flatMap (λc=>g.map λt=>c++[(b,t)])=(L.take j).flatMap (λc=>g.map λt=>c++[(b,t)])++g.map λt=>c++[(b,t)]:=by
    rw [Mm,aj,Pt]
    congr 1
    exact M9 _ _
   have d5:((L.take j).flatMap λc=>g.map λt=>c++[(b,t)]).length<=10000:=by
    rw [List.length_flatMap]
    have ea:∀l:List aO,(l.map λc=>(g.map λt=>c++[(b,t)]).length).sum=l.length*g.length:=by
     intro l
     induction l with
     |nil=>simp
     |cons m t ih=>rw [Mu,PQ,ih,Mq,Qa,Qu,LA]
    rw [ea,Mr]
    calc min j L.length*g.length<=1000*10:=Nat.mul_le_mul Z4 a4
     _=10000:=by decide
   generalize er:((L.take j).flatMap λc=>g.map λt=>c++[(b,t)])=W at O b6 d5
   refine gJ (M:=a::M) (ds:=g) (dG<|aG E6 rfl) (lX.same s6) λH7 s7=>?_
   refine ⟨λi I Y=>∃ws,I[4]?=some (some (.ref a))/\I[5]?=some (some (.ref U))/\Y a=some (.lst ws)/\gP (but Y (a::M)) ws (W++(g.take i).map λt=>c++[(b,t)])/\ab u Y/\ap (a::M) Y/\ab (but H7 (a::M)) (but Y (a::M))/\ay (but Y (a::M)) I [some<|fX r,some (.lst g),none,some (.str b),none,none,none,none],
    ⟨ws,e4,e5,s7 _ _<|s6 _ _ a1,by rw [Qn,Oj,Mi];exact O.mono<|(s6.trans s7).but _,SX.trans<|s6.trans s7,(lX.same s6).same s7,ab.refl _,E6.same s7⟩,λi I Y q3=>by obtain ⟨_,_,_,_,_,_,x,y,_⟩:=q3;exact ⟨y,x⟩,?_,?_⟩
   .rintro i t v I Y Y' ht ⟨G,u4,u5,a3,T,SY,lY,am,EY⟩ s8 rt
    have ec:=LD ht
    have b7:=hp t ec
    have es:=(Lx.mp ht).1
    have E8:ay (but Y' (a::M)) (I.set 6<|some v) [some<|fX r,some (.lst g),none,some (.str b),none,none,some t,none]:=(EY.same s8).set 6 rt
    have w4:(I.set 6<|some v)[4]?=some (some (.ref a)):=(LB Z1).trans u4
    have w5:(I.set 6<|some v)[5]?=some (some (.ref U)):=(LB Z1).trans u5
    have ed:=(s8.but (a::M)) _ _<|am _ _<|(s7.but _) _ _ d4
    have l8:=lY.same s8
    refine ⟨.ref U,w5,U,_,rfl,.inl (ax ed).2,λp an=>?_⟩
    have b8:=dr an (.dK<|ci []<|bL c)
    have cd:p∉a::M:=l8.fresh an
    have em:I.length=8:=EY.len
    have E9:ay (but (upd Y' p (.dK<|ci []<|bL c)) (p::a::M)) ((I.set 6<|some v).set 7<|some (.ref p)) [some<|fX r,some (.lst g),none,some (.str b),none,none,some t,none]:=va E8 an
    have x7:((I.set 6<|some v).set 7<|some (.ref p))[7]?=some (some (.ref p)):=LM (by rw [M8];omega)
    have x4:((I.set 6<|some v).set 7<|some (.ref p))[4]?=some (some (.ref a)):=(LB Z1).trans w4
    have x5:((I.set 6<|some v).set 7<|some (.ref p))[5]?=some (some (.ref U)):=(LB Z1).trans w5
    have en:=bx c b0
    refine zK (n:=b) (y:=t) (F:=c) (l8.upd.cons aR) E9 Z8 x7 aR b7 Z4 (aG E9 rfl) (aG E9 rfl) λZ kZ lZ eg EZ=>?_
    have ei:a≠p:=λz=>cd (by rw [<-z];exact Lz)
    have ch:Z a=some (.lst G):=kZ a _ ei<|b8 _ _<|s8 _ _ a3
    have cl:ab Y' Z:=λz o e=>kZ z o (da e an)<|b8 _ _ e
    refine ⟨.ref a,x4,(show gX K "list" (.ref a) _ from .inl ⟨rfl,G,aP.of ch⟩),.ref p,x7,a,G,.ref p,rfl,rfl,ch,?_,?_⟩
    .rw [T.len,LR,LA,Mr]
     exact N3 (show _<=20000 by omega) Z1
    .have eb:but (upd Z a (.lst<|G++[.ref p])) (a::M)=but Z (a::M):=dD Lz
     have SZ:ab (but Y' (a::M)) (but (upd Z a (.lst<|G++[.ref p])) (a::M)):=by rw [eb];exact cl.but _
     refine ⟨_,x4,x5,aR,?_,mU (SY.trans<|s8.trans cl) bl λz o hz e=>by rw [aA hz];exact e,?_,am.trans<|(s8.but _).trans SZ,?_⟩
     .rw [Mm,ht,Me,<-Mw]
      refine (T.mono<|(s8.but _).trans SZ).snoc ?_
      rw [eb,bh cd]
      exact eg
     .exact (λz hz=>(lZ.upd (a:=a)) z<|Lv _ hz)
     .rw [eb]
      exact (EZ.mono<|dU λz hz=>Lv _ hz).drop 6
   .rintro I Y ⟨G,u4,u5,a3,T,SY,lY,am,EY⟩
    rw [Mh<|LF _,<-b6] at T
    exact ⟨a::M,rfl,G,u4,a3,T,SY,lY,a2.trans<|((s6.trans s7).but _).trans am,EY⟩
  .rintro M' N X ⟨rfl,ws,t4,a1,O,SX,lX,a2,EX⟩
   have ao:=a0.len
   rw [ao,Mh<|LF _] at O
   have ej:a∉M:=n4
   have ES:ay (but X M) N [some<|fX r,some (.lst g),none,some (.str b),none,none,none,none]:=EX.mono<|dU λz hz=>Lv _ hz
   have d3:N.length=8:=EX.len
   refine ⟨.ref a,t4,a,ws,LM Z4,by rw [bh ej];exact a1,?_,S'.trans<|s3.trans SX,(ES.drop 3).off 2 _⟩
   rw [dc,yQ,as]
   exact O.mono<|dU λz hz=>Lv _ hz
 .rintro C H' ⟨m,us,j2,hm,hD,S',E'⟩
  rw [LA,Mh<|LF _] at hD
  exact ⟨.ref m,j2,q m us H' (af.trans<|s2.trans S') hm hD⟩
end
end a5
namespace a5
open PySem L2 FL
section
variable {P:Program}{w:World}{K:PySem.W.Frag}{mg:Str->Option Value}{base:Heap}{f:Addr}{fd:FuncData}
def nQ:bW ["atoms","body","bound","asker","blank","atom"] ["atoms","body"] (ba sx):=⟨rfl,rfl,rfl,Z9,rfl,Z9,Z9⟩
def JL (F:aF K "refuse_loose" "refuse_loose" sx f fd)(B:Bl mg)(m:aV P w K mg base 2 "askers_in" ["body"] (bw vz))(l:aV P w K mg base 2 "blanks_in" ["atom"] (bw oy)):bp P w K mg base bz 3 f fd ["atoms","body"] (bw wR):=by
 refine F.ok nQ (eP (n:=2) λds d q0=>by obtain ⟨_,_,e,_⟩:=q0;rw [e];rfl) λbk A ao s H vs Q E hr h=>?_
 obtain ⟨M,ds,d,lv,rs,⟨J,u,rfl,hx,bl,hb,a0,Y,rfl⟩,q⟩:=h
 have hu:=dR hr
 have am:=fE hr
 refine ⟨_,(aD (bj 2 nQ.nd ux)
   (aD (de L9 rfl (cq<|bG m hr<|ai (pv 1) aw) (bv 3 nQ.nd)<|aB<|de L9 rfl (cq<|bG l hr<|ai (pv 3) aw) (bv 4 nQ.nd)<|aB<|kN am (pv 2) (pv 4) d9 rfl)
   (aB<|de L9 rfl (cq<|pv 0) (bv 5 nQ.nd)<|aB<|de L9 rfl (cq<|bG l hr<|ai (pv 5) aw) (bv 4 nQ.nd)<|aB<|cj (jV<|pH (by exact am) (pv 4)<|pv 2) (aB vB) cu))),?_⟩
 have E0:=gH rs ["atoms","body","bound","asker","blank","atom"]
 refine uG (i:=2) lv E0 Z8 λp bs H1 o1 i1 n1 h1 l1 k1 E1=>?_
 have a1:ab H H1:=λb o e=>(k1 b o e).2
 have a2:H p=none:=none_of (ab.refl H) k1
 let g:=u.filter λa=> !aE a
 have ac:∀a∈g,dz a:=λa ha=>hb a (LP.mp ha).1
 have a3:g.length<=3:=L8 (Ml _ _) a0
 let O:Nat->ZY:=λj=>(g.take j).foldl (λB a=>(ak [] a).foldl gY B) []
 refine gJ (M:=p::M) (ds:=g.map D.tup) (dG<|bN ⟨u,rfl,hb,by omega,rfl⟩<|aa (aG E1 rfl) ag) l1 λH2 L=>?_
 refine ⟨λj c k=>c[2]?=some (some (.ref p))/\k p=some (.dK<|dY<|O j)/\(O j).length<=100*j/\ab H k/\ap (p::M) k/\ab (but H2 (p::M)) (but k (p::M))/\ay (but k (p::M)) c [some<|dg J,some<|cf u,none,none,none,none],
  ⟨i1,L _ _ h1,LF _,a1.trans L,l1.same L,ab.refl _,E1.same L⟩,λj c k q1=>by obtain ⟨_,_,_,_,x,y,_⟩:=q1;exact ⟨y,x⟩,?_,?_⟩
 .rintro j d x c k af T ⟨j1,hp,bd,S0,U,S',E'⟩ v rx
  obtain ⟨a,C,rfl⟩:∃a,g[j]?=some a/\d=.tup a:=by
   rw [LO] at T
   cases e:g[j]? with
   |none=>rw [e] at T;cases T
   |some y=>rw [e] at T;exact ⟨y,rfl,(LQ T).symm⟩
  have hj:j<g.length:=(Lx.mp C).1
  have N:=ac a<|LD C
  have E3:ay (but af (p::M)) (c.set 3<|some x) [some<|dg J,some<|cf u,none,some (.tup a),none,none]:=(E'.same v).set 3 rx
  have b1:(c.set 3<|some x)[2]?=some (some (.ref p)):=(LB Z1).trans j1
  have bt:(ak [] a).length<=100:=by
   have:=jT a []
   have:=N.len
   simp only [NI] at*
   omega
  have G:O (j+1)=(ak [] a).foldl gY (O j):=by
   show (g.take<|j+1).foldl _ []=_
   rw [Mm,C,MS]
   rfl
  refine gJ (M:=p::M) (ds:=(ak [] a).map D.str) (dG<|bN ⟨a,rfl,N,rfl⟩<|aa (aG E3 rfl) ag) (U.same v) λH4 I=>?_
  refine ⟨λi c k=>c[2]?=some (some (.ref p))/\k p=some (.dK<|dY<|((ak [] a).take i).foldl gY<|O j)/\ab H k/\ap (p::M) k/\ab (but H4 (p::M)) (but k (p::M))/\ay (but k (p::M)) c [some<|dg J,some<|cf u,none,some (.tup a),none,none],
   ⟨b1,I _ _<|v _ _ hp,S0.trans<|v.trans I,(U.same v).same I,ab.refl _,E3.same I⟩,λj c k q2=>by obtain ⟨_,_,_,x,y,_⟩:=q2;exact ⟨y,x⟩,?_,?_⟩
  .rintro i d x2 t H5 H6 dw ⟨j2,r,S2,l2,S3,E2⟩ z aj
   obtain ⟨n,hn,rfl⟩:∃n,(ak [] a)[i]?=some n/\d=.str n:=by
    rw [LO] at dw
    cases e:(ak [] a)[i]? with
    |none=>rw [e] at dw;cases dw
    |some y=>rw [e] at dw;exact ⟨y,rfl,(LQ dw).symm⟩
   have E6:ay (but H6 (p::M)) (t.set 4<|some x2) [some<|dg J,some<|cf u,none,some (.tup a),some (.str n),none]:=(E2.same z).set 4 aj
   have b2:(t.set 4<|some x2)[2]?=some (some (.ref p)):=(LB Z1).trans j2
   have a4:=xb ((ak [] a).take i)<|O j
   have bi:((ak [] a).take i).length<=100:=by rw [Mr];omega
   refine zv (n:=n) (l2.same z) E6 Z8 b2 (z _ _ r) Z4 (aG E6 rfl) (qB (b:=true)) λH7 k7 l7 h7 E7=>?_
   have S7:ab (but H6 (p::M)) (but H7 (p::M)):=mh Z8 k7
   refine ⟨b2,?_,mU (S2.trans z) a2 k7,l7,S3.trans<|(z.but _).trans S7,E7.drop 4⟩
   rw [Mm,hn,MS]
   exact h7
  .rintro t H5 ⟨j2,r,S2,l2,S3,E2⟩
   rw [LA,Mh<|LF _] at r
   have a4:=xb (ak [] a)<|O j
   refine ⟨j2,by rw [G];exact r,by rw [G];omega,S2,l2,S'.trans ((v.trans I).but _|>.trans S3),E2.drop 3⟩
 .rintro c k ⟨j1,hp,_,S0,U,S',E'⟩
  rw [LA] at hp
  have bc:O g.length=rA u:=by
   show (g.take g.length).foldl _ []=_
   rw [Mh<|LF _]
   rfl
  rw [bc] at hp
  have Y:∀a∈J,∀n∈ak [] a,n∈rA u:=λa ha n hn=>by
   obtain ⟨b,h1,h2,h3⟩:=Y a ha n hn
   exact zG _ _ (.inr ⟨b,LP.mpr ⟨h1,by rw [h2];rfl⟩,h3⟩)
  refine gJ (M:=p::M) (ds:=J.map D.tup) (dG<|aG E' rfl) U λH2 L=>?_
  refine ⟨λj c k=>c[2]?=some (some (.ref p))/\k p=some (.dK<|dY<|rA u)/\ab H k/\ap (p::M) k/\ab (but H2 (p::M)) (but k (p::M))/\ay (but k (p::M)) c [some<|dg J,some<|cf u,none,none,none,none],
   ⟨j1,L _ _ hp,S0.trans L,U.same L,ab.refl _,E'.same L⟩,λj c k q4=>by obtain ⟨_,_,_,x,y,_⟩:=q4;exact ⟨y,x⟩,?_,λc k q3=>by obtain ⟨_,_,S0,_⟩:=q3;exact q .av k S0 .av⟩
  rintro j d x c k af T ⟨j1,hp,S0,U,S',E'⟩ v rx
  rw [LO] at T
  obtain ⟨a,C,rfl⟩:=Mz.mp T
  have an:=LD C
  have N:=hx a an
  have E3:ay (but af (p::M)) (c.set 5<|some x) [some<|dg J,some<|cf u,none,none,none,some (.tup a)]:=(E'.same v).set 5 rx
  have b1:(c.set 5<|some x)[2]?=some (some (.ref p)):=(LB Z1).trans j1
  refine gJ (M:=p::M) (ds:=(ak [] a).map D.str) (dG<|bN ⟨a,rfl,N,rfl⟩<|aa (aG E3 rfl) ag) (U.same v) λH4 I=>?_
  refine ⟨λi c k=>c[2]?=some (some (.ref p))/\k p=some (.dK<|dY<|rA u)/\ab H k/\ap (p::M) k/\ab (but H4 (p::M)) (but k (p::M))/\ay (but k (p::M)) c [some<|dg J,some<|cf u,none,none,none,some (.tup a)],
   ⟨b1,I _ _<|v _ _ hp,S0.trans<|v.trans I,(U.same v).same I,ab.refl _,E3.same I⟩,λj c k q5=>by obtain ⟨_,_,_,x,y,_⟩:=q5;exact ⟨y,x⟩,?_,?_⟩
  .rintro i d x2 t H5 H6 dw ⟨j2,r,S2,l2,S3,E2⟩ z aj
   rw [LO] at dw
   obtain ⟨n,hn,rfl⟩:=Mz.mp dw
   have E6:ay (but H6 (p::M)) (t.set 4<|some x2) [some<|dg J,some<|cf u,none,none,some (.str n),some (.tup a)]:=(E2.same z).set 4 aj
   have b2:(t.set 4<|some x2)[2]?=some (some (.ref p)):=(LB Z1).trans j2
   have l6:=l2.same z
   refine vq l6 E6 (Dw b2 (z _ _ r) l6<|aG E6 rfl) (λe H7 s7 l7 E7=>?_) λe H7 s7 l7 E7=>?_
   .rw [LV<|Y a an n<|LD hn] at e
    cases e
   .exact nx ⟨b2,s7 _ _<|z _ _ r,S2.trans<|z.trans s7,l7,S3.trans<|(z.trans s7).but _,E7.drop 4⟩
  .rintro t H5 ⟨j2,r,S2,l2,S3,E2⟩
   exact ⟨j2,r,S2,l2,S'.trans ((v.trans I).but _|>.trans S3),E2.drop 5⟩
def uf:bW ["body","guards","guard","relation"] ["body"] (ba qL):=⟨rfl,rfl,rfl,Z9,rfl,Z9,Z9⟩
def D7 (F:aF K "check_body" "check_body" qL f fd)(B:Bl mg)(k:aV P w K mg base 2 "guards_in" ["body"] (bw oQ))(c:aV P w K mg base 3 "refuse_loose" ["atoms","body"] (bw wR)):bp P w K mg base bz 4 f fd ["body"] (bw yN):=by
 refine F.ok uf (eP (n:=1) λI d J=>by obtain ⟨_,e,_⟩:=J;rw [e];rfl) λL A p s H vs Q E r h=>?_
 obtain ⟨M,I,d,N,O,⟨l,rfl,t,u,T,y,rfl⟩,q⟩:=h
 have U:=dR r
 refine ⟨_,(aD (bj 1 uf.nd<|bG k r<|ai (pv 0) aw)
   (aD (de L9 rfl (cq<|pv 1) (bv 2 uf.nd) (aB (cj (cA (ij (by exact U)) (cY B<|pv 2) aM) (aD (bj 3 uf.nd<|bg (pv 2) aM)
   (aB vB)) cu)))
   (aB<|jv<|bG c r<|ai (pv 1)<|ai (pv 0) aw))),?_⟩
 have Y:Bx H M [] _ H [Sl.d<|cf l,.no,.no,.no]:=gW N O ["body","guards","guard","relation"]
 refine a8.run Y<|bI<|gI (i:=1) (d:=dg<|l.filter aE) (λG o e=>bN ⟨l,rfl,t,by omega,rfl⟩<|aa (e.vd rfl) ag) ?_
 refine bI<|iR (i:=2) (ds:=(l.filter aE).map D.tup) (eU.of λG o e=>dG<|e.vd rfl) (λj m=>∃s,m=[Sl.d<|cf l,.d<|dg<|l.filter aE,s,.no]) ⟨_,rfl⟩ (λB' sB hk j x m hj C=>?_) λm C=>?_
 .obtain ⟨s,rfl⟩:=C
  obtain ⟨g,hg,rfl⟩:=LS.mp<|LD hj
  obtain ⟨g1,g2⟩:=LP.mp hg
  exact eO (b:=false) (λG o e=>br.eq (cw<|nC (h9 (K:=K)<|aa (e.v rfl) ag) aq) (by rw [T g g1 g2];rfl)) (λz=>nomatch z) λ_=>fW<|fc ⟨_,rfl⟩
 .obtain ⟨s,rfl⟩:=C
  dsimp only
  exact qO (d:=.av) (λG o e=>bN ⟨_,l,rfl,λa ha=>t a (LP.mp ha).1,L8 (Ml _ _) Z4,t,u,y,rfl⟩<|aa (e.v rfl)<|aa (e.v rfl) ag) λac o H' b=>q .av H' b.same .av
def sy:bW ["rule","head","body","relation"] ["rule"] (ba qP):=⟨rfl,rfl,rfl,Z9,rfl,Z9,Z9⟩
def FF (F:aF K "check_rule" "check_rule" qP f fd)(B:Bl mg)(j:aV P w K mg base 1 "is_guard" ["atom"] (bw rp))(c:aV P w K mg base 3 "refuse_loose" ["atoms","body"] (bw wR))(g:aV P w K mg base 4 "check_body" ["body"] (bw yN)):bp P w K mg base bz 5 f fd ["rule"] (bw zu):=by
 refine F.ok sy (eP (n:=1) λo d p=>by obtain ⟨_,e,_⟩:=p;rw [e];rfl) λt A m s H J Q E l h=>?_
 obtain ⟨M,o,d,u,x,⟨r,rfl,S,rfl⟩,q⟩:=h
 have L:=dR l
 refine ⟨_,(aD (bj 1 sy.nd<|bg (pv 0) aM)
   (aD (bj 2 sy.nd<|bg (pv 0) aM)
   (aD (cj (df<|bG j l<|ai (pv 1) aw) (aD (bj 3 sy.nd<|bg (pv 1) aM)
   (aB vB)) cu)
   (aD (jv<|bG g l<|ai (pv 2) aw)
   (aB<|jv<|bG c l<|ai (dy<|ai (pv 1) aw)<|ai (pv 2) aw))))),?_⟩
 have y:Bx H M [] _ H [Sl.d<|a6 r,.no,.no,.no]:=gW u x ["rule","head","body","relation"]
 refine a8.run y ?_
 refine bI<|gI (i:=1) (d:=.tup r.1) (λG k e=>b9 (ds:=[.tup r.1,cf r.2]) rfl (e.vd rfl) aq) ?_
 refine bI<|gI (i:=2) (d:=cf r.2) (λG k e=>b9 (ds:=[.tup r.1,cf r.2]) rfl (e.vd rfl) aq) ?_
 refine iN (λG k e=>br.eq (dh<|bN ⟨r.1,rfl,S.hd,rfl⟩<|aa (e.v rfl) ag) S.hg) ?_
 refine bI<|qO (d:=.av) (λG k e=>bN ⟨r.2,rfl,S.ok,S.dH,S.g3,S.gb,rfl⟩<|aa (e.v rfl) ag) ?_
 exact qO (d:=.av) (λG k e=>bN ⟨[r.1],r.2,rfl,λa z=>by rw [L4.mp z];exact S.hd,Nat.le_of_ble_eq_true rfl,S.ok,S.dH,S.hb,rfl⟩<|aa (fy<|aa (e.v rfl) ag)<|aa (e.v rfl) ag) λC k I b=>q .av I b.same .av
def DG:bW ["found"] ["found"] (ba tT):=⟨rfl,rfl,rfl,Z9,rfl,Z9,Z9⟩
def Hq (F:aF K "facts_of" "facts_of" tT f fd)(B:Bl mg):bp P w K mg base bz 1 f fd ["found"] (bw uC):=by
 refine F.ok DG (eP (n:=1) λb d c=>by obtain ⟨_,e,_⟩:=c;rw [e];rfl) λg A a s H t Q E u h=>?_
 obtain ⟨M,b,d,i,j,⟨k,rfl,l,rfl⟩,q⟩:=h
 refine ⟨_,(aB<|bu<|fM ["reason"] [] 1 (cq<|pv 0) (λ_ _ _ _ _=>(bv 0<|ky _)) (λ_ _ _ _ _=>jw) λ_ _ _ _ _=>(nW (pv 0) aM)),?_⟩
 have m:Bx H M [] _ H [Sl.d (.lst<|k.map fx)]:=gW i j ["found"]
 refine a8.run m ?_
 refine fk (λG y e=>ae.eq (e.comp (λ_=>true) (λd=>match d with|.tup (x::_)=>x|_=>.av) (dG<|e.v rfl) (λ_ _ _ _ _=>jS) (λz o d p _ r=>?_) (by rw [LA];exact cy l)) ?_) q
 .obtain ⟨x,_,rfl⟩:=LS.mp p
  exact b9 (ds:=[.tup x.1,.int ((x.2.1:Nat):Int),.tup<|x.2.2.map λn=>D.int (n:Nat)]) (d:=.tup x.1) rfl (r.v rfl) aq
 .rw [MG.mpr λ_ _=>rfl,Mn]
  unfold aI
  show _=D.lst _
  rw [Mn]
  rfl
end
end a5
namespace a5
open PySem L2 FL
section
variable {P:Program}{w:World}{K:PySem.W.Frag}{mg:Str->Option Value}{base:Heap}{f:Addr}{fd:FuncData}
def ol:bW ["rules","rule","weaving","found","latest"] ["rules"] (ba tq):=⟨rfl,rfl,rfl,Z9,rfl,Z9,Z9⟩
def ER(F:aF K "reasons_by_round" "reasons_by_round" tq f fd)(B:Bl mg)(TW:oW K CW)(N:aV P w K mg base 5 "check_rule" ["rule"] (bw zu))(aj:jo P w K mg base 9 CW "Weaving" ["self","rules"] (Av C CL CW))(t:ee P w K mg base 6 CW "one_round" ["self","facts"] (CK C CL CW))(U:aV P w K mg base 1 "facts_of" ["found"] (bw uC)):bp P w K mg base bz 11 f fd ["rules"] (jB rN zF):=by
 refine F.ok ol (qF (n:=1) λk q0=>by obtain ⟨_,_,e,_⟩:=q0;rw [e];rfl) λf0 A ey s H0 vs Q E hr h=>?_
 obtain ⟨M,k,ez,rs,⟨c1,a,rfl,hP,hR,e0⟩,q⟩:=h
 have ni:=TW.cl
 refine ⟨_,(aD (de L9 rfl (cq<|pv 0) (bv 1 ol.nd)<|aB<|jv<|bG N hr<|ai (pv 1) aw)
   (aD (bj 2 ol.nd<|wf aj hr<|ai (pv 0) aw)
   (aD (bj 3 ol.nd<|dy aw)
   (aD (bj 4 ol.nd<|jP (pv 2) ni t hr<|ai (dy aw) aw)
   (aD (CJ L9 (vA (pv 4) λ_=>rfl) (aD (jY (pv 3)<|pv 4)
   (aB<|bj 4 ol.nd<|jP (pv 2) ni t hr<|ai (bG U hr<|ai (pv 4) aw) aw)))
   (aB<|bu<|pv 3)))))),?_⟩
 have b0:Bx H0 M [] _ H0 [Sl.d (.lst<|a.map a6),.no,.no,.no,.no]:=gW ez rs ["rules","rule","weaving","found","latest"]
 refine a8.run b0 ?_
 refine bI<|iR (i:=1) (eU.of λG σ e=>dG<|e.vd rfl) (λj dp=>∃x,dp=[Sl.d (.lst<|a.map a6),x,.no,.no,.no]/\x.own=false) ⟨_,rfl,rfl⟩ (λB' sB hk j x dp hj hp=>?_) λdp hp=>?_
 .obtain ⟨s1,rfl,_⟩:=hp
  obtain ⟨r,e1,rfl⟩:=LS.mp<|LD hj
  exact qO (d:=.av) (λG σ e=>bN ⟨r,rfl,(hR.ok r e1).sound hP,rfl⟩<|aa (e.v rfl) ag)<|fc ⟨_,rfl,rfl⟩
 obtain ⟨x1,rfl,Y⟩:=hp
 intro f1 σ H b
 have b:=b.free λs hs=>by
  simp only [LK,Mj,ME] at hs
  rcases hs with rfl|rfl|rfl|rfl|rfl
  .rfl
  .exact Y
  .rfl
  .rfl
  .rfl
 have S0:ab H0 H:=b.same
 have lv:ap M H:=b.live
 have E0:ay (but H M) σ _:=b.lA
 have e2:=E0.len
 obtain ⟨v0,i0,r0⟩:=E0.get 0 (.lst<|a.map a6) rfl
 dsimp only
 refine ⟨v0,i0,λx dx hx e3 a1=>?_⟩
 have S1:ab H (upd (upd H dx (.own x)) x (.ins CW dx [])):=λb u e=>by rw [aA<|da e hx,aA<|da e e3];exact e
 have back:∀{z:Addr},(upd (upd H dx (.own x)) x (.ins CW dx [])) z=none->H z=none:=λ{z} e=>gR S1 e
 have Y:(upd (upd H dx (.own x)) x (.ins CW dx [])) x=some (.ins CW dx []):=aR
 generalize upd (upd H dx (.own x)) x (.ins CW dx [])=H1 at S1 back Y
 have eb:x∉M:=lv.fresh hx
 refine ⟨M,a,x,dx,v0,rfl,Y,lv.same S1,eb,r0.mono<|S1.but M,λr hr=>(hR.ok r hr).Fp,e0,λll J us l H2 k2 ec ac c2 hn dt l2 b7=>⟨rfl,?_⟩⟩
 have S2:ab H H2:=λb u e=>k2 b u (da e hx)<|S1 _ _ e
 have ed:x∉J::(l.flatten++M):=λz=>by
  rcases LK.mp z with w|w
  .rw [<-w,Y] at ac;cases ac
  .rcases LY.mp w with w|w
   .obtain ⟨os,p,O⟩:=Mv.mp w
    rw [(hn os p x O).1] at Y;cases Y
   .exact eb w
 have SZ:ab (but H M) (but H2 (J::(l.flatten++M))):=λb u e=>by
  obtain ⟨q1,q2⟩:=ax e
  rw [bh]
  .exact S2 _ _ q2
  .intro z
   rcases LK.mp z with w|w
   .rw [w,back ac] at q2;cases q2
   .rcases LY.mp w with w|w
    .obtain ⟨os,p,O⟩:=Mv.mp w
     rw [back (hn os p b O).1] at q2;cases q2
    .exact q1 w
 have E2:ay (but H2 (J::(l.flatten++M))) (σ.set 2<|some (.ref x)) [some (.lst<|a.map a6),none,none,none,none]:=((E0.mono SZ).off 2 _).drop 1
 have eg:(σ.set 2<|some (.ref x))[2]?=some (some (.ref x)):=LM (by rw [e2];exact (show 2<5 by decide))
 have d0:but H2 (J::(l.flatten++M)) x=some (.ins CW dx<|lO v0 ll J):=by rw [bh ed];exact ec
 have a2:∀y∈M,y∈J::(l.flatten++M):=λy O=>Lv _<|LH _ O
 have ei:∀os∈l,∀y∈os,H y=none:=λos p y O=>back (hn os p y O).1
 have c3:H J=none:=back ac
 have ej:∀os∈l,J∉os:=λos p z=>(hn os p J z).2 rfl
 have am:J∈J::(l.flatten++M):=Lz
 have d1:=r0.mono SZ
 refine (show n0 _ _ _ (σ.set 2<|some (.ref x)) H2 from ?_)
 generalize J::(l.flatten++M)=Z at dt l2 b7 E2 d0 a2 am d1
 generalize σ.set 2 (some (.ref x))=f2 at E2 eg
 clear ed SZ hn ac Y k2 ec
 refine m4 (i:=3) l2 E2 Z8 ag (Mb _) λI vF ek H3 o3 i3 n3 h3 r3 l3 k3 E3=>?_
 have b8:ab H2 H3:=λx o e=>(k3 x o e).2
 have bs:H2 I=none:=none_of (ab.refl H2) k3
 have HF:H I=none:=gR S2 bs
 have e5:vF=[]:=by cases r3;rfl
 subst e5
 have S3:ab H H3:=S2.trans b8
 have a3:ab (but H2 Z) (but H3 (I::Z)):=ir bs b8
 have em:ek[2]?=some (some (.ref x)):=(o3 2 Z1).trans eg
 have c4:=b8 _ _ c2
 have an:=b7.fD
 have L3:dk C CL H3 (I::Z) us l (a.map λr=>bM r.2):=b7.frame (λos p y O=>Lv _<|an os p y O) (λb u _ e=>b8 _ _ e) a3
 have en:∀os∈l,I∉os:=λos p z=>l2 I (an os p I z) bs
 have cd:I≠J:=λz=>by rw [z,c2] at bs;cases bs
 have c5:∀y∈M,y∈I::Z:=λy O=>Lv _<|a2 y O
 have as:J∈I::Z:=Lv _ am
 have bc:I∈I::Z:=Lz
 have af:=a3 _ _ d0
 have a0:=a3 _ _ dt
 have ch:=d1.mono a3
 generalize I::Z=Z3 at l3 E3 a3 L3 c5 as bc af a0 ch
 clear b7 dt d0 l2 E2 an a2 am d1 a3
 refine ⟨.ref x,em,x,dx,_,rfl,(ax af).2,rfl,aa (fy (ds:=[]) ag) ag Z3 H3 (ab.refl _) l3 _ λvs H4 T co=>?_⟩
 obtain ⟨v1,rfl,r1⟩:=iu co
 have bd:=T.but Z3
 have dc:=L3.fD
 refine ⟨Z3,x,dx,v0,ll,J,us,l,a,a.map λr=>bM r.2,[],[],v1,rfl,l3.same T,bd _ _ af,bd _ _ a0,L3.frame dc (λb u _ e=>T _ _ e) bd,as,ej,T _ _ c4,ch.mono bd,r1,Gc hP hR,λv H5 Z5 d2 k5 cs ep l5 L5 n5 d3 r5=>?_⟩
 have eq:ab (but H4 Z3) (but H5 Z5):=λb u e=>by
  obtain ⟨q1,q2⟩:=ax e
  rw [bh λz=>(ep b z).elim q1 λw=>by rw [w] at q2;cases q2]
  exact k5 b u (λz=>q1 (by rw [z];exact as)) (λos p z=>q1<|dc os p b z) q2
 have bt:=bd.trans eq
 have bx:H5 I=some (.lst []):=k5 I _ cd en<|T _ _ h3
 have S5:ab H H5:=λb u e=>k5 b u (λz=>by rw [z,c3] at e;cases e) (λos p z=>by rw [ei os p b z] at e;cases e)<|T _ _<|S3 _ _ e
 have e6:ab H H4:=S3.trans T
 rw [C8] at L5
 have E5:ay (but H5 Z5) (ek.set 4<|some v) [some (.lst<|a.map a6),none,none,none,none]:=(E3.mono bt).off 4 _
 have e7:=E3.len
 rw [Jh,show dj [] []=[] from rfl] at d3 r5
 refine ⟨λm bi X=>∃(k:List (List bH)) (Z:ZX) (l:List ZX) (v4:V) (uF:List V),dJ c1 a k/\m=200-(au k).length/\bi[2]?=some (some (.ref x))/\bi[3]?=some (some (.ref I))/\bi[4]?=some (some v4)/\but X Z x=some (.ins CW dx<|lO v0 ll J)/\but X Z ll=some (.lst us)/\dk C CL X Z us l (gu a k)/\J∈Z/\(∀os∈l,J∉os/\I∉os/\∀y∈os,H y=none)/\X J=some (.dT<|cC<|au k++aI (bf 0 (cB a<|au k)<|au k))/\al (but X Z) v0 (.lst<|a.map a6)/\I∈Z/\X I=some (.lst uF)/\aC (but X Z) uF (jK k)/\al (but X Z) v4 (.lst<|(bf 0 (cB a<|au k)<|au k).map fx)/\ap Z X/\(∀y∈M,y∈Z)/\ab H X/\ay (but X Z) bi [some (.lst<|a.map a6),none,none,none,none],
  ⟨_,[],Z5,d2,v,[],dJ.nil,rfl,(LB Z1).trans em,(LB Z1).trans i3,LM (by rw [e7];exact (show 4<5 by decide)),bt _ _ af,bt _ _ a0,L5,cs _ as,λos p=>?_,d3,ch.mono bt,cs _ bc,bx,.nil,r5,l5,λy O=>cs _<|c5 y O,S5,E5⟩,?_⟩
 .refine ⟨λz=>?_,λz=>?_,λy O=>?_⟩
  .rcases n5 os p J z with ⟨o,h1,h2⟩|w
   .exact ej o h1 h2
   .rw [T _ _ c4] at w;cases w
  .rcases n5 os p I z with ⟨o,h1,h2⟩|w
   .exact en o h1 h2
   .rw [T _ _ h3] at w;cases w
  .rcases n5 os p y O with ⟨o,h1,h2⟩|w
   .exact ei o h1 y h2
   .exact gR e6 w
 clear E5 L5 d3 r5 l5 bx S5 bt eq n5 k5 cs ep L3 E3 ch a0 af bd
 rintro m bi X ⟨k,Z,l,v4,uF,b6,rfl,j2,j3,j4,er,es,LX,am,ao,ct,rz,bc,d4,rF,r4,lX,a2,SX,EX⟩
 obtain ⟨a4,u4,rfl,h4,co⟩:=r4.d7
 have e4:(!u4.isEmpty)= !(bf 0 (cB a<|au k)<|au k).isEmpty:=by
  have:=co.length
  rw [LA] at this
  cases u4<;>cases hc:bf 0 (cB a<|au k) (au k)<;>rw [hc] at this<;>simp at this⊢
 refine ⟨.ref a4,j4, !u4.isEmpty,.inl ⟨u4,aP.of (ax h4).2,rfl⟩,?_⟩
 rw [e4]
 by_cases a1:bf 0 (cB a<|au k) (au k)=[]
 .refine Eq.mpr (LG (c:=(!(bf 0 (cB a<|au k)<|au k).isEmpty)=true) (by rw [a1];simp)) ?_
  exact ⟨.ref I,j3,q (.lst<|jK k) _ X ⟨c1,a,k,rfl,rfl,hP,hR,b6,a1⟩ (S0.trans SX) (.lst (by rw [bh λz=>lv I z HF];exact d4)<|rF.mono<|dU a2)⟩
 have L:=b6.snoc hR a1
 have ft:=mG hP L.nd L.hd
 have fv:0<(bf 0 (cB a<|au k)<|au k).length:=List.length_pos_iff.mpr a1
 have e8:=xj hP hR L
 have fa:=AR hR L
 have fl:=Ej a k<|bf 0 (cB a<|au k)<|au k
 refine Eq.mpr (LJ (c:=(!(bf 0 (cB a<|au k)<|au k).isEmpty)=true) (by rw [<-e4];cases u4 with|nil=>(exact absurd (by have:=co.length;rw [LA] at this;exact MU this.symm) a1)|cons _ _=>rfl)) ?_
 have eT:au k++aI (bf 0 (cB a<|au k)<|au k)=au (k++[bf 0 (cB a<|au k)<|au k]):=by rw [iz,jG]
 rw [eT] at ct
 have f3:(au<|k++[bf 0 (cB a<|au k)<|au k]).length=(au k).length+(bf 0 (cB a<|au k)<|au k).length:=by rw [<-eT,LR];unfold aI;rw [LA]
 have f4:(aI<|bf 0 (cB a<|au k)<|au k)=aI (bf 0 (cB a<|au k)<|au k):=rfl
 have et:∀g∈aI (bf 0 (cB a<|au k)<|au k),g∈au (k++[bf 0 (cB a<|au k)<|au k]):=λg hg=>by rw [<-eT];exact LH _ hg
 have f5:k.length<=(au k).length:=wz b6
 generalize bf 0 (cB a<|au k) (au k)=bk at*
 have eu:ay (but X Z) bi [some (.lst<|a.map a6),none,none,none,some (.lst<|bk.map fx)]:=Ia EX j4 r4
 refine ⟨_,λ_ _ h=>h,?_⟩
 refine sF (d:=.lst<|bk.map fx) lX eu bc j3 d4 rF (by unfold jK;rw [LA];exact cy Z4) (aG (i:=4) eu rfl) λv5 X5 k5 l5 bx ev E5=>?_
 have an:=LX.fD
 have S5:ab (but X Z) (but X5 Z):=λb u e=>by
  obtain ⟨q1,q2⟩:=ax e
  rw [bh q1]
  exact k5 b u (λz=>q1 (by rw [z];exact bc)) q2
 have fn:ab H X5:=λb u e=>k5 b u (λz=>by rw [z,HF] at e;cases e)<|SX _ _ e
 have cd:J≠I:=λz=>by rw [z,d4] at ct;cases ct
 have dd:=k5 J _ cd ct
 have fp:dk C CL X5 Z us l (gu a k):=LX.frame an (λb u q3 e=>by obtain ⟨os,p,hb⟩:=q3;exact k5 b u (λz=>(ao os p).2.1 (by rw [<-z];exact hb)) e) S5
 have di:=S5 _ _ er
 dsimp only
 refine ⟨.ref x,j2,x,dx,_,rfl,(ax di).2,rfl,aa (bN (d:=dg<|aI bk) ⟨bk,rfl,by omega,rfl⟩<|aa (aG (i:=4) E5 rfl) ag) ag Z X5 (ab.refl _) l5 _ λvs X6 s6 fr=>?_⟩
 obtain ⟨v1,rfl,r1⟩:=iu fr
 have bl:=s6.but Z
 refine ⟨Z,x,dx,v0,ll,J,us,l,a,gu a k,_,aI bk,v1,rfl,l5.same s6,bl _ _ di,bl _ _<|S5 _ _ es,fp.frame an (λb u _ e=>s6 _ _ e) bl,am,λos p=>(ao os p).1,s6 _ _ dd,(rz.mono S5).mono bl,r1,e8,λv X7 Z7 d5 k7 ea fs l7 L7 n7 ew r7=>?_⟩
 rw [vE _ _ et,fa] at ew r7
 rw [fl] at L7
 have ex:ab (but X6 Z) (but X7 Z7):=λb u e=>by
  obtain ⟨q1,q2⟩:=ax e
  rw [bh λz=>(fs b z).elim q1 λw=>by rw [w] at q2;cases q2]
  exact k7 b u (λz=>q1 (by rw [z];exact am)) (λos p z=>q1<|an os p b z) q2
 have c0:=S5.trans<|bl.trans ex
 have K6:ab H X6:=fn.trans s6
 refine ⟨_,?_,k++[bk],Z7,d5,v,_,L,rfl,(LB Z1).trans j2,(LB Z1).trans j3,LM (by rw [EX.len];exact (show 4<5 by decide)),c0 _ _ er,c0 _ _ es,L7,ea _ am,λos p=>?_,ew,rz.mono c0,ea _ bc,k7 I _ (MC cd) (λos p=>(ao os p).2.1)<|s6 _ _ bx,?_,r7,l7,λy O=>ea _<|a2 y O,λb u e=>?_,(EX.mono c0).off 4 _⟩
 .omega
 .refine ⟨λz=>?_,λz=>?_,λy O=>?_⟩
  .rcases n7 os p J z with ⟨o,h1,h2⟩|w
   .exact (ao o h1).1 h2
   .rw [s6 _ _ dd] at w;cases w
  .rcases n7 os p I z with ⟨o,h1,h2⟩|w
   .exact (ao o h1).2.1 h2
   .rw [s6 _ _ bx] at w;cases w
  .rcases n7 os p y O with ⟨o,h1,h2⟩|w
   .exact (ao o h1).2.2 y h2
   .exact gR K6 w
 .unfold jK at ev⊢
  rw [Me]
  exact ev.mono<|bl.trans ex
 .exact k7 b u (λz=>by rw [z,c3] at e;cases e) (λos p z=>by rw [(ao os p).2.2 b z] at e;cases e)<|K6 _ _ e
def FM:bW ["rules"] ["rules"] (ba qW):=⟨rfl,rfl,rfl,Z9,rfl,Z9,Z9⟩
def DD (F:aF K "rounds" "rounds" qW f fd)(a:aV P w K mg base 11 "reasons_by_round" ["rules"] (jB rN zF))(c:aV P w K mg base 1 "facts_of" ["found"] (bw uC)):bp P w K mg base bz 12 f fd ["rules"] (jB rN Ao):=by
 refine F.ok FM (qF (n:=1) λY q0=>by obtain ⟨_,_,e,_⟩:=q0;rw [e];rfl) λac A z s H vs Q E N h=>?_
 obtain ⟨M,Y,B,rs,⟨p,j,rfl,hP,hR,C⟩,q⟩:=h
 refine ⟨_,(aB<|bu<|fM ["found"] [] 1 (cq<|bG a N<|ai (pv 0) aw) (λ_ _ _ _ _=>(bv 0<|ky _)) (λ_ _ _ _ _=>jw) λ_ _ _ _ _=>(kA c N<|ai (pv 0) aw)),?_⟩
 have b:Bx H M [] _ H [Sl.d (.lst<|j.map a6)]:=gW B rs ["rules"]
 refine .inl ?_
 unfold kg iF
 refine aa (b.lA.vd (i:=0) rfl) ag M H (ab.refl _) B _ λvs H2 G I=>⟨M,_,B.same G,by rw [Mi];exact I,⟨p,j,rfl,hP,hR,C⟩,λd v O u T r3=>?_⟩
 obtain ⟨o,m,g,e1,rfl,t⟩:=u
 have U:(au g).length<=110:=mG t.pk t.run.nd t.run.hd
 have af:=wz t.run
 have b3:=b.grow<|G.trans T
 refine (show iP (kg K<|tK v) (aY [] 1) (cv 0) jD _ _ O _ from ?_)
 refine ae.eq (b3.wide.comp (λ_=>true) (λd=>.lst (match d with|.lst l=>l.map (λy=>match y with|.tup (x::_)=>x|_=>.av)|_=>[])) (Cf (tl:=tK v) (ds:=jK g) λM' J s l Q k=>k v J (ab.refl _)<|r3.mono s) (λ_ _ _ _ _=>jS) (λG' aj d u _ e'=>?_) (by unfold jK;rw [LA];exact cy Z4)) ?_ M O (ab.refl _) b3.live _ λv' J s' r'=>q (.lst<|g.map λr=>dg<|aI r) v' J ⟨o,m,g,e1,rfl,t⟩ (G.trans<|T.trans s') r'
 .unfold jK at u
  obtain ⟨r,L,rfl⟩:=LS.mp u
  have hl:r.length<=1000:=by
   have h1:=(List.sublist_flatten_of_mem L).length_le
   have h2:(au g).length=g.flatten.length:=by unfold au aI;rw [LA]
   omega
  refine ae.eq (bN (d:=dg<|aI r) ⟨r,rfl,hl,rfl⟩<|aa (e'.v rfl) ag) ?_
  unfold aI
  show D.lst ((r.map (·.1)).map D.tup)=D.lst ((r.map fx).map _)
  rw [Mn,Mn]
  rfl
 .unfold jK
  rw [MG.mpr λ_ _=>rfl,Mn]
  congr 1
  refine Md λr _=>?_
  unfold aI
  show D.lst ((r.map fx).map _)=D.lst ((r.map (·.1)).map D.tup)
  rw [Mn,Mn]
  rfl
end
end a5
namespace FL
open PySem L2
section
variable {P:Program}{w:World}{K:PySem.W.Frag}{mg:Str->Option Value}{base h:Heap}{x q:Str}{st:Stmt}{f C:Addr}{fd:FuncData}{oc kV dc pm cd ct:Value}{od an:Option Addr}{sl:Array (Option Value)}{n:Nat}{ps:List Str}{sp:Sp}{p1 p2 p3 p4 p5:Str}
def cU (X:K.In h)(G:h.Ns mainGlobals mg)(a:W.nsIn K mainGlobals x=some (some (.ref f)))(l:K.lookup f=some ⟨oc,od,.func (W.fnOf x x (dI st) (dA st) (ba st) .none kV dc pm an cd ct),sl⟩)(c:W.codeIn K cd x=true)(k:W.keepIn K (.ref f)=true):∃f d,aF K x x st f d/\mg x=some (.ref f):=⟨f,_,wm l c k,OY X G a⟩
def gU (a:W.findIn K (.ref C) x=some (some (.ref f)))(i:W.isFn K (.ref f)=true)(l:K.lookup f=some ⟨oc,od,.func (W.fnOf x q (dI st) (dA st) (ba st) .none kV dc pm an cd ct),sl⟩)(c:W.codeIn K cd q=true)(k:W.keepIn K (.ref f)=true):∃f d,aF K x q st f d/\c8 K C x f:=⟨f,_,wm l c k,⟨a,i,k⟩⟩
def vJ (X:K.In h)(G:h.Ns mainGlobals mg)(n:W.nsIn K mainGlobals x=some (some (.ref C)))(a:W.plainGet K C Str.empty=true)(b:W.hasDictIn K C=true)(c:W.plainOver K C=true)(d:W.findIn K (.ref C) "__setattr__"=some (some (.builtin "object.__setattr__")))(e:W.makesIn K C=true)(g:W.keepIn K (.ref C)=true):mg x=some (.ref C)/\dm K C/\W.makesIn K C=true/\W.keepIn K (.ref C)=true:=⟨OY X G n,⟨a,b,c,d⟩,e,g⟩
def aV.of (h:bp P w K mg base bz n f fd ps sp)(b:Binds K fd ps [])(k:W.keepIn K (.ref f)=true)(m:mg x=some (.ref f)):aV P w K mg base n x ps sp:=⟨⟨f,fd,h,b,k,m⟩⟩
def ee.of (h:bp P w K mg base bz n f fd ps sp)(b:Binds K fd ps [])(m:c8 K C x f):ee P w K mg base n C x ps sp:=⟨⟨f,fd,h,b,m⟩⟩
def jo.of (h:bp P w K mg base bz n f fd ps sp)(b:Binds K fd ps [])(m:c8 K C "__init__" f)(c:mg x=some (.ref C)/\dm K C/\W.makesIn K C=true/\W.keepIn K (.ref C)=true):jo P w K mg base n C x ps sp:=⟨⟨f,fd,h,b,⟨c.2.2.1,m.at_,m.fn,c.2.2.2⟩,c.1⟩⟩
def b1 (F:aF K x q st f fd)(h:∀(kV b pm:Value) (an:Option Addr) (c ct a:Value),bindArgs (W.fnOf x q (dI st) (dA st) (ba st) .none kV b pm an c ct) ⟨[a],[]⟩=pure [(p1,a)]):Binds K fd [p1] []:=F.binds λkV d pm an e ct g i=>match g,i with|[a],_=>h kV d pm an e ct a
def b2 (F:aF K x q st f fd)(h:∀(kV c pm:Value) (an:Option Addr) (d ct a b:Value),bindArgs (W.fnOf x q (dI st) (dA st) (ba st) .none kV c pm an d ct) ⟨[a,b],[]⟩=pure [(p1,a),(p2,b)]):Binds K fd [p1,p2] []:=F.binds λkV e pm an g ct i j=>match i,j with|[a,b],_=>h kV e pm an g ct a b
def b3 (F:aF K x q st f fd)(h:∀(kV d pm:Value) (an:Option Addr) (e ct a b c:Value),bindArgs (W.fnOf x q (dI st) (dA st) (ba st) .none kV d pm an e ct) ⟨[a,b,c],[]⟩=pure [(p1,a),(p2,b),(p3,c)]):Binds K fd [p1,p2,p3] []:=F.binds λkV g pm an i ct j k=>match j,k with|[a,b,c],_=>h kV g pm an i ct a b c
def b4 (F:aF K x q st f fd)(h:∀(kV e pm:Value) (an:Option Addr) (g ct a b c d:Value),bindArgs (W.fnOf x q (dI st) (dA st) (ba st) .none kV e pm an g ct) ⟨[a,b,c,d],[]⟩=pure [(p1,a),(p2,b),(p3,c),(p4,d)]):Binds K fd [p1,p2,p3,p4] []:=F.binds λkV i pm an j ct k l=>match k,l with|[a,b,c,d],_=>h kV i pm an j ct a b c d
def b5 (F:aF K x q st f fd)(h:∀(kV g pm:Value) (an:Option Addr) (i ct a b c d e:Value),bindArgs (W.fnOf x q (dI st) (dA st) (ba st) .none kV g pm an i ct) ⟨[a,b,c,d,e],[]⟩=pure [(p1,a),(p2,b),(p3,c),(p4,d),(p5,e)]):Binds K fd [p1,p2,p3,p4,p5] []:=F.binds λkV j pm an k ct l m=>match l,m with|[a,b,c,d,e],_=>h kV j pm an k ct a b c d e
end
end FL
namespace a5
open PySem L2 FL
def Kc{K:W.Frag}(X:K.In h)(G:h.Ns mainGlobals a)(u:W.nsIn K mainGlobals "LESS"=some (some (.str "less" t))):∃t,a "LESS"=some (.str "less" t):=⟨t,OY X G u⟩
def FU{K:W.Frag}(X:K.In h)(G:h.Ns mainGlobals a)(u:W.nsIn K mainGlobals "UNLIKE"=some (some (.str "unlike" t))):∃t,a "UNLIKE"=some (.str "unlike" t):=⟨t,OY X G u⟩
def Fj{K:W.Frag}(X:K.In h)(G:h.Ns mainGlobals a)(z:W.nsIn K mainGlobals "max"=some none):a "max"=none:=My X G z
section
variable {l:PySem.W.OpenLaw}{w:World}{K:PySem.W.Frag}{h base:Heap}{mg:Str->Option Value}{A_Step A_Loom A_Weaving f_is_blank f_filled f_matched f_is_guard f_blanks_in f_holds f_askers_in f_guards_in f_slots_of f_is_ready f_steps_for f_refuse_loose f_check_body f_check_rule f_facts_of f_reasons_by_round f_rounds f_law_at f_law_whole f_law_mixed f_law_is_fact f_law_blanks_in f_law_pool_by f_law_fill_in f_law_true f_law_menu_by f_law_rules_by f_law_choices f_law_alike f_law_stays f_law_latest_of f_law_no_sooner f_Step_init f_Step_offer f_Step_allows f_Step_carry_on f_Loom_init f_Loom_take_in f_Loom_beginnings f_Loom_is_whole f_Loom_carried_on f_Weaving_given_by f_Weaving_one_round f_Weaving_init:Addr}{d_is_blank d_filled d_matched d_is_guard d_blanks_in d_holds d_askers_in d_guards_in d_slots_of d_is_ready d_steps_for d_refuse_loose d_check_body d_check_rule d_facts_of d_reasons_by_round d_rounds d_law_at d_law_whole d_law_mixed d_law_is_fact d_law_blanks_in d_law_pool_by d_law_fill_in d_law_true d_law_menu_by d_law_rules_by d_law_choices d_law_alike d_law_stays d_law_latest_of d_law_no_sooner d_Step_init d_Step_offer d_Step_allows d_Step_carry_on d_Loom_init d_Loom_take_in d_Loom_beginnings d_Loom_is_whole d_Loom_carried_on d_Weaving_given_by d_Weaving_one_round d_Weaving_init fd:FuncData}{fa:Addr}{t_LESS t_UNLIKE:Tok}
def all_mk (B:Bl mg)(e1:aF K "law" "law" mS fa fd)
 (N:aF K "is_blank" "is_blank" sT f_is_blank d_is_blank/\mg "is_blank"=some (.ref f_is_blank))
 (a4:aF K "filled" "filled" sN f_filled d_filled/\mg "filled"=some (.ref f_filled))
 (aj:aF K "matched" "matched" tU f_matched d_matched/\mg "matched"=some (.ref f_matched))
 (O:aF K "is_guard" "is_guard" t8 f_is_guard d_is_guard/\mg "is_guard"=some (.ref f_is_guard))
 (z:aF K "blanks_in" "blanks_in" rT f_blanks_in d_blanks_in/\mg "blanks_in"=some (.ref f_blanks_in))
 (bs:aF K "holds" "holds" s_holds f_holds d_holds/\mg "holds"=some (.ref f_holds))
 (A:aF K "askers_in" "askers_in" rY f_askers_in d_askers_in/\mg "askers_in"=some (.ref f_askers_in))
 (E:aF K "guards_in" "guards_in" sZ f_guards_in d_guards_in/\mg "guards_in"=some (.ref f_guards_in))
 (Q:aF K "slots_of" "slots_of" qN f_slots_of d_slots_of/\mg "slots_of"=some (.ref f_slots_of))
 (U:aF K "is_ready" "is_ready" tI f_is_ready d_is_ready/\mg "is_ready"=some (.ref f_is_ready))
 (G:aF K "steps_for" "steps_for" ti f_steps_for d_steps_for/\mg "steps_for"=some (.ref f_steps_for))
 (g:aF K "refuse_loose" "refuse_loose" sx f_refuse_loose d_refuse_loose/\mg "refuse_loose"=some (.ref f_refuse_loose))
 (u:aF K "check_body" "check_body" qL f_check_body d_check_body/\mg "check_body"=some (.ref f_check_body))
 (v:aF K "check_rule" "check_rule" qP f_check_rule d_check_rule/\mg "check_rule"=some (.ref f_check_rule))
 (Y:aF K "facts_of" "facts_of" tT f_facts_of d_facts_of/\mg "facts_of"=some (.ref f_facts_of))
 (a:aF K "reasons_by_round" "reasons_by_round" tq f_reasons_by_round d_reasons_by_round/\mg "reasons_by_round"=some (.ref f_reasons_by_round))
 (bc:aF K "rounds" "rounds" qW f_rounds d_rounds/\mg "rounds"=some (.ref f_rounds))
 (bd:aF K "_law_at" "_law_at" sU f_law_at d_law_at/\mg "_law_at"=some (.ref f_law_at))
 (H:aF K "_law_whole" "_law_whole" qG f_law_whole d_law_whole/\mg "_law_whole"=some (.ref f_law_whole))
 (I:aF K "_law_mixed" "_law_mixed" uu f_law_mixed d_law_mixed/\mg "_law_mixed"=some (.ref f_law_mixed))
 (m:aF K "_law_is_fact" "_law_is_fact" ug f_law_is_fact d_law_is_fact/\mg "_law_is_fact"=some (.ref f_law_is_fact))
 (c:aF K "_law_blanks_in" "_law_blanks_in" sj f_law_blanks_in d_law_blanks_in/\mg "_law_blanks_in"=some (.ref f_law_blanks_in))
 (n:aF K "_law_pool_by" "_law_pool_by" uj f_law_pool_by d_law_pool_by/\mg "_law_pool_by"=some (.ref f_law_pool_by))
 (o:aF K "_law_fill_in" "_law_fill_in" tP f_law_fill_in d_law_fill_in/\mg "_law_fill_in"=some (.ref f_law_fill_in))
 (ac:aF K "_law_true" "_law_true" ro f_law_true d_law_true/\mg "_law_true"=some (.ref f_law_true))
 (p:aF K "_law_menu_by" "_law_menu_by" uc f_law_menu_by d_law_menu_by/\mg "_law_menu_by"=some (.ref f_law_menu_by))
 (i:aF K "_law_rules_by" "_law_rules_by" qQ f_law_rules_by d_law_rules_by/\mg "_law_rules_by"=some (.ref f_law_rules_by))
 (q:aF K "_law_choices" "_law_choices" sO f_law_choices d_law_choices/\mg "_law_choices"=some (.ref f_law_choices))
 (J:aF K "_law_alike" "_law_alike" sw f_law_alike d_law_alike/\mg "_law_alike"=some (.ref f_law_alike))
 (L:aF K "_law_stays" "_law_stays" rB f_law_stays d_law_stays/\mg "_law_stays"=some (.ref f_law_stays))
 (d:aF K "_law_latest_of" "_law_latest_of" rj f_law_latest_of d_law_latest_of/\mg "_law_latest_of"=some (.ref f_law_latest_of))
 (e:aF K "_law_no_sooner" "_law_no_sooner" rX f_law_no_sooner d_law_no_sooner/\mg "_law_no_sooner"=some (.ref f_law_no_sooner))
 (am:aF K "__init__" "Step.__init__" lR f_Step_init d_Step_init/\c8 K A_Step "__init__" f_Step_init)
 (af:aF K "offer" "Step.offer" mO f_Step_offer d_Step_offer/\c8 K A_Step "offer" f_Step_offer)
 (M:aF K "allows" "Step.allows" mH f_Step_allows d_Step_allows/\c8 K A_Step "allows" f_Step_allows)
 (s:aF K "carry_on" "Step.carry_on" mj f_Step_carry_on d_Step_carry_on/\c8 K A_Step "carry_on" f_Step_carry_on)
 (an:aF K "__init__" "Loom.__init__" mN f_Loom_init d_Loom_init/\c8 K A_Loom "__init__" f_Loom_init)
 (x:aF K "take_in" "Loom.take_in" mr f_Loom_take_in d_Loom_take_in/\c8 K A_Loom "take_in" f_Loom_take_in)
 (j:aF K "beginnings" "Loom.beginnings" mR f_Loom_beginnings d_Loom_beginnings/\c8 K A_Loom "beginnings" f_Loom_beginnings)
 (t:aF K "is_whole" "Loom.is_whole" lH f_Loom_is_whole d_Loom_is_whole/\c8 K A_Loom "is_whole" f_Loom_is_whole)
 (k:aF K "carried_on" "Loom.carried_on" mv f_Loom_carried_on d_Loom_carried_on/\c8 K A_Loom "carried_on" f_Loom_carried_on)
 (f:aF K "given_by" "Weaving.given_by" mD f_Weaving_given_by d_Weaving_given_by/\c8 K A_Weaving "given_by" f_Weaving_given_by)
 (b:aF K "one_round" "Weaving.one_round" lS f_Weaving_one_round d_Weaving_one_round/\c8 K A_Weaving "one_round" f_Weaving_one_round)
 (y:aF K "__init__" "Weaving.__init__" mQ f_Weaving_init d_Weaving_init/\c8 K A_Weaving "__init__" f_Weaving_init)
 (ei:mg "Step"=some (.ref A_Step)/\dm K A_Step/\W.makesIn K A_Step=true/\W.keepIn K (.ref A_Step)=true) (ew:bO K A_Step "asker") (ek:bO K A_Step "shared") (em:bO K A_Step "guards") (en:bO K A_Step "offers") (ep:bO K A_Step "newest")
 (ej:mg "Loom"=some (.ref A_Loom)/\dm K A_Loom/\W.makesIn K A_Loom=true/\W.keepIn K (.ref A_Loom)=true) (eq:bO K A_Loom "steps") (c0:bO K A_Loom "is_barred") (dd:bO K A_Loom "taken_in") (er:bO K A_Loom "fresh") (bk:bO K A_Loom "last_fresh_step")
 (cl:mg "Weaving"=some (.ref A_Weaving)/\dm K A_Weaving/\W.makesIn K A_Weaving=true/\W.keepIn K (.ref A_Weaving)=true) (es:bO K A_Weaving "rules") (et:bO K A_Weaving "looms") (ex:bO K A_Weaving "told")
 (di:mg "LESS"=some (.str "less" t_LESS))
 (bi:mg "UNLIKE"=some (.str "unlike" t_UNLIKE))
 (eb:mg "max"=none)
 :bp l.prog w K mg base bz 13 fa fd ["_law_script"] (tL K):=by
 have T:lG K A_Step:=⟨ei.2.1,ew,ek,em,en,ep⟩
 have TL:kO K A_Loom:=⟨ej.2.1,eq,c0,dd,er,bk⟩
 have TW:oW K A_Weaving:=⟨cl.2.1,es,et,ex⟩
 have di:=And.intro di (show RelV (.str "less") (.str "less" t_LESS) from ⟨_,rfl⟩)
 have bi:=And.intro bi (show RelV (.str "unlike") (.str "unlike" t_UNLIKE) from ⟨_,rfl⟩)
 have b7:aV l.prog w K mg base _ "is_blank" _ _:=.of (K4 N.1 B) (b1 N.1 λ_ _ _ _ _ _ _=>rfl) N.1.kp N.2
 have c5:aV l.prog w K mg base _ "filled" _ _:=.of (JT a4.1 B) (b2 a4.1 λ_ _ _ _ _ _ _ _=>rfl) a4.1.kp a4.2
 have ec:aV l.prog w K mg base _ "matched" _ _:=.of (Fd aj.1 B b7) (b3 aj.1 λ_ _ _ _ _ _ _ _ _=>rfl) aj.1.kp aj.2
 have a1:aV l.prog w K mg base _ "is_guard" _ _:=.of (Ij O.1 B di bi) (b1 O.1 λ_ _ _ _ _ _ _=>rfl) O.1.kp O.2
 have r:aV l.prog w K mg base _ "blanks_in" _ _:=.of (HJ z.1 B b7) (b1 z.1 λ_ _ _ _ _ _ _=>rfl) z.1.kp z.2
 have d1:aV l.prog w K mg base _ "holds" _ _:=.of (ok_holds bs.1 B bi) (b1 bs.1 λ_ _ _ _ _ _ _=>rfl) bs.1.kp bs.2
 have bt:aV l.prog w K mg base _ "askers_in" _ _:=.of (HG A.1 B a1) (b1 A.1 λ_ _ _ _ _ _ _=>rfl) A.1.kp A.2
 have ao:aV l.prog w K mg base _ "guards_in" _ _:=.of (DN E.1 B a1) (b1 E.1 λ_ _ _ _ _ _ _=>rfl) E.1.kp E.2
 have b8:aV l.prog w K mg base _ "slots_of" _ _:=.of (FZ Q.1 B r) (b2 Q.1 λ_ _ _ _ _ _ _ _=>rfl) Q.1.kp Q.2
 have d2:aV l.prog w K mg base _ "is_ready" _ _:=.of (Lh U.1 B r b8) (b2 U.1 λ_ _ _ _ _ _ _ _=>rfl) U.1.kp U.2
 have ez:jo l.prog w K mg base _ A_Step "Step" _ _:=.of (Iv am.1 T (C:=A_Step)) (b4 am.1 λ_ _ _ _ _ _ _ _ _ _=>rfl) am.2 ei
 have ey:ee l.prog w K mg base _ A_Step "offer" _ _:=.of (EU af.1 T B ec (C:=A_Step)) (b3 af.1 λ_ _ _ _ _ _ _ _ _=>rfl) af.2
 have eu:ee l.prog w K mg base _ A_Step "allows" _ _:=.of (F3 M.1 T B c5 d1 (C:=A_Step)) (b2 M.1 λ_ _ _ _ _ _ _ _=>rfl) M.2
 have d3:ee l.prog w K mg base _ A_Step "carry_on" _ _:=.of (Kz s.1 T B eu (C:=A_Step)) (b3 s.1 λ_ _ _ _ _ _ _ _ _=>rfl) s.2
 have dp:aV l.prog w K mg base _ "steps_for" _ _:=.of (D4 G.1 B ao bt r b8 d2 ez (C:=A_Step)) (b1 G.1 λ_ _ _ _ _ _ _=>rfl) G.1.kp G.2
 have e0:jo l.prog w K mg base _ A_Loom "Loom" _ _:=.of (Jx an.1 TL B ao r d1 dp (C:=A_Step) (CL:=A_Loom)) (b2 an.1 λ_ _ _ _ _ _ _ _=>rfl) an.2 ej
 have ed:ee l.prog w K mg base _ A_Loom "take_in" _ _:=.of (IE x.1 T TL B eb ey (C:=A_Step) (CL:=A_Loom)) (b2 x.1 λ_ _ _ _ _ _ _ _=>rfl) x.2
 have c1:ee l.prog w K mg base _ A_Loom "beginnings" _ _:=.of (D6 j.1 T TL B (C:=A_Step) (CL:=A_Loom)) (b1 j.1 λ_ _ _ _ _ _ _=>rfl) j.2
 have d4:ee l.prog w K mg base _ A_Loom "is_whole" _ _:=.of (JG t.1 TL B (C:=A_Step) (CL:=A_Loom)) (b2 t.1 λ_ _ _ _ _ _ _ _=>rfl) t.2
 have c2:ee l.prog w K mg base _ A_Loom "carried_on" _ _:=.of (Ff k.1 T TL B eb d3 (C:=A_Step) (CL:=A_Loom)) (b2 k.1 λ_ _ _ _ _ _ _ _=>rfl) k.2
 have d5:ee l.prog w K mg base _ A_Weaving "given_by" _ _:=.of (Ge f.1 TL TW B c5 c1 d4 c2 (C:=A_Step) (CL:=A_Loom) (CW:=A_Weaving)) (b3 f.1 λ_ _ _ _ _ _ _ _ _=>rfl) f.2
 have ds:ee l.prog w K mg base _ A_Weaving "one_round" _ _:=.of (Gb b.1 TL TW B ed d5 (C:=A_Step) (CL:=A_Loom) (CW:=A_Weaving)) (b2 b.1 λ_ _ _ _ _ _ _ _=>rfl) b.2
 have eg:jo l.prog w K mg base _ A_Weaving "Weaving" _ _:=.of (HC y.1 TW e0 (C:=A_Step) (CL:=A_Loom) (CW:=A_Weaving)) (b2 y.1 λ_ _ _ _ _ _ _ _=>rfl) y.2 cl
 have a0:aV l.prog w K mg base _ "refuse_loose" _ _:=.of (JL g.1 B bt r) (b2 g.1 λ_ _ _ _ _ _ _ _=>rfl) g.1.kp g.2
 have c3:aV l.prog w K mg base _ "check_body" _ _:=.of (D7 u.1 B ao a0) (b1 u.1 λ_ _ _ _ _ _ _=>rfl) u.1.kp u.2
 have c4:aV l.prog w K mg base _ "check_rule" _ _:=.of (FF v.1 B a1 a0 c3) (b1 v.1 λ_ _ _ _ _ _ _=>rfl) v.1.kp v.2
 have cd:aV l.prog w K mg base _ "facts_of" _ _:=.of (Hq Y.1 B) (b1 Y.1 λ_ _ _ _ _ _ _=>rfl) Y.1.kp Y.2
 have bl:aV l.prog w K mg base _ "reasons_by_round" _ _:=.of (ER a.1 B TW c4 eg ds cd (C:=A_Step) (CL:=A_Loom) (CW:=A_Weaving)) (b1 a.1 λ_ _ _ _ _ _ _=>rfl) a.1.kp a.2
 have ev:aV l.prog w K mg base _ "rounds" _ _:=.of (DD bc.1 bl cd) (b1 bc.1 λ_ _ _ _ _ _ _=>rfl) bc.1.kp bc.2
 have dc:aV l.prog w K mg base _ "_law_at" _ _:=.of (Li bd.1 B) (b2 bd.1 λ_ _ _ _ _ _ _ _=>rfl) bd.1.kp bd.2
 have as:aV l.prog w K mg base _ "_law_whole" _ _:=.of (Db H.1 B) (b1 H.1 λ_ _ _ _ _ _ _=>rfl) H.1.kp H.2
 have dt:aV l.prog w K mg base _ "_law_mixed" _ _:=.of (Je I.1 B) (b1 I.1 λ_ _ _ _ _ _ _=>rfl) I.1.kp I.2
 have co:aV l.prog w K mg base _ "_law_is_fact" _ _:=.of (JC m.1 B as) (b1 m.1 λ_ _ _ _ _ _ _=>rfl) m.1.kp m.2
 have bx:aV l.prog w K mg base _ "_law_blanks_in" _ _:=.of (JR c.1 B) (b1 c.1 λ_ _ _ _ _ _ _=>rfl) c.1.kp c.2
 have a2:aV l.prog w K mg base _ "_law_pool_by" _ _:=.of (Ib n.1 B dc) (b1 n.1 λ_ _ _ _ _ _ _=>rfl) n.1.kp n.2
 have a3:aV l.prog w K mg base _ "_law_fill_in" _ _:=.of (GK o.1 B) (b2 o.1 λ_ _ _ _ _ _ _ _=>rfl) o.1.kp o.2
 have ea:aV l.prog w K mg base _ "_law_true" _ _:=.of (DM ac.1 B as) (b2 ac.1 λ_ _ _ _ _ _ _ _=>rfl) ac.1.kp ac.2
 have cs:aV l.prog w K mg base _ "_law_menu_by" _ _:=.of (J3 p.1 B) (b5 p.1 λ_ _ _ _ _ _ _ _ _ _ _=>rfl) p.1.kp p.2
 have ch:aV l.prog w K mg base _ "_law_rules_by" _ _:=.of (Ei i.1 B dc a2 cs) (b1 i.1 λ_ _ _ _ _ _ _=>rfl) i.1.kp i.2
 have ct:aV l.prog w K mg base _ "_law_choices" _ _:=.of (Ln q.1 B) (b2 q.1 λ_ _ _ _ _ _ _ _=>rfl) q.1.kp q.2
 have dx:aV l.prog w K mg base _ "_law_alike" _ _:=.of (D5 J.1 B as) (b2 J.1 λ_ _ _ _ _ _ _ _=>rfl) J.1.kp J.2
 have d0:aV l.prog w K mg base _ "_law_stays" _ _:=.of (Gk L.1 B dx) (b2 L.1 λ_ _ _ _ _ _ _ _=>rfl) L.1.kp L.2
 have b0:aV l.prog w K mg base _ "_law_latest_of" _ _:=.of (Iy d.1 B eb ea a3) (b3 d.1 λ_ _ _ _ _ _ _ _ _=>rfl) d.1.kp d.2
 have b6:aV l.prog w K mg base _ "_law_no_sooner" _ _:=.of (Jz e.1 B ct bx b0 a3) (b3 e.1 λ_ _ _ _ _ _ _ _ _=>rfl) e.1.kp e.2
 exact Hw e1 B dt a2 ch ev d0 co b6
end
def mX{K:W.Frag}(X:K.In h)(G:h.Ns mainGlobals mg)
 (n:W.nsIn K mainGlobals "Step"=some (some (.ref C))) (pg:W.plainGet K C Str.empty=true) (hd:W.hasDictIn K C=true) (po:W.plainOver K C=true) (sa:W.findIn K (.ref C) "__setattr__"=some (some (.builtin "object.__setattr__"))) (mk:W.makesIn K C=true) (kc:W.keepIn K (.ref C)=true)
 (g:W.findIn K (.ref C) "asker"=some none)
 (a:W.findIn K (.ref C) "shared"=some none)
 (b:W.findIn K (.ref C) "guards"=some none)
 (c:W.findIn K (.ref C) "offers"=some none)
 (e:W.findIn K (.ref C) "newest"=some none)
 (a0:W.findIn K (.ref C) "__init__"=some (some (.ref m))) (i0:W.isFn K (.ref m)=true) (l0:K.lookup m=some ⟨r,w,.func (W.fnOf "__init__" "Step.__init__" (dI lR) (dA lR) (ba lR) .none s t u x i v),y⟩) (c0:W.codeIn K i "Step.__init__"=true) (k0:W.keepIn K (.ref m)=true)
 (a1:W.findIn K (.ref C) "offer"=some (some (.ref o))) (i1:W.isFn K (.ref o)=true) (l1:K.lookup o=some ⟨z,I,.func (W.fnOf "offer" "Step.offer" (dI mO) (dA mO) (ba mO) .none A B E J j H),L⟩) (c1:W.codeIn K j "Step.offer"=true) (k1:W.keepIn K (.ref o)=true)
 (a2:W.findIn K (.ref C) "allows"=some (some (.ref p))) (i2:W.isFn K (.ref p)=true) (l2:K.lookup p=some ⟨M,U,.func (W.fnOf "allows" "Step.allows" (dI mH) (dA mH) (ba mH) .none N O Q Y k T),ac⟩) (c2:W.codeIn K k "Step.allows"=true) (k2:W.keepIn K (.ref p)=true)
 (a3:W.findIn K (.ref C) "carry_on"=some (some (.ref q))) (i3:W.isFn K (.ref q)=true) (l3:K.lookup q=some ⟨af,as,.func (W.fnOf "carry_on" "Step.carry_on" (dI mj) (dA mj) (ba mj) .none aj am an a4 l ao),bc⟩) (c3:W.codeIn K l "Step.carry_on"=true) (k3:W.keepIn K (.ref q)=true)
 :∃C,(mg "Step"=some (.ref C)/\dm K C/\W.makesIn K C=true/\W.keepIn K (.ref C)=true)/\bO K C "asker"/\bO K C "shared"/\bO K C "guards"/\bO K C "offers"/\bO K C "newest"/\(∃f d,aF K "__init__" "Step.__init__" lR f d/\c8 K C "__init__" f)/\(∃f d,aF K "offer" "Step.offer" mO f d/\c8 K C "offer" f)/\(∃f d,aF K "allows" "Step.allows" mH f d/\c8 K C "allows" f)/\(∃f d,aF K "carry_on" "Step.carry_on" mj f d/\c8 K C "carry_on" f):=
 ⟨C,vJ X G n pg hd po sa mk kc,g,a,b,c,e,gU a0 i0 l0 c0 k0,gU a1 i1 l1 c1 k1,gU a2 i2 l2 c2 k2,gU a3 i3 l3 c3 k3⟩
def mw{K:W.Frag}(X:K.In h)(G:h.Ns mainGlobals mg)
 (n:W.nsIn K mainGlobals "Loom"=some (some (.ref C))) (pg:W.plainGet K C Str.empty=true) (hd:W.hasDictIn K C=true) (po:W.plainOver K C=true) (sa:W.findIn K (.ref C) "__setattr__"=some (some (.builtin "object.__setattr__"))) (mk:W.makesIn K C=true) (kc:W.keepIn K (.ref C)=true)
 (e:W.findIn K (.ref C) "steps"=some none)
 (b:W.findIn K (.ref C) "is_barred"=some none)
 (c:W.findIn K (.ref C) "taken_in"=some none)
 (g:W.findIn K (.ref C) "fresh"=some none)
 (a:W.findIn K (.ref C) "last_fresh_step"=some none)
 (a0:W.findIn K (.ref C) "__init__"=some (some (.ref o))) (i0:W.isFn K (.ref o)=true) (l0:K.lookup o=some ⟨t,y,.func (W.fnOf "__init__" "Loom.__init__" (dI mN) (dA mN) (ba mN) .none u v w z i x),A⟩) (c0:W.codeIn K i "Loom.__init__"=true) (k0:W.keepIn K (.ref o)=true)
 (a1:W.findIn K (.ref C) "take_in"=some (some (.ref p))) (i1:W.isFn K (.ref p)=true) (l1:K.lookup p=some ⟨B,L,.func (W.fnOf "take_in" "Loom.take_in" (dI mr) (dA mr) (ba mr) .none E H I M j J),N⟩) (c1:W.codeIn K j "Loom.take_in"=true) (k1:W.keepIn K (.ref p)=true)
 (a2:W.findIn K (.ref C) "beginnings"=some (some (.ref q))) (i2:W.isFn K (.ref q)=true) (l2:K.lookup q=some ⟨O,ac,.func (W.fnOf "beginnings" "Loom.beginnings" (dI mR) (dA mR) (ba mR) .none Q T U af k Y),aj⟩) (c2:W.codeIn K k "Loom.beginnings"=true) (k2:W.keepIn K (.ref q)=true)
 (a3:W.findIn K (.ref C) "is_whole"=some (some (.ref r))) (i3:W.isFn K (.ref r)=true) (l3:K.lookup r=some ⟨am,bd,.func (W.fnOf "is_whole" "Loom.is_whole" (dI lH) (dA lH) (ba lH) .none an ao as bi l bc),bk⟩) (c3:W.codeIn K l "Loom.is_whole"=true) (k3:W.keepIn K (.ref r)=true)
 (a4:W.findIn K (.ref C) "carried_on"=some (some (.ref s))) (i4:W.isFn K (.ref s)=true) (l4:K.lookup s=some ⟨bl,b6,.func (W.fnOf "carried_on" "Loom.carried_on" (dI mv) (dA mv) (ba mv) .none bs bt bx b7 m b0),b8⟩) (c4:W.codeIn K m "Loom.carried_on"=true) (k4:W.keepIn K (.ref s)=true)
 :∃C,(mg "Loom"=some (.ref C)/\dm K C/\W.makesIn K C=true/\W.keepIn K (.ref C)=true)/\bO K C "steps"/\bO K C "is_barred"/\bO K C "taken_in"/\bO K C "fresh"/\bO K C "last_fresh_step"/\(∃f d,aF K "__init__" "Loom.__init__" mN f d/\c8 K C "__init__" f)/\(∃f d,aF K "take_in" "Loom.take_in" mr f d/\c8 K C "take_in" f)/\(∃f d,aF K "beginnings" "Loom.beginnings" mR f d/\c8 K C "beginnings" f)/\(∃f d,aF K "is_whole" "Loom.is_whole" lH f d/\c8 K C "is_whole" f)/\(∃f d,aF K "carried_on" "Loom.carried_on" mv f d/\c8 K C "carried_on" f):=
 ⟨C,vJ X G n pg hd po sa mk kc,e,b,c,g,a,gU a0 i0 l0 c0 k0,gU a1 i1 l1 c1 k1,gU a2 i2 l2 c2 k2,gU a3 i3 l3 c3 k3,gU a4 i4 l4 c4 k4⟩
def ni{K:W.Frag}(X:K.In h)(G:h.Ns mainGlobals T)
 (n:W.nsIn K mainGlobals "Weaving"=some (some (.ref C))) (U:W.plainGet K C Str.empty=true) (Y:W.hasDictIn K C=true) (po:W.plainOver K C=true) (sa:W.findIn K (.ref C) "__setattr__"=some (some (.builtin "object.__setattr__"))) (mk:W.makesIn K C=true) (kc:W.keepIn K (.ref C)=true)
 (a:W.findIn K (.ref C) "rules"=some none)
 (b:W.findIn K (.ref C) "looms"=some none)
 (c:W.findIn K (.ref C) "told"=some none)
 (a0:W.findIn K (.ref C) "given_by"=some (some (.ref j))) (i0:W.isFn K (.ref j)=true) (l0:K.lookup j=some ⟨m,s,.func (W.fnOf "given_by" "Weaving.given_by" (dI mD) (dA mD) (ba mD) .none o p q t e r),u⟩) (c0:W.codeIn K e "Weaving.given_by"=true) (k0:W.keepIn K (.ref j)=true)
 (a1:W.findIn K (.ref C) "one_round"=some (some (.ref k))) (i1:W.isFn K (.ref k)=true) (l1:K.lookup k=some ⟨v,A,.func (W.fnOf "one_round" "Weaving.one_round" (dI lS) (dA lS) (ba lS) .none w x y B g z),E⟩) (c1:W.codeIn K g "Weaving.one_round"=true) (k1:W.keepIn K (.ref k)=true)
 (a2:W.findIn K (.ref C) "__init__"=some (some (.ref l))) (i2:W.isFn K (.ref l)=true) (l2:K.lookup l=some ⟨H,N,.func (W.fnOf "__init__" "Weaving.__init__" (dI mQ) (dA mQ) (ba mQ) .none I J L O i M),Q⟩) (c2:W.codeIn K i "Weaving.__init__"=true) (k2:W.keepIn K (.ref l)=true)
 :∃C,(T "Weaving"=some (.ref C)/\dm K C/\W.makesIn K C=true/\W.keepIn K (.ref C)=true)/\bO K C "rules"/\bO K C "looms"/\bO K C "told"/\(∃f d,aF K "given_by" "Weaving.given_by" mD f d/\c8 K C "given_by" f)/\(∃f d,aF K "one_round" "Weaving.one_round" lS f d/\c8 K C "one_round" f)/\(∃f d,aF K "__init__" "Weaving.__init__" mQ f d/\c8 K C "__init__" f):=
 ⟨C,vJ X G n U Y po sa mk kc,a,b,c,gU a0 i0 l0 c0 k0,gU a1 i1 l1 c1 k1,gU a2 i2 l2 c2 k2⟩
def HM{K:W.Frag}{kV:Value}(X:K.In h)(G:h.Ns mainGlobals d)(b:d "law"=some (.ref g))(a:W.nsIn K mainGlobals "law"=some (some (.ref f)))(l:K.lookup f=some ⟨m,q,.func (W.fnOf "law" "law" (dI mS) (dA mS) (ba mS) .none kV n o r i p),t⟩)(c:W.codeIn K i "law"=true)(k:W.keepIn K (.ref f)=true):∃j:FuncData,(∀(s:Shared) (v:Value),BindsTo s j ⟨[v],[]⟩ [("_law_script",v)])/\aF K "law" "law" mS g j:=by
 have e:=b.symm.trans<|OY X G a
 cases e
 exact ⟨_,λs v=>.of_eq rfl,wm l c k⟩
def Gx{K:W.Frag}(X:K.In h)(G:h.Ns mainGlobals o)(j:W.nsIn K mainGlobals "len"=some none)(a:W.nsIn K mainGlobals "isinstance"=some none)(d:W.nsIn K mainGlobals "range"=some none)(k:W.nsIn K mainGlobals "int"=some none)(l:W.nsIn K mainGlobals "str"=some none)(f:W.nsIn K mainGlobals "bool"=some none)(g:W.nsIn K mainGlobals "list"=some none)(e:W.nsIn K mainGlobals "tuple"=some none)(i:W.nsIn K mainGlobals "dict"=some none)(m:W.nsIn K mainGlobals "zip"=some none)(b:W.nsIn K mainGlobals "enumerate"=some none)(n:W.nsIn K mainGlobals "all"=some none)(c:W.nsIn K mainGlobals "reversed"=some none):Bl o:=⟨My X G j,My X G a,My X G d,My X G k,My X G l,My X G f,My X G g,My X G e,My X G i,My X G m,My X G b,My X G n,My X G c⟩
def walk {l:W.OpenLaw}{q:Program}{loose:ZY}{XP:(ZU)->Heap->Prop}{YP:World->Heap->Prop}{d:DefRec}{K:Params->W.Frag}(hn:l.most=some 63)(hdf:d.params.defaults=[])
  (hY:∀(w:World) (h:Heap),YP w h->(K w.params).In h)
  (F:∀(w:World) (mg:ZU) (fa:Addr) (h:Heap),(K w.params).In h->h.Ns mainGlobals mg->mg d.name=some (.ref fa)->
   ∃fd:FuncData,(∀(s:Shared) (u:Value),BindsTo s fd ⟨[u],[]⟩ [("_law_script",u)])/\∀base:Heap,(K w.params).In base->base.Ns mainGlobals mg->bp l.prog w (K w.params) mg base bz 13 fa fd ["_law_script"] (tL (K w.params))):
  W.WalkO q loose XP YP l.row.toRowW d [] (λf vs=>PySem.call f vs):=
 L2.Kl (n:=63) (k:=13) (x:="_law_script") (CX:=λ_=>bz) (sp:=λw=>tL (K w.params)) hn Z1 hdf ⟨rfl,by decide,by decide⟩ hY F (λ_ _ a ns hl _ hS=>⟨a,ns,rfl,hS,hl,λ_=>rfl⟩) λ_ _ _ _ _ z=>z
end a5
/-! no twins of the heaps: these names are taken, so the library goes on with the plain heaps (and the file stays small) -/
def PySem.W.Fast.tw8546167179223326974 : Unit := ()
def PySem.W.Fast.tw4573582621948187917 : Unit := ()
def PySem.W.Fast.tw13084762841931738500 : Unit := ()
def PySem.W.Fast.tw5286932497762702926 : Unit := ()
def PySem.W.Fast.tw13298747812708960782 : Unit := ()
def PySem.W.Fast.tw3512596615969381986 : Unit := ()
def PySem.W.Fast.tw10425966846858840317 : Unit := ()
def PySem.W.Fast.tw11585203079614877372 : Unit := ()
def PySem.W.Fast.tw1279080075427066185 : Unit := ()
def PySem.W.Fast.tw17723430482686380236 : Unit := ()
def PySem.W.Fast.tw3743401902620364075 : Unit := ()
def PySem.W.Fast.tw17418871051747714109 : Unit := ()
def PySem.W.Fast.tw2150752802853016008 : Unit := ()
def PySem.W.Fast.tw5395252815507256077 : Unit := ()
def PySem.W.Fast.tw15415412347321574008 : Unit := ()
def PySem.W.Fast.tw8665609555890049806 : Unit := ()
def PySem.W.Fast.tw14274603338699011388 : Unit := ()
def PySem.W.Fast.tw5057122490656709430 : Unit := ()
def PySem.W.Fast.tw756081572397630415 : Unit := ()
def PySem.W.Fast.tw11148527992230929073 : Unit := ()
def PySem.W.Fast.tw3569545998525874651 : Unit := ()
def PySem.W.Fast.tw15720369016890095850 : Unit := ()
def PySem.W.Fast.tw17521982631362669041 : Unit := ()
def PySem.W.Fast.tw6846607575158789015 : Unit := ()
def PySem.W.Fast.tw4438966943337613993 : Unit := ()
def PySem.W.Fast.tw2501229111186977510 : Unit := ()
def PySem.W.Fast.tw15687184641845737801 : Unit := ()
def PySem.W.Fast.tw9765398274832896768 : Unit := ()
def PySem.W.Fast.tw12902754436599857678 : Unit := ()
def PySem.W.Fast.tw5504418037820276972 : Unit := ()
def PySem.W.Fast.tw12610484371192383211 : Unit := ()
def PySem.W.Fast.tw14541065418407420710 : Unit := ()
def PySem.W.Fast.tw3747223501435810860 : Unit := ()
def PySem.W.Fast.tw16006156440008936219 : Unit := ()
def PySem.W.Fast.tw2769818658155949003 : Unit := ()
def PySem.W.Fast.tw12918165221012521664 : Unit := ()
def PySem.W.Fast.tw3696546826388866191 : Unit := ()
def PySem.W.Fast.tw9694423530366802160 : Unit := ()
def PySem.W.Fast.tw14593275219303416816 : Unit := ()
def PySem.W.Fast.tw3970375416525299694 : Unit := ()
def PySem.W.Fast.tw3221487753880872759 : Unit := ()
def PySem.W.Fast.tw2000006383093206398 : Unit := ()
def PySem.W.Fast.tw1470335779741086286 : Unit := ()
def PySem.W.Fast.tw4573594311100998850 : Unit := ()
def PySem.W.Fast.tw1228956948213046198 : Unit := ()
def PySem.W.Fast.tw11297122109593789502 : Unit := ()
def PySem.W.Fast.tw17597075730422960793 : Unit := ()
def PySem.W.Fast.tw6659313689679552529 : Unit := ()
def PySem.W.Fast.tw4488865446017942237 : Unit := ()
def PySem.W.Fast.tw8253716875139487060 : Unit := ()
def PySem.W.Fast.tw1939449412116314526 : Unit := ()
def PySem.W.Fast.tw3729935807836455354 : Unit := ()
def PySem.W.Fast.tw224316785442472612 : Unit := ()
def PySem.W.Fast.tw11558734250464533513 : Unit := ()
def PySem.W.Fast.tw10573823956995537507 : Unit := ()
def PySem.W.Fast.tw2009747462188969232 : Unit := ()
def PySem.W.Fast.tw6693120869547347112 : Unit := ()
def PySem.W.Fast.tw3079668832764907780 : Unit := ()
def PySem.W.Fast.tw4804219094470891329 : Unit := ()
def PySem.W.Fast.tw16848846985808533603 : Unit := ()
def PySem.W.Fast.tw16195394661204653188 : Unit := ()
def PySem.W.Fast.tw16385989742491326995 : Unit := ()
def PySem.W.Fast.tw16874862596158922257 : Unit := ()
def PySem.W.Fast.tw6228026977419475651 : Unit := ()
def PySem.W.Fast.tw2720671038552135259 : Unit := ()
def PySem.W.Fast.tw345702999629749836 : Unit := ()
def PySem.W.Fast.tw15322759966390410343 : Unit := ()
def PySem.W.Fast.tw5125956122851403209 : Unit := ()
def PySem.W.Fast.tw17270883442299694672 : Unit := ()
def PySem.W.Fast.tw7056050979561738941 : Unit := ()
def PySem.W.Fast.tw7166529803882344111 : Unit := ()
def PySem.W.Fast.tw12807543948791446458 : Unit := ()
def PySem.W.Fast.tw5786644961194929467 : Unit := ()
def PySem.W.Fast.tw3499075413186544716 : Unit := ()
def PySem.W.Fast.tw4723995703281277280 : Unit := ()
def PySem.W.Fast.tw5192205581146013428 : Unit := ()
def PySem.W.Fast.tw1748131978517416415 : Unit := ()
open PySem PySem.W PyProof.Rows
set_option maxRecDepth 100000 in
set_option maxHeartbeats 0 in
theorem PySem.Challenge.cw_factloom_k08_whole_rounds_holds : PySem.Challenge.rw_factloom_k08_whole_rounds.Holds := by
  w_on; o_law; k_head; (case hw => w_witness2)
  k_fill
  refine a5.walk (l := PySem.Challenge.rw_factloom_k08_whole_rounds) rfl rfl (fun w h Y => PySem.W.kIn_of Y) ?F
  case F =>
    intro w mg fa h KX G hmg
    have F_is_blank := FL.cU (x := "is_blank") (st := a5.sT) KX G (by k_is) (by k_is) (by k_is) (by k_is)
    have F_filled := FL.cU (x := "filled") (st := a5.sN) KX G (by k_is) (by k_is) (by k_is) (by k_is)
    have F_matched := FL.cU (x := "matched") (st := a5.tU) KX G (by k_is) (by k_is) (by k_is) (by k_is)
    have F_is_guard := FL.cU (x := "is_guard") (st := a5.t8) KX G (by k_is) (by k_is) (by k_is) (by k_is)
    have F_blanks_in := FL.cU (x := "blanks_in") (st := a5.rT) KX G (by k_is) (by k_is) (by k_is) (by k_is)
    have F_holds := FL.cU (x := "holds") (st := a5.s_holds) KX G (by k_is) (by k_is) (by k_is) (by k_is)
    have F_askers_in := FL.cU (x := "askers_in") (st := a5.rY) KX G (by k_is) (by k_is) (by k_is) (by k_is)
    have F_guards_in := FL.cU (x := "guards_in") (st := a5.sZ) KX G (by k_is) (by k_is) (by k_is) (by k_is)
    have F_slots_of := FL.cU (x := "slots_of") (st := a5.qN) KX G (by k_is) (by k_is) (by k_is) (by k_is)
    have F_is_ready := FL.cU (x := "is_ready") (st := a5.tI) KX G (by k_is) (by k_is) (by k_is) (by k_is)
    have F_steps_for := FL.cU (x := "steps_for") (st := a5.ti) KX G (by k_is) (by k_is) (by k_is) (by k_is)
    have F_refuse_loose := FL.cU (x := "refuse_loose") (st := a5.sx) KX G (by k_is) (by k_is) (by k_is) (by k_is)
    have F_check_body := FL.cU (x := "check_body") (st := a5.qL) KX G (by k_is) (by k_is) (by k_is) (by k_is)
    have F_check_rule := FL.cU (x := "check_rule") (st := a5.qP) KX G (by k_is) (by k_is) (by k_is) (by k_is)
    have F_facts_of := FL.cU (x := "facts_of") (st := a5.tT) KX G (by k_is) (by k_is) (by k_is) (by k_is)
    have F_reasons_by_round := FL.cU (x := "reasons_by_round") (st := a5.tq) KX G (by k_is) (by k_is) (by k_is) (by k_is)
    have F_rounds := FL.cU (x := "rounds") (st := a5.qW) KX G (by k_is) (by k_is) (by k_is) (by k_is)
    have F_law_at := FL.cU (x := "_law_at") (st := a5.sU) KX G (by k_is) (by k_is) (by k_is) (by k_is)
    have F_law_whole := FL.cU (x := "_law_whole") (st := a5.qG) KX G (by k_is) (by k_is) (by k_is) (by k_is)
    have F_law_mixed := FL.cU (x := "_law_mixed") (st := a5.uu) KX G (by k_is) (by k_is) (by k_is) (by k_is)
    have F_law_is_fact := FL.cU (x := "_law_is_fact") (st := a5.ug) KX G (by k_is) (by k_is) (by k_is) (by k_is)
    have F_law_blanks_in := FL.cU (x := "_law_blanks_in") (st := a5.sj) KX G (by k_is) (by k_is) (by k_is) (by k_is)
    have F_law_pool_by := FL.cU (x := "_law_pool_by") (st := a5.uj) KX G (by k_is) (by k_is) (by k_is) (by k_is)
    have F_law_fill_in := FL.cU (x := "_law_fill_in") (st := a5.tP) KX G (by k_is) (by k_is) (by k_is) (by k_is)
    have F_law_true := FL.cU (x := "_law_true") (st := a5.ro) KX G (by k_is) (by k_is) (by k_is) (by k_is)
    have F_law_menu_by := FL.cU (x := "_law_menu_by") (st := a5.uc) KX G (by k_is) (by k_is) (by k_is) (by k_is)
    have F_law_rules_by := FL.cU (x := "_law_rules_by") (st := a5.qQ) KX G (by k_is) (by k_is) (by k_is) (by k_is)
    have F_law_choices := FL.cU (x := "_law_choices") (st := a5.sO) KX G (by k_is) (by k_is) (by k_is) (by k_is)
    have F_law_alike := FL.cU (x := "_law_alike") (st := a5.sw) KX G (by k_is) (by k_is) (by k_is) (by k_is)
    have F_law_stays := FL.cU (x := "_law_stays") (st := a5.rB) KX G (by k_is) (by k_is) (by k_is) (by k_is)
    have F_law_latest_of := FL.cU (x := "_law_latest_of") (st := a5.rj) KX G (by k_is) (by k_is) (by k_is) (by k_is)
    have F_law_no_sooner := FL.cU (x := "_law_no_sooner") (st := a5.rX) KX G (by k_is) (by k_is) (by k_is) (by k_is)
    have c_Step := a5.mX KX G (by k_is) (by k_is) (by k_is) (by k_is) (by k_is) (by k_is) (by k_is) (by k_is) (by k_is) (by k_is) (by k_is) (by k_is) (by k_is) (by k_is) (by k_is) (by k_is) (by k_is) (by k_is) (by k_is) (by k_is) (by k_is) (by k_is) (by k_is) (by k_is) (by k_is) (by k_is) (by k_is) (by k_is) (by k_is) (by k_is) (by k_is) (by k_is)
    have c_Loom := a5.mw KX G (by k_is) (by k_is) (by k_is) (by k_is) (by k_is) (by k_is) (by k_is) (by k_is) (by k_is) (by k_is) (by k_is) (by k_is) (by k_is) (by k_is) (by k_is) (by k_is) (by k_is) (by k_is) (by k_is) (by k_is) (by k_is) (by k_is) (by k_is) (by k_is) (by k_is) (by k_is) (by k_is) (by k_is) (by k_is) (by k_is) (by k_is) (by k_is) (by k_is) (by k_is) (by k_is) (by k_is) (by k_is)
    have c_Weaving := a5.ni KX G (by k_is) (by k_is) (by k_is) (by k_is) (by k_is) (by k_is) (by k_is) (by k_is) (by k_is) (by k_is) (by k_is) (by k_is) (by k_is) (by k_is) (by k_is) (by k_is) (by k_is) (by k_is) (by k_is) (by k_is) (by k_is) (by k_is) (by k_is) (by k_is) (by k_is)
    have B := a5.Gx KX G (by k_is) (by k_is) (by k_is) (by k_is) (by k_is) (by k_is) (by k_is) (by k_is) (by k_is) (by k_is) (by k_is) (by k_is) (by k_is)
    have W := a5.HM KX G hmg (by k_is) (by k_is) (by k_is) (by k_is)
    have u_LESS := a5.Kc KX G (by k_is)
    have u_UNLIKE := a5.FU KX G (by k_is)
    have B_max := a5.Fj KX G (by k_is)
    obtain ⟨f_is_blank, d_is_blank, F_is_blank⟩ := F_is_blank
    obtain ⟨f_filled, d_filled, F_filled⟩ := F_filled
    obtain ⟨f_matched, d_matched, F_matched⟩ := F_matched
    obtain ⟨f_is_guard, d_is_guard, F_is_guard⟩ := F_is_guard
    obtain ⟨f_blanks_in, d_blanks_in, F_blanks_in⟩ := F_blanks_in
    obtain ⟨f_holds, d_holds, F_holds⟩ := F_holds
    obtain ⟨f_askers_in, d_askers_in, F_askers_in⟩ := F_askers_in
    obtain ⟨f_guards_in, d_guards_in, F_guards_in⟩ := F_guards_in
    obtain ⟨f_slots_of, d_slots_of, F_slots_of⟩ := F_slots_of
    obtain ⟨f_is_ready, d_is_ready, F_is_ready⟩ := F_is_ready
    obtain ⟨f_steps_for, d_steps_for, F_steps_for⟩ := F_steps_for
    obtain ⟨f_refuse_loose, d_refuse_loose, F_refuse_loose⟩ := F_refuse_loose
    obtain ⟨f_check_body, d_check_body, F_check_body⟩ := F_check_body
    obtain ⟨f_check_rule, d_check_rule, F_check_rule⟩ := F_check_rule
    obtain ⟨f_facts_of, d_facts_of, F_facts_of⟩ := F_facts_of
    obtain ⟨f_reasons_by_round, d_reasons_by_round, F_reasons_by_round⟩ := F_reasons_by_round
    obtain ⟨f_rounds, d_rounds, F_rounds⟩ := F_rounds
    obtain ⟨f_law_at, d_law_at, F_law_at⟩ := F_law_at
    obtain ⟨f_law_whole, d_law_whole, F_law_whole⟩ := F_law_whole
    obtain ⟨f_law_mixed, d_law_mixed, F_law_mixed⟩ := F_law_mixed
    obtain ⟨f_law_is_fact, d_law_is_fact, F_law_is_fact⟩ := F_law_is_fact
    obtain ⟨f_law_blanks_in, d_law_blanks_in, F_law_blanks_in⟩ := F_law_blanks_in
    obtain ⟨f_law_pool_by, d_law_pool_by, F_law_pool_by⟩ := F_law_pool_by
    obtain ⟨f_law_fill_in, d_law_fill_in, F_law_fill_in⟩ := F_law_fill_in
    obtain ⟨f_law_true, d_law_true, F_law_true⟩ := F_law_true
    obtain ⟨f_law_menu_by, d_law_menu_by, F_law_menu_by⟩ := F_law_menu_by
    obtain ⟨f_law_rules_by, d_law_rules_by, F_law_rules_by⟩ := F_law_rules_by
    obtain ⟨f_law_choices, d_law_choices, F_law_choices⟩ := F_law_choices
    obtain ⟨f_law_alike, d_law_alike, F_law_alike⟩ := F_law_alike
    obtain ⟨f_law_stays, d_law_stays, F_law_stays⟩ := F_law_stays
    obtain ⟨f_law_latest_of, d_law_latest_of, F_law_latest_of⟩ := F_law_latest_of
    obtain ⟨f_law_no_sooner, d_law_no_sooner, F_law_no_sooner⟩ := F_law_no_sooner
    obtain ⟨A_Step, c_Step, T_asker, T_shared, T_guards, T_offers, T_newest, ⟨f_Step_init, d_Step_init, F_Step_init⟩, ⟨f_Step_offer, d_Step_offer, F_Step_offer⟩, ⟨f_Step_allows, d_Step_allows, F_Step_allows⟩, ⟨f_Step_carry_on, d_Step_carry_on, F_Step_carry_on⟩⟩ := c_Step
    obtain ⟨A_Loom, c_Loom, TL_steps, TL_is_barred, TL_taken_in, TL_fresh, TL_last_fresh_step, ⟨f_Loom_init, d_Loom_init, F_Loom_init⟩, ⟨f_Loom_take_in, d_Loom_take_in, F_Loom_take_in⟩, ⟨f_Loom_beginnings, d_Loom_beginnings, F_Loom_beginnings⟩, ⟨f_Loom_is_whole, d_Loom_is_whole, F_Loom_is_whole⟩, ⟨f_Loom_carried_on, d_Loom_carried_on, F_Loom_carried_on⟩⟩ := c_Loom
    obtain ⟨A_Weaving, c_Weaving, TW_rules, TW_looms, TW_told, ⟨f_Weaving_given_by, d_Weaving_given_by, F_Weaving_given_by⟩, ⟨f_Weaving_one_round, d_Weaving_one_round, F_Weaving_one_round⟩, ⟨f_Weaving_init, d_Weaving_init, F_Weaving_init⟩⟩ := c_Weaving
    obtain ⟨t_LESS, c_LESS⟩ := u_LESS
    obtain ⟨t_UNLIKE, c_UNLIKE⟩ := u_UNLIKE
    obtain ⟨fd, hb, F_law⟩ := W
    exact ⟨fd, hb, fun base _ _ => a5.all_mk B F_law F_is_blank F_filled F_matched F_is_guard F_blanks_in F_holds F_askers_in F_guards_in F_slots_of F_is_ready F_steps_for F_refuse_loose F_check_body F_check_rule F_facts_of F_reasons_by_round F_rounds F_law_at F_law_whole F_law_mixed F_law_is_fact F_law_blanks_in F_law_pool_by F_law_fill_in F_law_true F_law_menu_by F_law_rules_by F_law_choices F_law_alike F_law_stays F_law_latest_of F_law_no_sooner F_Step_init F_Step_offer F_Step_allows F_Step_carry_on F_Loom_init F_Loom_take_in F_Loom_beginnings F_Loom_is_whole F_Loom_carried_on F_Weaving_given_by F_Weaving_one_round F_Weaving_init c_Step T_asker T_shared T_guards T_offers T_newest c_Loom TL_steps TL_is_barred TL_taken_in TL_fresh TL_last_fresh_step c_Weaving TW_rules TW_looms TW_told c_LESS c_UNLIKE B_max⟩
